import PyProof.Rows.All
import Wide.All
import OpenK.AllK
import Wide.FinOn
import Lean
import PyProof.EqAt
import PyProof.EqKinds
import PyProof.TupleCall
import PySem.Challenge.RW_lowwater_k06_sums_put_in
set_option Elab.async false
set_option linter.all false
set_option compiler.extract_closed false
set_option genSizeOfSpec false
set_option maxRecDepth 100000
set_option maxHeartbeats 4000000
local macro_rules(kind:=«term{_}»)|`({$xs,*})=>`(⟨$xs,*⟩)
local macro_rules|`(∎)=>`(by first|lia|omega)|`(tactic|∎)=>`(tactic|first|lia|omega)|`(tactic|let $d:letDecl)=>`(tactic|have $d:letDecl)
noncomputable section
section
open PySem PySem.Spec PyProof PyProof.Rows
theorem uP{n:Nat}:n<=n:=Nat.le_refl n
theorem uQ{n:Int}:n<=n:=Int.le_refl n
theorem uR:2<=sizeLine:=by decide
theorem uS:4<=sizeLine:=by decide
theorem uT:type_of%@List.getD_eq_getElem?_getD:=@List.getD_eq_getElem?_getD
theorem uU:type_of%@List.getElem?_append_right:=@List.getElem?_append_right
theorem uV:type_of%@Classical.byContradiction:=@Classical.byContradiction
theorem uW:type_of%@List.getElem?_eq_some_iff:=@List.getElem?_eq_some_iff
theorem uX:type_of%@List.getElem?_append_left:=@List.getElem?_append_left
theorem uY:type_of%@List.getElem?_eq_getElem:=@List.getElem?_eq_getElem
theorem uZ:type_of%@List.getElem?_take_of_lt:=@List.getElem?_take_of_lt
theorem gA:type_of%@Int.eq_ofNat_of_zero_le:=@Int.eq_ofNat_of_zero_le
theorem gC:type_of%@Heap.get?_push_of_some:=@Heap.get?_push_of_some
theorem gD:type_of%@List.take_of_length_le:=@List.take_of_length_le
theorem gF:type_of%@List.drop_of_length_le:=@List.drop_of_length_le
theorem gH:type_of%@List.mem_append_right:=@List.mem_append_right
theorem gI:type_of%@List.length_replicate:=@List.length_replicate
theorem gJ:type_of%@List.getElem?_eq_none:=@List.getElem?_eq_none
theorem gK:type_of%@List.mem_iff_getElem?:=@List.mem_iff_getElem?
theorem gL:type_of%@List.mem_of_getElem?:=@List.mem_of_getElem?
theorem gM:type_of%@List.mem_cons_of_mem:=@List.mem_cons_of_mem
theorem gO:type_of%@Nat.pow_le_pow_right:=@Nat.pow_le_pow_right
theorem gP:type_of%@Nat.pow_lt_pow_right:=@Nat.pow_lt_pow_right
theorem gR:type_of%@Nat.mul_le_mul_right:=@Nat.mul_le_mul_right
theorem gT:type_of%@List.mem_of_mem_take:=@List.mem_of_mem_take
theorem gU:type_of%@Heap.get?_push_size:=@Heap.get?_push_size
theorem gW:type_of%@Nat.mul_le_mul_left:=@Nat.mul_le_mul_left
theorem gX:type_of%@Nat.lt_of_le_of_lt:=@Nat.lt_of_le_of_lt
theorem gY:type_of%@Bool.false_ne_true:=@Bool.false_ne_true
theorem gZ:type_of%@Nat.lt_of_lt_of_le:=@Nat.lt_of_lt_of_le
theorem hJ:type_of%@List.mem_singleton:=@List.mem_singleton
theorem hU:type_of%@List.mem_cons_self:=@List.mem_cons_self
theorem hV:type_of%@PySem.W.mg_none_of:=@PySem.W.mg_none_of
theorem mB:type_of%@List.getElem?_map:=@List.getElem?_map
theorem mC:type_of%@List.size_toArray:=@List.size_toArray
theorem mD:type_of%@List.take_add_one:=@List.take_add_one
theorem mG:type_of%@of_decide_eq_true:=@of_decide_eq_true
theorem mH:type_of%@List.nodup_append:=@List.nodup_append
theorem mI:type_of%@Int.gcd_dvd_right:=@Int.gcd_dvd_right
theorem mJ:type_of%@List.length_take:=@List.length_take
theorem mK:type_of%@List.not_mem_nil:=@List.not_mem_nil
theorem mL:type_of%@List.take_length:=@List.take_length
theorem mN:type_of%@List.length_cons:=@List.length_cons
theorem mO:type_of%@List.getElem_mem:=@List.getElem_mem
theorem mP:type_of%@Int.gcd_dvd_left:=@Int.gcd_dvd_left
theorem mQ:type_of%@Nat.lt_succ_self:=@Nat.lt_succ_self
theorem mR:type_of%@List.filter_cons:=@List.filter_cons
theorem mS:type_of%@List.length_map:=@List.length_map
theorem mT:type_of%@List.map_append:=@List.map_append
theorem mU:type_of%@decide_eq_false:=@decide_eq_false
theorem mV:type_of%@List.mem_append:=@List.mem_append
theorem mW:type_of%@decide_eq_true:=@decide_eq_true
theorem mX:type_of%@List.mem_range:=@List.mem_range
theorem mY:type_of%@Nat.mul_le_mul:=@Nat.mul_le_mul
theorem mZ:type_of%@List.nodup_nil:=@List.nodup_nil
theorem nG:type_of%@Heap.size_push:=@Heap.size_push
theorem nH:type_of%@List.map_cons:=@List.map_cons
theorem nI:type_of%@List.mem_cons:=@List.mem_cons
theorem nJ:type_of%@Nat.lt_irrefl:=@Nat.lt_irrefl
theorem nM:type_of%@List.sum_cons:=@List.sum_cons
theorem nN:type_of%@List.map_take:=@List.map_take
theorem nO:type_of%@PySem.W.mg_of:=@PySem.W.mg_of
theorem nP:type_of%@Heap.lt_size:=@Heap.lt_size
theorem nQ:type_of%@Nat.le_trans:=@Nat.le_trans
theorem nS:type_of%@Nat.ne_of_lt:=@Nat.ne_of_lt
theorem nT:type_of%@List.mem_map:=@List.mem_map
theorem nU:type_of%@Rat.zero_add:=@Rat.zero_add
theorem nV:type_of%@Rat.add_zero:=@Rat.add_zero
theorem nW:type_of%@Rat.zero_mul:=@Rat.zero_mul
theorem nX:type_of%@List.map_map:=@List.map_map
theorem nY:type_of%@Nat.le_of_lt:=@Nat.le_of_lt
theorem nZ:type_of%@Nat.add_zero:=@Nat.add_zero
theorem tD:type_of%@Int.mul_comm:=@Int.mul_comm
theorem tE:type_of%@Nat.le_refl:=@Nat.le_refl
theorem tF:type_of%@Nat.zero_le:=@Nat.zero_le
theorem tG:type_of%@Int.mul_pos:=@Int.mul_pos
theorem tH:type_of%@Rat.div_def:=@Rat.div_def
theorem tJ:type_of%@Int.le_refl:=@Int.le_refl
theorem tK:type_of%@wpAny_bind:=@wpAny_bind
theorem tL:type_of%@wpAny_pure:=@wpAny_pure
theorem tM:type_of%@wpAny_mono:=@wpAny_mono
theorem tN:type_of%@if_neg:=@if_neg
theorem tO:type_of%@if_pos:=@if_pos
abbrev tP:=PySem.W.Frag
end
namespace L2
open PySem PySem.Spec PyProof.Rows
def inClass(s:Stmt)(j:Nat):Stmt:=match s with
 | .ClassDef _ _ _ body _ _ _ _ _ _ _=>body.getD j (.Pass {0,0,0,(0)})
 | _=>.Pass {0,0,0,(0)}
def xC(s:Stmt):Arguments:=match s with
 | .FunctionDef _ a _ _ _ _ _ _ _ _=>a
 | _=>{ posonlyargs:=[],args:=[],vararg:=none,kwonlyargs:=[],kw_defaults:=[],kwarg:=none,defaults:=[] }
def vS(s:Stmt):List Stmt:=match s with
 | .FunctionDef _ _ b _ _ _ _ _ _ _=>b
 | _=>[]
def jI(s:Stmt):Scope:=match s with
 | .FunctionDef _ _ _ _ _ _ sc _ _ _=>sc
 | _=>{ kind:=.function,names:=[],isGenerator:=false,isCoroutine:=false }
end L2
namespace Lw
open PySem PySem.Spec PyProof.Rows L2
def top(i:Nat):Stmt:=PySem.Challenge.pw_lowwater_k06_sums_put_in.main.body.getD i (.Pass {0,0,0,(0)})
abbrev SZ:Stmt:=top 15
abbrev JL:Stmt:=top 16
abbrev sMul:Stmt:=top 17
abbrev WI:Stmt:=top 18
abbrev wY:Stmt:=top 25
abbrev BW:Stmt:=top 26
abbrev OR:Stmt:=top 27
abbrev GV:Stmt:=top 28
abbrev GX:Stmt:=top 29
abbrev BU:Stmt:=top 30
abbrev OU:Stmt:=top 31
abbrev HJ:Stmt:=top 32
abbrev BS:Stmt:=top 33
abbrev BV:Stmt:=top 34
abbrev BR:Stmt:=top 35
abbrev GZ:Stmt:=top 36
abbrev CY:Stmt:=top 38
abbrev SY:Stmt:=top 39
abbrev OT:Stmt:=top 40
abbrev OV:Stmt:=top 41
abbrev SX:Stmt:=top 42
abbrev HL:Stmt:=top 43
abbrev OS:Stmt:=top 44
abbrev FA:Stmt:=top 46
abbrev BX:Stmt:=top 47
abbrev GY:Stmt:=top 48
abbrev OW:Stmt:=top 49
abbrev wX:Stmt:=top 50
abbrev BY:Stmt:=top 51
abbrev WH:Stmt:=top 52
abbrev CZ:Stmt:=top 53
abbrev BQ:Stmt:=top 54
abbrev OX:Stmt:=top 55
abbrev HK:Stmt:=top 56
abbrev MR:Stmt:=top 57
inductive FnAt(K:tP)(x:Str)(st:Stmt):Prop
 | mk {f:Addr} {oc kV dc pm cd ct:Value} {od an:Option Addr} {sl:Array (Option Value)} (a:PySem.W.nsIn K mainGlobals x=some (some (.ref f))) (l:K.lookup f=some {oc,od,.func (PySem.W.fnOf x x (xC st) (vS st) (jI st) .none kV dc pm an cd ct),sl}) (c:PySem.W.codeIn K cd x=true) (k:PySem.W.keepIn K (.ref f)=true)
inductive PrAt(K:tP)(x:Str)(i j:Int):Prop
 | mk {f:Addr} {od:Option Addr} {sl:Array (Option Value)} {t u:Tok} {n:Nat} (a:PySem.W.nsIn K mainGlobals x=some (some (.ref f))) (l:K.lookup f=some {.type "tuple",od,.seq #[.int i t,.int j u] n,sl})
inductive IntAt(K:tP)(x:Str)(i:Int):Prop
 | mk {t:Tok} (a:PySem.W.nsIn K mainGlobals x=some (some (.int i t)))
abbrev zO:Stmt:=inClass (top 1) 0
inductive C8At(K:tP)(st:Stmt):Prop
 | mk {fI tI cq cD e1 e2 e3 e4 e5 e6 e7 Nq Nd:Addr} {odI anI odt:Option Addr} {slI slt:Array (Option Value)} {itt:Array Value} {nt:Nat} {ocI kVI dcI pmI cdI ctI oct:Value} {bl bd:List Value}
  (m1:PySem.W.nsIn K mainGlobals "TooGreat" = some (some (.ref cq)))
  (m2:PySem.W.nsIn K mainGlobals "LowwaterError" = some (some (.ref cD)))
  (m3:PySem.W.nsIn K mainGlobals "NoLine" = some (some (.ref e1)))
  (m4:PySem.W.nsIn K mainGlobals "NoQuotient" = some (some (.ref e2)))
  (m5:PySem.W.nsIn K mainGlobals "NoRow" = some (some (.ref e3)))
  (m6:PySem.W.nsIn K mainGlobals "NoText" = some (some (.ref e4)))
  (m7:PySem.W.nsIn K mainGlobals "NotSecond" = some (some (.ref e5)))
  (m8:PySem.W.nsIn K mainGlobals "NotStraight" = some (some (.ref e6)))
  (m9:PySem.W.nsIn K mainGlobals "TooMany" = some (some (.ref e7)))
  {nmq qnq:Str} {bsq subq:List Value} {hdq abq:Bool} {snq:List Str} {colq:Option Bool} {ddq:Option Addr} {x0q x1q x2q x3q x5q:Option Value}
  (wqo:K.lookup cq=some (excClassObj nmq qnq cq Nq bsq bl hdq snq subq abq colq ddq x0q x1q x2q x3q x5q "ValueError.__new__"))
  (wqb:bl.contains (.type "ValueError")=true)
  (wqe:bl.contains (.type "BaseException")=true)
  (wqa:bl.contains (.type "AttributeError")=false)
  (wqn:bl.contains (.type "NameError")=false)
  (wqi:PySem.W.findIn K (.ref cq) "__init__" = some (some (.ref fI)))
  (wqk:PySem.W.keepIn K (.ref cq)=true)
  (wqg:PySem.W.findIn K (.ref cq) "__getattribute__" = some (some (.builtin "BaseException.__getattribute__")))
  (wqh:PySem.W.findIn K (.ref cq) "__getattr__" = some none)
  (wqc:PySem.W.findIn K (.ref cq) "__class__" = some (some (.builtin "object.__class__")))
  (wqm:PySem.W.mroIn K cq (.type "object")=some true)
  {nmd qnd:Str} {bsd subd:List Value} {hdd abd:Bool} {snd:List Str} {cold:Option Bool} {ddd:Option Addr} {x0d x1d x2d x3d x5d:Option Value}
  (wdo:K.lookup cD=some (excClassObj nmd qnd cD Nd bsd bd hdd snd subd abd cold ddd x0d x1d x2d x3d x5d "ValueError.__new__"))
  (wdb:bd.contains (.type "ValueError")=true)
  (wde:bd.contains (.type "BaseException")=true)
  (wda:bd.contains (.type "AttributeError")=false)
  (wdn:bd.contains (.type "NameError")=false)
  (wdi:PySem.W.findIn K (.ref cD) "__init__" = some (some (.ref fI)))
  (wdk:PySem.W.keepIn K (.ref cD)=true)
  (wdg:PySem.W.findIn K (.ref cD) "__getattribute__" = some (some (.builtin "BaseException.__getattribute__")))
  (wdh:PySem.W.findIn K (.ref cD) "__getattr__" = some none)
  (wdc:PySem.W.findIn K (.ref cD) "__class__" = some (some (.builtin "object.__class__")))
  (wdm:PySem.W.mroIn K cD (.type "object")=some true)
  (iL:K.lookup fI=some {ocI,odI,.func (PySem.W.fnOf "__init__" "LowwaterError.__init__" (xC st) (vS st) (jI st) (.ref tI) kVI dcI pmI anI cdI ctI),slI})
  (iC:PySem.W.codeIn K cdI "LowwaterError.__init__" = true)
  (iT:K.lookup tI=some {oct,odt,.seq itt nt,slt})
  (iN:itt.size=1)
  (iF:PySem.W.typeIn K (.ref fI)=some (.type "function"))
  (up:bl.contains (.ref cD)=true)
  (ve:PySem.W.kitOne K (.ref cq) (.type "ValueError")=some true)
  (no:PySem.W.kitAny K (.ref cq) [.ref e1,.ref e2,.ref e3,.ref e4,.ref e5,.ref e6,.ref e7]=some false)
  (nn:PySem.W.kitAny K (.type "NoneType") [.ref e1,.ref e2,.ref e3,.ref e4,.ref e5,.ref e6,.ref e7]=some false)
structure Facts(K:tP):Prop where
 f1:FnAt K "greatest_divisor" SZ
 f2:FnAt K "added" JL
 f3:FnAt K "multiplied" sMul
 f4:FnAt K "divided" WI
 f5:FnAt K "degree" wY
 f6:FnAt K "packed" BW
 f7:FnAt K "unpacked" OR
 f8:FnAt K "table_of" GV
 f9:FnAt K "sum_of" GX
 f10:FnAt K "tables_added" BU
 f11:FnAt K "levelled" OU
 f12:FnAt K "heap_total" HJ
 f13:FnAt K "tables_multiplied" BS
 f14:FnAt K "parted" BV
 f15:FnAt K "table_put_in" BR
 f16:FnAt K "put_in" GZ
 f17:FnAt K "_law_draw" CY
 f18:FnAt K "_law_low" SY
 f19:FnAt K "_law_plus" OT
 f20:FnAt K "_law_mul" OV
 f21:FnAt K "_law_put" SX
 f22:FnAt K "_law_added" HL
 f23:FnAt K "_law_product" OS
 f24:FnAt K "_law_sum" FA
 f25:FnAt K "_law_number" BX
 f26:FnAt K "_law_small" GY
 f27:FnAt K "_law_degree" OW
 f28:FnAt K "_law_lowered" wX
 f29:FnAt K "_law_put_in" BY
 f30:FnAt K "_law_due" WH
 f31:FnAt K "_law_asked" CZ
 f32:FnAt K "_law_whole_parts" BQ
 f33:FnAt K "_law_grid" OX
 f34:FnAt K "_law_great_right" HK
 f35:FnAt K "law" MR
 z1:PySem.W.nsIn K mainGlobals "isinstance" = some none
 z2:PySem.W.nsIn K mainGlobals "len" = some none
 z3:PySem.W.nsIn K mainGlobals "int" = some none
 z4:PySem.W.nsIn K mainGlobals "bool" = some none
 z5:PySem.W.nsIn K mainGlobals "tuple" = some none
 z6:PySem.W.nsIn K mainGlobals "list" = some none
 z7:PySem.W.nsIn K mainGlobals "abs" = some none
 z8:PySem.W.nsIn K mainGlobals "range" = some none
 z9:PySem.W.nsIn K mainGlobals "sum" = some none
 z10:PySem.W.nsIn K mainGlobals "zip" = some none
 z11:PySem.W.nsIn K mainGlobals "sorted" = some none
 z12:PySem.W.nsIn K mainGlobals "max" = some none
 z13:PySem.W.nsIn K mainGlobals "reversed" = some none
 z14:PySem.W.nsIn K mainGlobals "dict" = some none
 z15:PySem.W.nsIn K mainGlobals "ValueError" = some none
 v1:IntAt K "LONG_BITS" 8000
 v2:IntAt K "MOST_DEGREE" 16
 v3:IntAt K "MOST_TERMS" 500
 v4:IntAt K "PACK" 256
 v5:IntAt K "SHORT_BITS" 1500
 n1:PrAt K "NOUGHT" 0 1
 c8:C8At K zO
end Lw
section
open PySem PySem.W PyProof.Rows
namespace Lw
def view06:Program:={ PySem.Challenge.pw_lowwater_k06_sums_put_in with main:={ PySem.Challenge.pw_lowwater_k06_sums_put_in.main with body:=([1,2,3,4,5,6,7,8,9,11,12,13,14,15,16,17,18,20,21,22,23,24,25,26,27,28,29,30,31,32,33,34,35,36,38,39,40,41,42,43,44,45,46,47,48,49,50,51,52,53,54,55,56,57]:List Nat).filterMap λi=>PySem.Challenge.pw_lowwater_k06_sums_put_in.main.body[i]? } }
end Lw
set_option maxRecDepth 100000 in
set_option maxHeartbeats 0 in
theorem Lw.said:OpenLaw.wellSaid PySem.Challenge.rw_lowwater_k06_sums_put_in=true:=by kernel_rfl
local macro_rules | `(tactic| o_law)=>`(tactic| refine holds_law Lw.said λsaid=>?_)
local macro_rules | `(tactic| o_head $H)=>`(tactic| refine holds_open (q:=Lw.view06) (loose:=[Str.ofString "LowwaterError"]) (Xt:=λs=>xlAt Lw.view06 [] s&&recOk (RowW.records (PySem.Challenge.rw_lowwater_k06_sums_put_in).row.toRowW) s) (XP:=XL Lw.view06 []) (Yf:=Hook.obs $H) (Ya:=Hook.val $H) (YP:=Hook.says $H) (N:=6584) (λw=>by unfold openEnds fencedOpening topFrom;rw[PySem.W.Fast.te10274390034422433532,PySem.W.Fast.te14082659384304107361,PySem.W.Fast.te1435165496053646825,PySem.W.Fast.te14289696077712309145,PySem.W.Fast.te8920871248978507458,PySem.W.Fast.te14364793385576792824,PySem.W.Fast.te4187177175401517315];kernel_rfl) (Hook.of $H) (Hook.keeps $H) (λs e=>xl_of s (Bool.and_eq_true_iff.mp e).1) XL.keeps (by rfl) (by rfl) (by rfl) (λs e=>recFacts_of (Bool.and_eq_true_iff.mp e).2) (by rfl) (by first | assumption | decide +kernel) (by decide +kernel) {rfl,rfl,rfl,rfl,rfl,by decide +kernel} ?hw ?hc)
set_option maxRecDepth 100000 in
set_option maxHeartbeats 0 in
theorem Lw.head(hn:∀(K:Params->Frag) (YP:World->Heap->Prop) (d:DefRec),(∀p,Lw.Facts (K p))->(∀w h,YP w h->(K w.params).In h)->d.params.defaults=[]->d.name="law"->WalkO Lw.view06 [Str.ofString "LowwaterError"] (XL Lw.view06 []) YP PySem.Challenge.rw_lowwater_k06_sums_put_in.row.toRowW d [] λf vs=>PySem.call f vs):PySem.Challenge.rw_lowwater_k06_sums_put_in.Holds:=by
 w_on;o_law;k_head;(case hw=>w_witness2)
 k_fill
 refine hn _ _ _ ?f (λw h Y=>kIn_of Y) rfl rfl;case f=>
  intro p;constructor;case c8=>
   refine' .mk ?m1 ?m2 ?m3 ?m4 ?m5 ?m6 ?m7 ?m8 ?m9 ?wqo ?wqb ?wqe ?wqa ?wqn ?wqi ?wqk ?wqg ?wqh ?wqc ?wqm ?wdo ?wdb ?wde ?wda ?wdn ?wdi ?wdk ?wdg ?wdh ?wdc ?wdm ?iL ?iC ?iT ?iN ?iF ?up ?ve ?no ?nn
   (case m1=>first | k_is | rfl | decide +kernel)
   (case m2=>first | k_is | rfl | decide +kernel)
   (case m3=>first | k_is | rfl | decide +kernel)
   (case m4=>first | k_is | rfl | decide +kernel)
   (case m5=>first | k_is | rfl | decide +kernel)
   (case m6=>first | k_is | rfl | decide +kernel)
   (case m7=>first | k_is | rfl | decide +kernel)
   (case m8=>first | k_is | rfl | decide +kernel)
   (case m9=>first | k_is | rfl | decide +kernel)
   (case wqo=>first | k_is | rfl | decide +kernel)
   (case wqb=>first | k_is | rfl | decide +kernel)
   (case wqe=>first | k_is | rfl | decide +kernel)
   (case wqa=>first | k_is | rfl | decide +kernel)
   (case wqn=>first | k_is | rfl | decide +kernel)
   (case wqi=>first | k_is | rfl | decide +kernel)
   (case wqk=>first | k_is | rfl | decide +kernel)
   (case wqg=>first | k_is | rfl | decide +kernel)
   (case wqh=>first | k_is | rfl | decide +kernel)
   (case wqc=>first | k_is | rfl | decide +kernel)
   (case wqm=>first | k_is | rfl | decide +kernel)
   (case wdo=>first | k_is | rfl | decide +kernel)
   (case wdb=>first | k_is | rfl | decide +kernel)
   (case wde=>first | k_is | rfl | decide +kernel)
   (case wda=>first | k_is | rfl | decide +kernel)
   (case wdn=>first | k_is | rfl | decide +kernel)
   (case wdi=>first | k_is | rfl | decide +kernel)
   (case wdk=>first | k_is | rfl | decide +kernel)
   (case wdg=>first | k_is | rfl | decide +kernel)
   (case wdh=>first | k_is | rfl | decide +kernel)
   (case wdc=>first | k_is | rfl | decide +kernel)
   (case wdm=>first | k_is | rfl | decide +kernel)
   (case iL=>first | k_is | rfl | decide +kernel)
   (case iC=>first | k_is | rfl | decide +kernel)
   (case iT=>first | k_is | rfl | decide +kernel)
   (case iN=>first | k_is | rfl | decide +kernel)
   (case iF=>first | k_is | rfl | decide +kernel)
   (case up=>first | k_is | rfl | decide +kernel)
   (case ve=>first | k_is | rfl | decide +kernel)
   (case no=>first | k_is | rfl | decide +kernel)
   (case nn=>first | k_is | rfl | decide +kernel)
  all_goals first | (refine' .mk ?a ?l ?c ?k;(case a=>k_is);(case l=>k_is);(case c=>k_is);(case k=>k_is)) | (refine' .mk ?a ?l;(case a=>k_is);(case l=>k_is)) | (refine' .mk ?v;(case v=>k_is)) | k_is
end
set_option autoImplicit true
set_option relaxedAutoImplicit true
set_option hygiene false in
local macro_rules|`(#[0])=>`(by decide)|`(#[1])=>`(model X.prog X.w)|`(#[2])=>`(by decide +kernel)|`(#[3])=>`(model prog w)|`(#[4])=>`(λcdv A outer s H vs Q E hr h=>?_)|`(#[5])=>`(Or.inl rfl)|`(#[6])=>`(xO (CXF P w) P w K mg base N qual scope f cd A outer s0 H0 E)|`(#[7])=>`(jL X N scope cl C fp s2 H2)|`(#[8])=>`(rI (λ_ j=>0<j) λi j=>.int (i%j))|`(#[9])=>`(λvs H Q E h=>?_)|`(#[10])=>`(Nat.add_le_add_left (by decide:1<=64) _)|`(#[11])=>`(λ_ _=>rfl)|`(#[12])=>`(relabel scope X.env)|`(#[13])=>`(Addr×Obj)|`(#[14])=>`(by simp)|`(#[15])=>`(backToKw pos (keywordEach [{some "default",e2,kpos}] X.env))|`(#[16])=>`(ns.map V.int)|`(#[17])=>`(List Key×Addr×Value)|`(#[18])=>`(excClassObj nm q C N bs bl hd sn sub ab col dd a0 a1 a2 a3 a5 newId)|`(#[19])=>`(wpAny_attempt (wpAny_callSpecial?_slot (name:=Str.ofString "__next__") ty PySem.F.slot_dict_keyiterator_next (wpAny_call_entry PySem.F.slot_dict_keyiterator_next ty PySem.F.entry_dict_keyiterator_next ?_ (PySem.F.args_dict_keyiterator_next_1 _))))|`(#[20])=>`(x==("__debug__" :Str))|`(#[21])=>`(t*(u/(Int.gcd b u:Int))+o*(b/(Int.gcd b u:Int)))|`(#[22])=>`(rI CMul λi j=>.int (i*j))|`(#[23])=>`(show false=true from hs)|`(#[24])=>`(wpAny_callSpecial?_slot (name:=Str.ofString "__next__") st.typeIs F.slot_tuple_iterator_next (wpAny_call_entry F.slot_tuple_iterator_next st.typeIs F.entry_tuple_iterator_next ?_ (F.args_tuple_iterator_next_1 _)))|`(#[25])=>`(hideAll s.heap (e::frs (envOfC qual scope s0.heap.objs.size f cd::outer)))|`(#[26])=>`(AN (by intro y hy;simp only[nI,mK,or_false]at hy;rcases hy with rfl;rfl))|`(#[27])=>`(λz=>nomatch z)|`(#[28])=>`(EC K 2 (vM (jP 0) (vM (jP 1) gNil)))|`(#[29])=>`(show List.Nodup (["powers","fraction"]:List Str) by decide +kernel)|`(#[30])=>`(E.map Ent.kv)|`(#[31])=>`(s1.heap.push { cls:=.type "dict_values",data:=.fields #[.ref d] })|`(#[32])=>`(PySem.W.fnOf "__init__" "LowwaterError.__init__" (xC zO) (vS zO) (jI zO) dV kV doc pm an cdv ct)|`(#[33])=>`(thn (h pos ae s O H _ I hq) λus s1 ⟨xs,H1,I1,r,z,q⟩=>{by rw[<-r.length];exact z, ?_})|`(#[34])=>`(s1.heap.push { cls:=.type "dict_items",data:=.fields #[.ref d] })|`(#[35])=>`(beq_iff_eq.mp z)|`(#[36])=>`(λi j=>decide (ns.getD i 0>ns.getD j 0))|`(#[37])=>`(p.map λi=>its.toList.getD i Value.none)|`(#[38])=>`(Or.inr rfl)|`(#[39])=>`(thn (ha pos ae s O H _ I h) λus s1 ⟨vs,H1,I1,r1,q1⟩=>?_)|`(#[40])=>`(kU GD hr rfl DD.m DD.F.kp DD.b .nil vI (jA (pv 0) (jA jB jD)))|`(#[41])=>`(λr s'=>r=.ok (.ret (.bool true))/\OldK s₁.heap s'.heap/\s'.os=s₁.os/\AllBare s'.gens)|`(#[42])=>`(upd H5 p (.lst (ys++[y])))|`(#[43])=>`(Same.refl _)|`(#[44])=>`(yQ (X:=jL X N scope cl C fp s2 H2) _ s7 O6 H7 (.ref p) [yv] (.ref p) [y] (λ_ H8=>H8=upd H7 p (.lst (ys++[yv]))) I7 rfl (.cons r7 .nil) {_,ys,yv,rfl,rfl,e7,hz3,rfl})|`(#[45])=>`(wpAny_attempt (wpAny_callSpecial?_slot (name:=Str.ofString "__next__") T F.slot_zip_next (wpAny_call_entry F.slot_zip_next T F.entry_zip_next ?_ (F.args_zip_next_1 _))))|`(#[46])=>`(ha pos ae s O H _ I h)|`(#[47])=>`(backTo pos (starEach es X.env))|`(#[48])=>`(List.replicate own none++idx.map λj=>(O[j]?).getD none)|`(#[49])=>`(s.heap.push { cls:=.type "range",data:=.fields #[.int lo t,.int hi u,.int 1 v] })|`(#[50])=>`(A.under (.builtin "type.__call__" {.ref C::us,kw}))|`(#[51])=>`(show X.A.in1.handled=none from I.ok.hd hc)|`(#[52])=>`(cal GW hr1 (jA (pv 1) (jA jB jD)))|`(#[53])=>`(aj.any λkv=>decide (kv.1=k))|`(#[54])=>`(rI0 λi j=>V.int (i+j))|`(#[55])=>`(λ_ _ _ h=>nomatch h)|`(#[56])=>`(show List.Nodup (["key","top","bottom","common"]:List Str) by decide +kernel)|`(#[57])=>`(List Key×V)|`(#[58])=>`(ha ae s O H _ I h)|`(#[59])=>`(envOfC qual scope s.heap.objs.size f cd)|`(#[60])=>`(EP X ae O Q)|`(#[61])=>`(b/(Int.gcd b u:Int))|`(#[62])=>`(by simpa using h)|`(#[63])=>`(wpAny_standAt (tK (tM (turn n s hI) (λr s₁ h₁=>?_) λ_ _ h'=>h')))|`(#[64])=>`(jL X N scope cl HH.objs.size fp s2 H1)|`(#[65])=>`(s.heap.update D (Obj.mapSeq λ_=>#[]))|`(#[66])=>`(show ObjOk X.prog X.w H s.heap d (.dK aj)from ob)|`(#[67])=>`(vN (jA jB (jA jB (jA jB (jA jB jD)))))|`(#[68])=>`(PySem.W.fnOf x qual (xC st) (vS st) (jI st) .none kV doc pm an cdv ct)|`(#[69])=>`(by rw[e];exact True.intro)|`(#[70])=>`(Heap.SameBut.update ..)|`(#[71])=>`(List Int×Rat)|`(#[72])=>`(λ_ _ h=>nomatch h)|`(#[73])=>`(jA jB jD)|`(#[74])=>`(jA (pv 1) jD)|`(#[75])=>`(T.map (·.1))|`(#[76])=>`(A.map (·.1))|`(#[77])=>`(Array Keyed)
namespace L2
open PySem PySem.Spec PyProof.Rows
abbrev Key:=Sum Int Str
def DV:Key->Value->Bool
 | .inl k,v=>Value.isInt k v
 | .inr x,v=>Value.isStrOf x v
def keyH(w:World):Key->Int
 | .inl k=>hashInt k
 | .inr x=>hashStr w x
theorem qH:∀{k:Key} {v:Value},DV k v=true->(∃i t,k=Sum.inl i/\v=Value.int i t)∨(∃x t,k=Sum.inr x/\v=Value.str x t)
 | .inl i,v,h=>by
  obtain⟨t,e⟩:=Value.isInt_shape (k:=i) (v:=v) h;exact .inl {i,t,rfl,(e)}
 | .inr x,v,h=>by
  obtain⟨t,e⟩:=Value.isStrOf_shape (x:=x) (v:=v) h;exact .inr {x,t,rfl,(e)}
theorem UE(i:Int)(t:Tok):DV (.inl i) (.int i t)=true:=by simp [DV,Value.isInt]
theorem UD(x:Str)(t:Tok):DV (.inr x) (.str x t)=true:=by simp [DV,Value.isStrOf]
theorem key_ll(a b:Int):decide ((Sum.inl a:Key)=Sum.inl b)=(a==b):=by
 by_cases e:a=b
 .subst e;simp
 .have h:¬(Sum.inl a:Key)=Sum.inl b:=λq=>e (Sum.inl.inj q);rw[mU h];exact(beq_eq_false_iff_ne.mpr e).symm
theorem key_rr(a b:Str):decide ((Sum.inr a:Key)=Sum.inr b)=decide (a=b):=by
 by_cases e:a=b
 .subst e;simp
 .have h:¬(Sum.inr a:Key)=Sum.inr b:=λq=>e (Sum.inr.inj q);rw[mU h,mU e]
theorem key_lr(a:Int)(b:Str):decide ((Sum.inl a:Key)=Sum.inr b)=false:=mU (λq=>nomatch q)
theorem key_rl(a:Str)(b:Int):decide ((Sum.inr a:Key)=Sum.inl b)=false:=mU (λq=>nomatch q)
def jU(prog:Program)(w:World):PySem.KeyKind prog w Key where
 is:=DV
 hash:=keyH w
 inj:=λv a b ha hb=>by
  rcases qH ha with⟨i,t,rfl,rfl⟩ | ⟨x,t,rfl,rfl⟩
  .rcases qH hb with⟨j,u,rfl,e⟩ | ⟨y,u,rfl,e⟩
   .injection e with e1 _;rw[e1]
   .exact nomatch e
  .rcases qH hb with⟨j,u,rfl,e⟩ | ⟨y,u,rfl,e⟩
   .exact nomatch e
   .injection e with e1 _;rw[e1]
 byValue:=λk v h=>by
  rcases qH h with⟨i,t,rfl,rfl⟩ | ⟨x,t,rfl,rfl⟩<;>rfl
 pyHash:=λhv h=>by
  rcases qH hv with⟨i,t,rfl,rfl⟩ | ⟨x,t,rfl,rfl⟩
  .exact wpAny_pyHash_int h
  .exact wpAny_pyHash_str h
 eqBool:=λhu hv h=>by
  rcases qH hu with⟨i,t,rfl,rfl⟩ | ⟨x,t,rfl,rfl⟩
  .rcases qH hv with⟨j,u,rfl,rfl⟩ | ⟨y,u,rfl,rfl⟩
   .rw[key_ll]at h;exact wpAny_eqBool_int h
   .rw[key_lr]at h;exact SeqAt.EqAt.int_str i t y u _ _ _ _ h
  .rcases qH hv with⟨j,u,rfl,rfl⟩ | ⟨y,u,rfl,rfl⟩
   .rw[key_rl]at h;exact SeqAt.EqAt.str_int x t j u _ _ _ _ h
   .rw[key_rr]at h;exact wpAny_eqBool_str h
 «strs» :=λk x t v h=>by
  rcases qH h with⟨i,u,rfl,e⟩ | ⟨y,u,rfl,e⟩
  .exact nomatch e
  .injection e with e1 _
   subst e1;cases v<;>rfl
theorem KG(prog:Program)(w:World)(i:Int)(t:Tok):(jU prog w).is (.inl i) (.int i t)=true:=UE i t
theorem KF(prog:Program)(w:World)(x:Str)(t:Tok):(jU prog w).is (.inr x) (.str x t)=true:=UD x t
inductive V where
 | non | bl (b:Bool) | int (i:Int) | str (x:Str) | byt (b:Array UInt8) | flt (b:UInt64) | ref (a:Addr) | ty (n:String)
 deriving DecidableEq
def RelV:V->Value->Prop
 | .non,u=>u=Value.none
 | .bl b,u=>u=Value.bool b
 | .int i,u=>∃t,u=Value.int i t
 | .str x,u=>∃t,u=Value.str x t
 | .byt b,u=>∃t,u=Value.bytes b t
 | .flt b,u=>∃t,u=Value.float b t
 | .ref a,u=>u=Value.ref a
 | .ty n,u=>u=Value.type n
abbrev Vals:List V->List Value->Prop:=Paired RelV
theorem Vals.length{xs:List V}{us:List Value}(r:Vals xs us):xs.length=us.length:=Paired.length r
theorem Vals.get:∀{xs:List V} {us:List Value} {i:Nat} {x:V},Vals xs us->xs[i]? = some x->∃u,us[i]? = some u/\RelV x u
 | _,_,_,_,.nil,e=>by simp at e
 | _,_,0,_,.cons r _,e=>by simp at e;subst e;exact{_,rfl,r}
 | _,_,i+1,x,.cons _ t,e=>by
  obtain⟨u,h1,h2⟩:=Vals.get (i:=i) (x:=x) t (by simpa using e);exact{u,by simpa using h1,h2}
theorem Vals.set(r:RelV x u):∀{xs:List V} {us:List Value} (i:Nat),Vals xs us->Vals (xs.set i x) (us.set i u)
 | _,_,_,.nil=>.nil
 | _,_,0,.cons _ t=>.cons r t
 | _,_,i+1,.cons q t=>.cons q (Vals.set r i t)
theorem Vals.append:∀{xs ys:List V} {us ws:List Value},Vals xs us->Vals ys ws->Vals (xs++ys) (us++ws)
 | _,_,_,_,.nil,s=>s
 | _,_,_,_,.cons r t,s=>.cons r (Vals.append t s)
theorem Vals.take:∀{xs:List V} {us:List Value} (n:Nat),Vals xs us->Vals (xs.take n) (us.take n)
 | _,_,0,_=>.nil
 | _,_,_+1,.nil=>.nil
 | _,_,n+1,.cons r t=>.cons r (Vals.take n t)
theorem Vals.drop:∀{xs:List V} {us:List Value} (n:Nat),Vals xs us->Vals (xs.drop n) (us.drop n)
 | _,_,0,r=>r
 | _,_,_+1,.nil=>.nil
 | _,_,n+1,.cons _ t=>Vals.drop n t
def RelO:Option V->Option Value->Prop
 | some v,some u=>RelV v u
 | none,none=>True
 | _,_=>False
def KV{Y:Type} :List (Y×V)->List (Y×Value)->Prop:=Paired λ(p:Y×V) (q:Y×Value)=>p.1=q.1/\RelV p.2 q.2
def kV:Key->V
 | .inl i=>.int i
 | .inr x=>.str x
inductive HO where
 | lst (xs:List V)
 | tup (xs:List V)
 | dK (aj:List (Key×V)) | dT (aj:List #[57])
 | set (S:Int->Bool) (n:Nat)
 | ins (C dx:Addr) (fs:List (Str×V))
 | own (x:Addr)
 | xd (fs:List (Str×V))
 | met (f x:Addr)
 | rng (lo hi:Int)
 | frz (o:Obj) (u:HO)
 | tbl (ps:Array Value)
 | ext (φ:Heap->Prop)
abbrev Hp:=Addr->Option HO
def upd(H:Hp)(a:Addr)(o:HO):Hp:=λb=>if b=a then some o else H b
theorem jE :upd H a o a=some o:=by unfold upd;rw[tO rfl]
theorem jG(h:b≠a):upd H a o b=H b:=by unfold upd;rw[tN h]
theorem KD{H:Hp}{a b:Addr}{o u:HO}(h:H a=some o)(h':H b=some u)(d:o≠u):a≠b:=by
 intro e;subst e;rw[h]at h';exact d (Option.some.inj h')
theorem jS{H:Hp}{a b:Addr}{o:HO}(h:H a=some o)(h':H b=none):a≠b:=by
 intro e;subst e;rw[h]at h';cases h'
def NoD(h:Heap)(a:Addr):Prop:=∀o,h.get? a=some o->o.dict=none
theorem NoD.of{h:Heap}{o:Obj}(e:h.get? a=some o)(d:o.dict=none):NoD h a:=λo' e'=>by rw[e]at e';cases e';exact d
section
variable(P:Program)(w:World)
def ObjOk(H:Hp)(h:Heap)(a:Addr):HO->Prop
 | .lst xs=>xs.length<=sizeLine/\∃(its:List Value) (n:Nat),Vals xs its/\h.get? a=some { cls:=.type "list",data:=.seq its.toArray n }
 | .tup xs=>xs.length<=sizeLine/\∃its:List Value,Vals xs its/\IsTup h a its.toArray/\NoD h a
 | .dK aj=>aj.length<=sizeLine/\(a==sysModules)=false/\∃vs,KV aj vs/\h.DictOf (jU P w) a vs
 | .dT aj=>aj.length<=sizeLine/\(a==sysModules)=false/\∃xs:List #[17],
   Paired (λ(p:List Key×V) (q:List Key×Addr×Value)=>p.1=q.1/\H q.2.1=some (.tup (p.1.map kV))/\RelV p.2 q.2.2) aj xs/\
   ∃o es ep,h.get? a=some o/\o.ExactDict/\o.data=.dict es ep/\es.toList=xs.map (entryOfKey (tupleKind (jU P w)))/\(xs.map (·.1)).Nodup
 | .set S n=>h.SetOf (intKind P w) a S n
 | .ins C dx fs=>H dx=some (.own a)/\fs.length<=1000/\dx≠a/\h.get? a=some (PySem.W.instObj C dx)/\
   ∃mA,h.Ns1 dx mA/\(∀f,RelO (fs.lookup f) (mA f))/\PySem.Within mA (fs.map (·.1))
 | .own _=>∃o,h.get? a=some o
 | .xd fs=>∃mA,h.Ns1 a mA/\∀f,RelO (fs.lookup f) (mA f)
 | .rng lo hi=>∃t u v,h.get? a=some { cls:=.type "range",data:=.fields #[.int lo t,.int hi u,.int 1 v] }
 | .frz o u=>h.get? a=some o/\ObjOk H h a u
 | .tbl ps=>h.get? a=some { cls:=.none,data:=.fields ps }
 | .met f x=>h.get? a=some (PySem.W.methodObj (.ref f) (.ref x))
 | .ext φ=>φ h/\(∃o,h.get? a=some o)/\∀h1 h2:Heap,φ h1->(∀o,h1.get? a=some o->h2.get? a=some o)->φ h2
def HOk(H:Hp)(h:Heap):Prop:=∀a o,H a=some o->ObjOk P w H h a o
end
section
variable{P:Program}{w:World}{H H':Hp}{h h':Heap}{a:Addr}{o:HO}
theorem ObjOk.lt(x:ObjOk P w H h a o):a<h.objs.size:=by
 cases o with
 | lst xs=>obtain⟨_,_,_,_,e⟩:=x;exact nP e
 | tup xs=>obtain⟨_,_,_,p⟩:=x;exact p.1.lt
 | dK aj=>obtain⟨_,_,_,_,o,_,_,e,_⟩:=x;exact nP e
 | dT aj=>obtain⟨_,_,_,_,o,_,_,e,_⟩:=x;exact nP e
 | set S n=>obtain⟨o,_,_,_,e,_⟩:=x;exact nP e
 | ins C dx fs=>obtain⟨_,_,_,e,_⟩:=x;exact nP e
 | own y=>obtain⟨_,e⟩:=x;exact nP e
 | xd fs=>obtain⟨_,⟨_,_,_,e,_⟩,_⟩:=x;exact nP e
 | rng lo hi=>obtain⟨_,_,_,e⟩:=x;exact nP e
 | frz ob u=>obtain⟨e,_⟩:=x;exact nP e
 | tbl ps=>exact nP (show h.get? a=some _ from x)
 | met f y=>exact nP (show h.get? a=some _ from x)
 | ext φ=>obtain⟨_,⟨_,e⟩,_⟩:=x;exact nP e
theorem Paired.mapP{α β:Type}{F G:α->β->Prop} :∀{l₁:List α} {l₂:List β},Paired F l₁ l₂->(∀a b,F a b->G a b)->Paired G l₁ l₂
 | _,_,.nil,_=>.nil
 | _,_,.cons r t,f=>.cons (f _ _ r) (Paired.mapP t f)
theorem ObjOk.stay(x:ObjOk P w H h a o)(k:∀b u,(b=a∨H b=some (.own a))->h.get? b=some u->h'.get? b=some u)
  (ho:∀b,H b=some (.own a)->H' b=some (.own a)) (ht:∀b xs,H b=some (.tup xs)->H' b=some (.tup xs)):ObjOk P w H' h' a o:=by
 induction o with
 | lst xs=>obtain⟨z,its,n,r,e⟩:=x;exact{z,its,n,r,k _ _ (.inl rfl) e}
 | tup xs=>obtain⟨z,its,r,⟨ob,e,c⟩,nd⟩:=x;exact{z,its,r,{ob,k _ _ (.inl rfl) e,c},.of (k _ _ (.inl rfl) e) (nd _ e)}
 | dK aj=>obtain⟨z,y,vs,r,ob,es,ep,e,c⟩:=x;exact{z,y,vs,r,ob,es,ep,k _ _ (.inl rfl) e,c}
 | dT aj=>
  obtain⟨z,y,xs,r,ob,es,ep,e,c⟩:=x;exact{z,y,xs,Paired.mapP r λp q z=>{z.1,ht _ _ z.2.1,z.2.2},ob,es,ep,k _ _ (.inl rfl) e,c}
 | set S n=>obtain⟨ob,es,ep,t,e,c⟩:=x;exact{ob,es,ep,t,k _ _ (.inl rfl) e,c}
 | ins C dx fs=>
  obtain⟨d,z,ne,e,mA,⟨od,es,ep,e2,c⟩,r⟩:=x;exact{ho _ d,z,ne,k _ _ (.inl rfl) e,mA,{od,es,ep,k _ _ (.inr d) e2,c},r}
 | own y=>obtain⟨ob,e⟩:=x;exact{ob,k _ _ (.inl rfl) e}
 | xd fs=>obtain⟨mA,⟨od,es,ep,e,c⟩,r⟩:=x;exact{mA,{od,es,ep,k _ _ (.inl rfl) e,c},r}
 | rng lo hi=>obtain⟨t,u,v,e⟩:=x;exact{t,u,v,k _ _ (.inl rfl) e}
 | frz ob u ih=>obtain⟨e,q⟩:=x;exact{k _ _ (.inl rfl) e,ih q}
 | tbl ps=>
  let e:h.get? a=some { cls:=.none,data:=.fields ps } :=x;show h'.get? a=some { cls:=.none,data:=.fields ps };exact k a _ (.inl rfl) e
 | met f y=>
  let e:h.get? a=some (PySem.W.methodObj (.ref f) (.ref y)):=x;show h'.get? a=some (PySem.W.methodObj (.ref f) (.ref y));exact k a _ (.inl rfl) e
 | ext φ=>obtain⟨p,⟨o,e⟩,st⟩:=x;exact{st _ _ p λo q=>k _ _ (.inl rfl) q,{o,k _ _ (.inl rfl) e},st}
theorem HOk.lt(x:HOk P w H h)(e:H a=some o):a<h.objs.size:=(x a o e).lt
theorem HOk.fresh(x:HOk P w H h)(e:h.objs.size<=a):H a=none:=by
 cases q:H a with
 | none=>rfl
 | some u=>exact absurd (gZ (x.lt q) e) (nJ _)
theorem HOk.kept(x:HOk P w H h)(k:∀b u,h.get? b=some u->h'.get? b=some u):HOk P w H h':=λa o e=>
 (x a o e).stay (λb u _ q=>k b u q) (λ_ q=>q) λ_ _ q=>q
theorem HOk.laid(x:HOk P w H h)(k:∀b u,h.get? b=some u->h'.get? b=some u)(hp:h.objs.size<=a)(new:ObjOk P w (upd H a o) h' a o):HOk P w (upd H a o) h':=λb u e=>by
 let hn:=x.fresh hp;by_cases hb:b=a
 .subst hb;rw[jE]at e;cases e;exact new
 .rw[jG hb]at e;exact(x b u e).stay (λc v _ q=>k c v q) (λc q=>by rw[jG (jS q hn)];exact q) λc xs q=>by rw[jG (jS q hn)];exact q
end
def Rd(H:Hp)(a:Addr)(u:HO):Prop:=H a=some u∨∃o,H a=some (.frz o u)
theorem Rd.ok(r:Rd H a u)(x:HOk P w H h):ObjOk P w H h a u:=by
 rcases r with r | ⟨o,r⟩
 .exact x a u r
 .obtain⟨_,q⟩:=x a _ r;exact q
def Mut:Option HO->Prop
 | some (.lst _)=>True
 | some (.dK _)=>True
 | some (.dT _)=>True
 | some (.set _ _)=>True
 | some (.ins _ _ _)=>True
 | some (.ext _)=>True
 | _=>False
section
variable{P:Program}{w:World}{H:Hp}{h h':Heap}{x e:Addr}{o':HO}
theorem HOk.write(ok:HOk P w H h)(mu:Mut (H x))(he:e=x∨H e=some (.own x))(k:∀b u,b≠e->h.get? b=some u->h'.get? b=some u)(heo:∃u,h'.get? e=some u)
  (new:ObjOk P w (upd H x o') h' x o'):HOk P w (upd H x o') h':=λb u q=>by
 let nown:∀c y,H c=some (.own y)->c≠x:=λc y r z=>by subst z;rw[r]at mu;exact mu
 let ntup:∀c xs,H c=some (.tup xs)->c≠x:=λc xs r z=>by subst z;rw[r]at mu;exact mu
 by_cases hb:b=x
 .subst hb;rw[jE]at q;cases q;exact new
 .rw[jG hb]at q;by_cases hbe:b=e
  .have q':H b=some (.own x):=by
    rcases he with z | z
    .exact absurd (hbe.trans z) hb
    .rw[hbe];exact z
   rw[q]at q';cases q';obtain⟨v,hv⟩:=heo;exact{v,by rw[hbe];exact hv}
  .refine(ok b u q).stay (λc v hc r=>k c v ?_ r) (λc r=>by rw[jG (nown c b r)];exact r) λc xs r=>by rw[jG (ntup c xs r)];exact r
   rcases hc with rfl | hc
   .exact hbe
   .rintro rfl;rcases he with z | z
    .exact nown c b hc z
    .rw[hc]at z;cases z;exact hb rfl
end
structure Un(fs ex:List Addr)(H H':Hp)(h h':Heap):Prop where
 keep:∀b o,h.get? b=some o->H b=none->b∉fs->b∉ex->h'.get? b=some o
 slot:∀b o,h.get? b=some o->H b=none->b∈fs->b∉ex->∃sl,h'.get? b=some { o with slots:=sl }
 free:∀b o,h.get? b=some o->H b=none->b∉ex->H' b=none
 there:∀b o,h.get? b=some o->b∉ex->∃o',h'.get? b=some o'
 tups:∀b xs,H b=some (.tup xs)->H' b=some (.tup xs)
 frzs:∀b o u,H b=some (.frz o u)->H' b=some (.frz o u)
 tbls:∀b ps,H b=some (.tbl ps)->∃more,H' b=some (.tbl (ps++more))
section
variable{fs fs' ex ex':List Addr}{H H1 H2:Hp}{h h1 h2 h':Heap}{a x e:Addr}{o:HO}
theorem Un.any(u:Un fs ex H H1 h h1)(q:h.get? b=some ob)(n:H b=none)(hx:b∉ex):∃sl,h1.get? b=some { ob with slots:=sl } :=by
 by_cases hb:b∈fs
 .exact u.slot b ob q n hb hx
 .exact{ob.slots,u.keep b ob q n hb hx}
theorem Un.kept(k:∀b u,h.get? b=some u->h'.get? b=some u):Un fs ex H H h h':=
 {λb ob q _ _ _=>k b ob q,λb ob q _ _ _=>{ob.slots,k b ob q},λ_ _ _ n _=>n,λb ob q _=>{ob,k b ob q},λ_ _ q=>q,λ_ _ _ q=>q,λ_ ps q=>{#[],by rw[q];simp}}
theorem Un.refl:Un fs ex H H h h:=Un.kept λ_ _ q=>q
theorem Un.laid(k:∀b u,h.get? b=some u->h'.get? b=some u)(hp:h.objs.size<=a)(hn:H a=none):Un fs ex H (upd H a o) h h' where
 keep:=λb u q _ _ _=>k b u q
 slot:=λb u q _ _ _=>{u.slots,k b u q}
 free:=λb u q n _=>by rw[jG (nS (gZ (nP q) hp))];exact n
 there:=λb u q _=>{u,k b u q}
 tups:=λb xs q=>by rw[jG (jS q hn)];exact q
 frzs:=λb u xs q=>by rw[jG (jS q hn)];exact q
 tbls:=λb ps q=>{#[],by rw[jG (jS q hn),q];simp}
theorem Un.write(mu:Mut (H x))(he:e=x∨H e=some (.own x))(k:∀b u,b≠e->h.get? b=some u->h'.get? b=some u)(heo:∃u,h'.get? e=some u):Un fs ex H (upd H x o) h h':=by
 let hx:∀b,H b=none->b≠x:=λb n z=>by subst z;rw[n]at mu;exact mu
 let hb:∀b,H b=none->b≠e:=λb n z=>by
  subst z;rcases he with r | r
  .exact hx b n r
  .rw[n]at r;cases r
 let hm:∀b u,H b=some u->¬Mut (some u)->b≠x:=λb u q nm z=>by subst z;rw[q]at mu;exact nm mu
 refine⟨λb u q n _ _=>k b u (hb b n) q,λb u q n _ _=>{u.slots,k b u (hb b n) q},λb u q n _=>by rw[jG (hx b n)];exact n,λb u q _=>?_,
  λb xs q=>by rw[jG (hm b _ q λz=>z)];exact q,λb u xs q=>by rw[jG (hm b _ q λz=>z)];exact q,λb ps q=>{#[],by rw[jG (hm b _ q λz=>z),q];simp}⟩
 by_cases hbe:b=e
 .subst hbe;exact heo
 .exact{u,k b u hbe q}
end
def trk(h:Heap)(H:Hp):List Addr:=(List.range h.objs.size).filter λa=>(H a).isSome
def IG(h:Heap)(H:Hp):Heap:=PySem.W.hideAll h (trk h H)
theorem UJ(h:Heap)(H:Hp):(IG h H).objs.size=h.objs.size:=PySem.W.hideAll_size _ _
theorem YW{h:Heap}(e:h.get? b=some o)(n:H b=none):(IG h H).get? b=some o:=
 PySem.W.hideAll_get _ e λhm=>by
  let q:(H b).isSome=true:=(List.mem_filter.mp hm).2;rw[n]at q;simp at q
theorem of_hidT{h:Heap}(e:(IG h H).get? b=some o):h.get? b=some o/\H b=none:=by
 let e':h.get? b=some o:=PySem.W.of_hideAll (trk h H) e;refine{e', ?_};cases q:H b with
 | none=>rfl
 | some x=>
  let hm:b∈trk h H:=List.mem_filter.mpr {mX.mpr (nP e'),by simp [q]};let z:(IG h H).get? b=none:=PySem.W.hideAll_none (trk h H) hm;rw[z]at e;cases e
def xP(g h:Heap)(L:Addr):List #[13]:=(List.range h.objs.size).filterMap λa=>if a=L∨(g.get? a).isSome=true then none else(h.get? a).map λo=>(a,o)
theorem zR{g h:Heap}(h1:a≠L)(h2:g.get? a=none)(h3:h.get? a=some o):(a,o)∈xP g h L:=
 List.mem_filterMap.mpr {a,mX.mpr (nP h3),by simp [h1,h2,h3]}
theorem DN{g h:Heap}{p:Addr×Obj}(hp:p∈xP g h L):p.1≠L/\g.get? p.1=none/\h.get? p.1=some p.2:=by
 obtain⟨b,_,e⟩:=List.mem_filterMap.mp hp;split at e
 .cases e
 .rename_i hn;cases q:h.get? b with
  | none=>rw[q]at e;simp at e
  | some u=>
   rw[q]at e;simp only[Option.map_some,Option.some.injEq]at e;subst e;refine{λz=>hn (.inl z), ?_,q};show g.get? b=none;cases r:g.get? b with
   | none=>rfl
   | some v=>exact(hn (.inr (by simp [r]))).elim
theorem KC :News g L h (xP g h L):=λp hp=>let ⟨a,b,c⟩:=DN hp;{c,a,(b)}
structure Mod(K:tP)(mg:Str->Option Value)(base:Heap):Prop where
 kin:K.In base
 glob:base.Ns mainGlobals mg
 blt:∃mb,base.Ns builtinsNs mb/\∀x:Str,x≠"__name__"->mb x=bootBuiltins x
 nolimit:base.NoLimit
structure Cx where
 prog:Program
 w:World
 K:tP
 mg:Str->Option Value
 base:Heap
 A:Around
 N:List Str
 s₀:Shared
 H₀:Hp
 env:Env
 outer:List Env
 stack:List Env
 ex:List Addr
 fn:Str->Bool
 calm:Bool
 pn:List #[13]
 xe:Value->Shared->Prop
def frs(l:List Env):List Addr:=l.filterMap (·.frame)
abbrev Cx.fs(X:Cx):List Addr:=frs X.outer
def Vis(sc:Scope)(x:Str):Prop:=sc.names.lookup x=some .local∨sc.names.lookup x=some .cell∨sc.names.lookup x=some .free
def Loc(sc:Scope)(x:Str):Prop:=sc.names.lookup x=some .local∨sc.names.lookup x=some .cell
def Look(env:Env)(h:Heap)(m:Str->Option Value)(x:Str)(u:Value):Prop:=
 (env.kindOf x=some .local/\m x=some u)∨((env.kindOf x=some .cell∨env.kindOf x=some .free)/\∃c,env.cells.lookup x=some c/\h.IsCell c (some u))
structure Cx.Ok(X:Cx):Prop where
 mod:Mod X.K X.mg X.base
 kind:X.env.scope.kind=.function
 glob:X.env.globals=mainGlobals
 blt:X.env.builtins=builtinsNs
 above:X.s₀.heap.objs.size<=X.env.locals
 inj:∀x y c,X.env.cells.lookup x=some c->X.env.cells.lookup y=some c->x=y
 has:∀x,(X.env.kindOf x=some .cell∨X.env.kindOf x=some .free)->∃c,X.env.cells.lookup x=some c
 cab:∀x c,X.fn x=true->X.env.cells.lookup x=some c->X.s₀.heap.objs.size<=c
 hd:X.calm=true->X.A.handled=none
 frames:X.A.frames=some X.stack
 stk:X.stack=X.outer∨(X.stack=X.env::X.outer/\X.env.frame=some X.env.locals)
 exf:∀b∈X.ex,b≠X.env.locals/\∀x c,X.env.cells.lookup x=some c->c≠b
 bs:∀b o,X.base.get? b=some o->X.s₀.heap.get? b=some o/\X.H₀ b=none
 bsz:X.base.objs.size<=X.s₀.heap.objs.size
 noex:∀b o,X.base.get? b=some o->b∉X.ex
 exfs:∀b∈X.ex,b∉X.fs
 funs:X.s₀.heap.FunFrames X.base X.outer
 frf:∀b∈X.fs,X.H₀ b=none
structure Inv(X:Cx)(ae:List #[13])(O:List (Option V))(H:Hp)(s:Shared):Prop where
 ok:X.Ok
 os:s.os=X.s₀.os
 bare:AllBare s.gens
 base:Un X.fs X.ex X.H₀ H X.s₀.heap s.heap
 loc:∃m,s.heap.Ns X.env.locals m/\∀(i:Nat) (x:Str) (v:V),X.N[i]? = some x->O[i]? = some (some v)->Vis X.env.scope x->∃u,RelV v u/\Look X.env s.heap m x u
 cell:∀x c,X.env.cells.lookup x=some c->∃v,s.heap.IsCell c v
 free:H X.env.locals=none
 freeC:∀x c,X.env.cells.lookup x=some c->H c=none
 pin:∀p∈X.pn++ae,s.heap.get? p.1=some p.2/\H p.1=none/\p.1≠X.env.locals/\p.1∉X.fs/\∀v,p.2.data≠.cell v
 hok:HOk X.prog X.w H s.heap
 len:O.length=X.N.length
section
variable{X:Cx}{ae:List #[13]}{O:List (Option V)}{H H':Hp}{s:Shared}{h':Heap}
theorem Cx.Ok.nofr(ok:X.Ok)(e:X.base.get? b=some o):b∉X.fs:=λhb=>by
 let:=(ok.funs.mem hb).1;rw[e]at this;cases this
theorem Inv.bs(I:Inv X ae O H s):∀b o,X.base.get? b=some o->s.heap.get? b=some o/\H b=none:=λb o e=>
 {I.base.keep b o (I.ok.bs b o e).1 (I.ok.bs b o e).2 (I.ok.nofr e) (I.ok.noex b o e),I.base.free b o (I.ok.bs b o e).1 (I.ok.bs b o e).2 (I.ok.noex b o e)}
theorem Inv.bk(I:Inv X ae O H s):∀b o,X.base.get? b=some o->s.heap.get? b=some o:=λb o e=>(I.bs b o e).1
theorem Inv.mod(I:Inv X ae O H s):Mod X.K X.mg X.base:=I.ok.mod
theorem Inv.kIn(I:Inv X ae O H s):X.K.In s.heap:=I.ok.mod.kin.keeps I.bk
theorem Inv.fr(I:Inv X ae O H s):∃m,Fr X.base X.env.locals s.heap m:=
 let ⟨m,hn,_⟩:=I.loc
 {m,hn,I.bk,nQ I.ok.bsz I.ok.above}
theorem Inv.lt(I:Inv X ae O H s):X.env.locals<s.heap.objs.size:=let ⟨_,hn,_⟩:=I.loc;hn.lt
theorem Inv.sz(I:Inv X ae O H s):X.s₀.heap.objs.size<=s.heap.objs.size:=nQ I.ok.above (nY I.lt)
theorem Inv.nofs(I:Inv X ae O H s){a:Addr}(h:s.heap.objs.size<=a):a∉X.fs:=λhb=>by
 obtain⟨_,o,ho,_⟩:=I.ok.funs.mem hb;exact absurd (gZ (nP ho) (nQ I.sz h)) (nJ _)
theorem Inv.cne(I:Inv X ae O H s):∀x c,X.env.cells.lookup x=some c->c≠X.env.locals:=λx c e z=>by
 obtain⟨v,o,ho,hd⟩:=I.cell x c e;obtain⟨m,⟨o',es,ep,ho',hd',_⟩,_⟩:=I.loc;rw[z,ho']at ho;cases ho;rw[hd']at hd;cases hd
theorem Inv.funs(I:Inv X ae O H s):s.heap.FunFrames X.base X.outer:=by
 let all:∀(l:List Env),(∀b∈frs l,b∈X.fs)->X.s₀.heap.FunFrames X.base l->s.heap.FunFrames X.base l:=by
  intro l;induction l with
  | nil=>intro _ _;trivial
  | cons env r ih=>
   intro hs hl;obtain⟨hk,⟨L,o,hf,hn,ho,hd⟩,hr⟩:=hl;let hL:L∈X.fs:=hs L (by unfold frs;rw[List.filterMap_cons,hf];exact hU);obtain⟨sl,e⟩:=I.base.slot L o ho (I.ok.frf L hL) hL λz=>I.ok.exfs L z hL;exact{hk,{L,_,hf,hn,e,hd},ih (λb hb=>hs b (by unfold frs;rw[List.filterMap_cons,hf];exact gM _ hb)) hr}
 exact all X.outer (λ_ hb=>hb) I.ok.funs
theorem Inv.stack(I:Inv X ae O H s):s.heap.FunFrames X.base X.stack:=by
 rcases I.ok.stk with e | ⟨e,hf⟩
 .rw[e];exact I.funs
 .rw[e];obtain⟨m,hn,_⟩:=I.loc;refine .cons (by rw[I.ok.kind];decide) hf hn ?_ I.funs;exact Heap.get?_none_of_le (nQ I.ok.bsz I.ok.above)
theorem Inv.stkSub(I:Inv X ae O H s):∀b∈frs X.stack,b∈X.env.locals::X.fs:=λb hb=>by
 rcases I.ok.stk with e | ⟨e,hf⟩
 .rw[e]at hb;exact gM _ hb
 .rw[e]at hb;unfold frs at hb;rw[List.filterMap_cons,hf]at hb;exact hb
theorem Inv.stkFree(I:Inv X ae O H s):∀b∈frs X.stack,H b=none:=λb hb=>by
 rcases nI.mp (I.stkSub b hb)with e | hb
 .rw[e];exact I.free
 .obtain⟨_,o,ho,_⟩:=I.ok.funs.mem hb;exact I.base.free b o ho (I.ok.frf b hb) λz=>I.ok.exfs b z hb
theorem Inv.step{g':Array GenState}{t':Nat}{d':Drawn}{ch:List Addr}(I:Inv X ae O H s)
  (hch:∀b∈ch,(b∈X.ex∨X.s₀.heap.objs.size<=b)/\b≠X.env.locals/\(∀x c,X.env.cells.lookup x=some c->c≠b)/\∀p∈X.pn++ae,p.1≠b)
  (keep:∀b o,b≠X.env.locals->b∉X.fs->b∉ch->s.heap.get? b=some o->H b=none->h'.get? b=some o)
  (slot:∀b o,b≠X.env.locals->b∈X.fs->b∉ch->s.heap.get? b=some o->H b=none->∃sl,h'.get? b=some { o with slots:=sl }) (free:∀b o,b∉ch->s.heap.get? b=some o->H b=none->H' b=none)
  (there:∀b o,b∉ch->s.heap.get? b=some o->∃o',h'.get? b=some o')
  (tups:∀b xs,H b=some (.tup xs)->H' b=some (.tup xs)) (frzs:∀b o u,H b=some (.frz o u)->H' b=some (.frz o u)) (tbls:∀b ps,H b=some (.tbl ps)->∃more,H' b=some (.tbl (ps++more)))
  (ns:∀m,s.heap.Ns X.env.locals m->h'.Ns X.env.locals m) (hok:HOk X.prog X.w H' h') (hg:AllBare g') :
  Inv X ae O H' { s with heap:=h',gens:=g',drawn:=d',toks:=t' } :=by
 let neL:∀b o,X.s₀.heap.get? b=some o->b≠X.env.locals:=λb o e=>nS (gZ (nP e) I.ok.above);let neC:∀b o,X.s₀.heap.get? b=some o->b∉X.ex->b∉ch:=λb o e hx hb=>by
  rcases(hch b hb).1 with z | z
  .exact hx z
  .exact absurd (gZ (nP e) z) (nJ _)
 let cellK:∀x c,X.env.cells.lookup x=some c->∀v,s.heap.IsCell c v->h'.IsCell c v:=λx c e v ⟨o,ho,hd⟩=>by
  let nch:c∉ch:=λz=>(hch c z).2.2.1 x c e rfl;by_cases hc:c∈X.fs
  .obtain⟨sl,q⟩:=slot c o (I.cne x c e) hc nch ho (I.freeC x c e);exact{_,q,hd}
  .exact{o,keep c o (I.cne x c e) hc nch ho (I.freeC x c e),hd}
 refine{I.ok,I.os,hg,{λb o e n hb hx=>?_,λb o e n hb hx=>?_,λb o e n hx=>?_,λb o e hx=>?_,λb xs e=>tups b xs (I.base.tups b xs e),λb o xs e=>frzs b o xs (I.base.frzs b o xs e),λb ps e=>?_}, ?_,λx c e=>?_, ?_,λx c e=>?_,λp hp=>?_,hok,I.len}
 .exact keep b o (neL b o e) hb (neC b o e hx) (I.base.keep b o e n hb hx) (I.base.free b o e n hx)
 .obtain⟨sl,e1⟩:=I.base.slot b o e n hb hx;obtain⟨sl',e2⟩:=slot b _ (neL b o e) hb (neC b o e hx) e1 (I.base.free b o e n hx);exact{sl',(e2)}
 .obtain⟨o',e1⟩:=I.base.there b o e hx;exact free b o' (neC b o e hx) e1 (I.base.free b o e n hx)
 .obtain⟨o',e1⟩:=I.base.there b o e hx;exact there b o' (neC b o e hx) e1
 .obtain⟨m1,e1⟩:=I.base.tbls b ps e;obtain⟨m2,e2⟩:=tbls b _ e1;exact{m1++m2,by rw[e2,Array.append_assoc]}
 .obtain⟨m,hn,hl⟩:=I.loc;refine{m,ns m hn,λi x v e1 e2 e3=>?_};obtain⟨u,r,l⟩:=hl i x v e1 e2 e3;refine{u,r, ?_};rcases l with l | ⟨k,c,e,z⟩
  .exact .inl l
  .exact .inr {k,c,e,cellK x c e _ z}
 .obtain⟨v,z⟩:=I.cell x c e;exact{v,cellK x c e v z}
 .obtain⟨m,⟨o,_,_,ho,_⟩,_⟩:=I.loc;exact free _ o (λz=>(hch _ z).2.1 rfl) ho I.free
 .obtain⟨v,o,ho,hd⟩:=I.cell x c e;exact free c o (λz=>(hch c z).2.2.1 x c e rfl) ho (I.freeC x c e)
 .obtain⟨e,n,ne,nf,d⟩:=I.pin p hp;let nch:p.1∉ch:=λz=>(hch p.1 z).2.2.2 p hp rfl;exact{keep p.1 p.2 ne nf nch e n,free p.1 p.2 nch e n,ne,nf,d}
theorem Inv.un{t':Nat}(I:Inv X ae O H s)(u:Un X.fs [] H H' s.heap h')(hok:HOk X.prog X.w H' h'):Inv X ae O H' { s with heap:=h',toks:=t' } :=by
 obtain⟨m,⟨o,es,ep,ho,r⟩,_⟩:=id I.loc;obtain⟨sl,hL⟩:=u.any ho I.free #[14];exact I.step (g':=s.gens) (d':=s.drawn) (ch:=[]) (λ_ z=>nomatch z) (λb o _ hb _ e n=>u.keep b o e n hb #[14]) (λb o _ hb _ e n=>u.slot b o e n hb #[14]) (λb o _ e n=>u.free b o e n #[14]) (λb o _ e=>u.there b o e #[14]) u.tups u.frzs u.tbls (λm' hm=>by
  obtain⟨o',es',ep',ho',r'⟩:=hm;rw[ho]at ho';cases ho';exact{_,es',ep',hL,r'}) hok I.bare
theorem Inv.call{t':Nat}(I:Inv X ae O H s)(u:Un (frs X.stack) ch H H' s.heap h')(hok:HOk X.prog X.w H' h')(hg:AllBare g')
  (hch:∀b∈ch,(b∈X.ex∨X.s₀.heap.objs.size<=b)/\b≠X.env.locals/\(∀x c,X.env.cells.lookup x=some c->c≠b)/\∀p∈X.pn++ae,p.1≠b) :
  Inv X ae O H' { s with heap:=h',gens:=g',drawn:=d',toks:=t' } :=by
 obtain⟨m,⟨o,es,ep,ho,r⟩,_⟩:=id I.loc;obtain⟨sl,hL⟩:=u.any ho I.free λz=>(hch _ z).2.1 rfl;exact I.step (ch:=ch) hch (λb o hL hb hc e n=>u.keep b o e n (λz=>(nI.mp (I.stkSub b z)).elim hL hb) hc) (λb o _ _ hc e n=>u.any e n hc) (λb o hc e n=>u.free b o e n hc) (λb o hc e=>u.there b o e hc) u.tups u.frzs u.tbls (λm' hm=>by
  obtain⟨o',es',ep',ho',r'⟩:=hm;rw[ho]at ho';cases ho';exact{_,es',ep',hL,r'}) hok hg
theorem Inv.turned{t':Nat}(I:Inv X ae O H s)(k:∀b o,b≠it->s.heap.get? b=some o->h'.get? b=some o)(hn:H it=none)(hL:it≠X.env.locals)
  (h1:it∈X.ex∨X.s₀.heap.objs.size<=it) (h2:∀x c,X.env.cells.lookup x=some c->c≠it) (h3:∀p∈X.pn++ae,p.1≠it):Inv X ae O H { s with heap:=h',toks:=t' } :=by
 let nit:∀b u,H b=some u->b≠it:=λb u e z=>by rw[z,hn]at e;cases e
 refine I.step (g':=s.gens) (d':=s.drawn) (ch:=[it]) (λb hb=>?_) (λb o _ _ hc e _=>k b o (λz=>hc (by simp [z])) e) (λb o _ _ hc e _=>{o.slots,k b o (λz=>hc (by simp [z])) e}) (λ_ _ _ _ n=>n)
  (λb o hc e=>{o,k b o (λz=>hc (by simp [z])) e}) (λ_ _ e=>e) (λ_ _ _ e=>e) (λb ps e=>{#[],by rw[e];simp}) (λm hm=>?_) (λb u e=>?_) I.bare
 .have e:b=it:=by simpa using hb
  subst e;exact{h1,hL,h2,(h3)}
 .obtain⟨o,es,ep,ho,r⟩:=hm;exact{o,es,ep,k _ o (Ne.symm hL) ho,r}
 .refine(I.hok b u e).stay (λc v hc q=>k c v ?_ q) (λ_ q=>q) λ_ _ q=>q;rcases hc with z | z
  .rw[z];exact nit b u e
  .exact nit c _ z
theorem Inv.tok(I:Inv X ae O H s)(t:Nat):Inv X ae O H { s with toks:=t } :=I.un (h':=s.heap) (t':=t) Un.refl I.hok
theorem Inv.kept{t':Nat}(I:Inv X ae O H s)(k:∀b u,s.heap.get? b=some u->h'.get? b=some u):Inv X ae O H { s with heap:=h',toks:=t' } :=I.un (Un.kept k) (I.hok.kept k)
theorem Inv.laid{a:Addr}{o:HO}{t':Nat}(I:Inv X ae O H s)(k:∀b u,s.heap.get? b=some u->h'.get? b=some u)(hp:s.heap.objs.size<=a)(new:ObjOk X.prog X.w (upd H a o) h' a o) :
  Inv X ae O (upd H a o) { s with heap:=h',toks:=t' } :=I.un (Un.laid k hp (I.hok.fresh hp)) (I.hok.laid k hp new)
theorem Inv.write{t':Nat}(I:Inv X ae O H s)(mu:Mut (H x))(he:e=x∨H e=some (.own x))(k:∀b u,b≠e->s.heap.get? b=some u->h'.get? b=some u)(heo:∃u,h'.get? e=some u)
  (new:ObjOk X.prog X.w (upd H x o) h' x o):Inv X ae O (upd H x o) { s with heap:=h',toks:=t' } :=I.un (Un.write mu he k heo) (I.hok.write mu he k heo new)
theorem Inv.weak{O':List (Option V)}(I:Inv X ae O H s)(hl:O'.length=O.length)(w:∀(i:Nat) v,O'[i]? = some (some v)->O[i]? = some (some v)):Inv X ae O' H s:=
 {I.ok,I.os,I.bare,I.base,let ⟨m,hn,hl'⟩:=I.loc;{m,hn,λi x v e1 e2 e3=>hl' i x v e1 (w i v e2) e3},I.cell,I.free,I.freeC,I.pin,I.hok,hl.trans I.len}
theorem Inv.pins_of(I:Inv X ae O H s)(h:∀p∈pins',s.heap.get? p.1=some p.2/\H p.1=none/\p.1≠X.env.locals/\p.1∉X.fs/\∀v,p.2.data≠.cell v):Inv X pins' O H s:=
 {I.ok,I.os,I.bare,I.base,I.loc,I.cell,I.free,I.freeC,λp hp=>(mV.mp hp).elim (λz=>I.pin p (List.mem_append_left _ z)) (h p),I.hok,I.len}
theorem DQ{N:List Str}(hN:N.Nodup){i j:Nat}(a:N[i]? = some x)(b:N[j]? = some x):i=j:=by
 obtain⟨h1,e1⟩:=uW.mp a;obtain⟨h2,e2⟩:=uW.mp b;exact(List.getElem_inj hN).mp (e1.trans e2.symm)
theorem EY{E:Value->Shared->Prop}{i:Nat}{Q:Unit->Shared->Prop}(I:Inv X ae O H s)(hN:X.N.Nodup)(hi:X.N[i]? = some x)(hx:Loc X.env.scope x)(r:RelV v u)
  (h:∀s',Inv X ae (O.set i (some v)) H s'->(∃a,Heap.SameBut a s.heap s'.heap/\(a=X.env.locals∨X.env.cells.lookup x=some a))->Q () s') (hf:X.fn x=true∨X.env.scope.names.lookup x=some .local:=by first | exact .inl rfl | exact .inr rfl | assumption):wpAny M A (storeName X.env x u) Q E s:=by
 obtain⟨m,hn,hl⟩:=id I.loc;let hcls:(X.env.scope.kind==.class||(X.env.scope.kind==.module&&X.env.locals != X.env.globals))=false:=by rw[I.ok.kind];rfl
 let hiO:i<O.length:=by rw[I.len];exact(uW.mp hi).1
 let cne:=I.cne;let tracked:∀{a:Addr} {h':Heap},(∃o,s.heap.get? a=some o/\H a=none)->Heap.SameBut a s.heap h'->HOk X.prog X.w H h':=fun {a h'} ha hs b ob e=>by
  obtain⟨_,_,hfree⟩:=ha;refine(I.hok b ob e).stay (λc w' hc q=>(hs.2 c ?_).trans q) (λ_ q=>q) λ_ _ q=>q;rintro rfl;rcases hc with rfl | hc
  .rw[hfree]at e;cases e
  .rw[hfree]at hc;cases hc
 rcases hx with hk | hk
 .refine wpAny_storeName_local hk hn (λh' hn' hs=>?_) hcls;obtain⟨oL,_,_,hoL,_⟩:=id hn;refine h _ {I.ok,I.os,I.bare,{λb o e n hb hx=>?_,λb o e n hb hx=>?_,I.base.free,λb o e hx=>?_,I.base.tups,I.base.frzs,I.base.tbls},{_,hn',λj y v' e1 e2 e3=>?_},λy c e=>?_,I.free,I.freeC,λp hp=>?_,tracked {oL,hoL,(I.free)} hs,by simpa using I.len} {_,hs,.inl rfl}
  .exact(hs.2 b (nS (gZ (nP e) I.ok.above))).trans (I.base.keep b o e n hb hx)
  .obtain⟨sl,e1⟩:=I.base.slot b o e n hb hx;exact{sl,(hs.2 b (nS (gZ (nP e) I.ok.above))).trans e1}
  .obtain⟨o',e1⟩:=I.base.there b o e hx;exact{o',(hs.2 b (nS (gZ (nP e) I.ok.above))).trans e1}
  .by_cases hj:j=i
   .subst hj;rw[hi]at e1;cases e1;rw[List.getElem?_set_self hiO]at e2;cases e2;exact{u,r,.inl {hk,by simp}}
   .rw[List.getElem?_set_ne (Ne.symm hj)]at e2;obtain⟨u',r',q⟩:=hl j y v' e1 e2 e3;refine{u',r', ?_};rcases q with⟨k,e⟩ | ⟨k,c,e,z⟩
    .refine .inl {k, ?_};let:y≠x:=λe=>hj (DQ hN e1 (e▸hi));simp [this,e]
    .exact .inr {k,c,e,z.sameBut hs (cne y c e)}
  .obtain⟨w',z⟩:=I.cell y c e;exact{w',z.sameBut hs (cne y c e)}
  .obtain⟨e,n,ne,nf,d⟩:=I.pin p hp;exact{(hs.2 p.1 ne).trans e,n,ne,nf,d}
 .have hfn:X.fn x=true:=by
   rcases hf with z | z
   .exact z
   .rw[z]at hk;cases hk
  obtain⟨c,hc⟩:=I.ok.has x (.inl hk);obtain⟨w',z⟩:=I.cell x c hc;refine wpAny_storeName_cell I.ok.kind hk hc z (λh' hc' hs=>?_);obtain⟨oc,hoc,hocd⟩:=id z;refine h { s with heap:=h' } {I.ok,I.os,I.bare,{λb o e n hb hx=>?_,λb o e n hb hx=>?_,I.base.free,λb o e hx=>?_,I.base.tups,I.base.frzs,I.base.tbls},{m,hn.sameBut hs (Ne.symm (cne x c hc)),λj y v' e1 e2 e3=>?_},λy c' e=>?_,I.free,I.freeC,λp hp=>?_,tracked {oc,hoc,I.freeC x c hc} hs,by simpa using I.len} {c,hs,.inr hc}
  .exact(hs.2 b (nS (gZ (nP e) (I.ok.cab x c hfn hc)))).trans (I.base.keep b o e n hb hx)
  .obtain⟨sl,e1⟩:=I.base.slot b o e n hb hx;exact{sl,(hs.2 b (nS (gZ (nP e) (I.ok.cab x c hfn hc)))).trans e1}
  .obtain⟨o',e1⟩:=I.base.there b o e hx;exact{o',(hs.2 b (nS (gZ (nP e) (I.ok.cab x c hfn hc)))).trans e1}
  .by_cases hj:j=i
   .subst hj;rw[hi]at e1;cases e1;rw[List.getElem?_set_self hiO]at e2;cases e2;exact{u,r,.inr {.inl hk,c,hc,hc'}}
   .rw[List.getElem?_set_ne (Ne.symm hj)]at e2;obtain⟨u',r',q⟩:=hl j y v' e1 e2 e3;refine{u',r', ?_};rcases q with q | ⟨k,c',e,z'⟩
    .exact .inl q
    .refine .inr {k,c',e,z'.sameBut hs ?_};rintro rfl;exact hj (DQ hN e1 (I.ok.inj _ _ _ e hc▸hi))
  .by_cases hcc:c'=c
   .subst hcc;exact{_,hc'}
   .obtain⟨w2,z2⟩:=I.cell y c' e;exact{w2,z2.sameBut hs hcc}
  .obtain⟨e,n,ne,nf,d⟩:=I.pin p hp;refine{(hs.2 p.1 ?_).trans e,n,ne,nf,d};intro q;rw[q,hoc]at e;let q':oc=p.2:=Option.some.inj e;exact d w' (by rw[<-q'];exact hocd)
theorem yK{E:Value->Shared->Prop}{i:Nat}{Q:Unit->Shared->Prop}(I:Inv X ae O H s)(hN:X.N.Nodup)(hi:X.N[i]? = some x)(hx:Loc X.env.scope x)(r:RelV v u)
  (h:∀s',Inv X ae (O.set i (some v)) H s'->Q () s') (hf:X.fn x=true∨X.env.scope.names.lookup x=some .local:=by first | exact .inl rfl | exact .inr rfl | assumption):wpAny M A (storeName X.env x u) Q E s:=
 EY I hN hi hx r (λs' I' _=>h s' I') hf
theorem Inv.call'{s':Shared}(I:Inv X ae O H s)(ho:s'.os=s.os)(u:Un (frs X.stack) ch H H' s.heap s'.heap)(hok:HOk X.prog X.w H' s'.heap)(hg:AllBare s'.gens)
  (hch:∀b∈ch,(b∈X.ex∨X.s₀.heap.objs.size<=b)/\b≠X.env.locals/\(∀x c,X.env.cells.lookup x=some c->c≠b)/\∀p∈X.pn++ae,p.1≠b):Inv X ae O H' s':=by
 obtain⟨h',g',d',t',o'⟩:=s';let e:o'=s.os:=ho;subst e;exact I.call (g':=g') (t':=t') (d':=d') u hok hg hch
end
abbrev XK:=Value->Option Addr->Hp->Prop
abbrev St:=List (Option V)
abbrev VK:=V->Hp->Prop
abbrev TE:=St->Hp->VK->Prop
abbrev TT:=St->Hp->(Bool->Hp->Prop)->Prop
abbrev TA:=St->Hp->(List V->Hp->Prop)->Prop
structure Ends where
 nx:St->Hp->Prop
 rt:VK
 bk:St->Hp->Prop:=λ_ _=>False
 ct:St->Hp->Prop:=λ_ _=>False
abbrev TS:=Ends->St->Hp->Prop
def EP(X:Cx)(ae:List #[13])(O:St)(Q:VK)(u:Value)(s':Shared):Prop:=∃v H',Inv X ae O H' s'/\RelV v u/\Q v H'
def TP(X:Cx)(ae:List #[13])(O:St)(Q:Bool->Hp->Prop)(b:Bool)(s':Shared):Prop:=∃H',Inv X ae O H' s'/\Q b H'
def AP(X:Cx)(ae:List #[13])(O:St)(Q:List V->Hp->Prop)(us:List Value)(s':Shared):Prop:=∃vs H',Inv X ae O H' s'/\Vals vs us/\Q vs H'
def SP(X:Cx)(ae:List #[13])(D:Ends)(f:Flow)(s':Shared):Prop:=
 match f with
 | .next=>∃O' H',Inv X ae O' H' s'/\D.nx O' H'
 | .brk=>∃O' H',Inv X ae O' H' s'/\D.bk O' H'
 | .cont=>∃O' H',Inv X ae O' H' s'/\D.ct O' H'
 | .ret u=>∃v O' H',Inv X ae O' H' s'/\RelV v u/\D.rt v H'
def PE(X:Cx)(e:Expr)(t:TE):Prop:=
 ∀(ae:List #[13]) (s:Shared) (O:St) (H:Hp) (Q:VK),Inv X ae O H s->t O H Q->wpAny #[1] X.A (eval e X.env) #[60] X.xe s
def PT(X:Cx)(e:Expr)(t:TT):Prop:=
 ∀(ae:List #[13]) (s:Shared) (O:St) (H:Hp) (Q:Bool->Hp->Prop),Inv X ae O H s->t O H Q->wpAny #[1] X.A (isTrue e X.env (eval e X.env)) (TP X ae O Q) X.xe s
def PW(X:Cx)(e:Expr)(t:TT):Prop:=
 ∀(whole:Sem Value) (ae:List #[13]) (s:Shared) (O:St) (H:Hp) (Q:Bool->Hp->Prop),Inv X ae O H s->t O H Q->wpAny #[1] X.A (isTrue e X.env whole) (TP X ae O Q) X.xe s
theorem PW.pt(h:PW X e t):PT X e t:=h _
def PA(X:Cx)(es:List Expr)(t:TA):Prop:=
 ∀(pos:Pos) (ae:List #[13]) (s:Shared) (O:St) (H:Hp) (Q:List V->Hp->Prop),Inv X ae O H s->t O H Q->wpAny #[1] X.A (spliced #[47]) (AP X ae O Q) X.xe s
def PS(X:Cx)(st:Stmt)(t:TS):Prop:=
 ∀(ae:List #[13]) (s:Shared) (O:St) (H:Hp) (D:Ends),Inv X ae O H s->t D O H->wpAny #[1] X.A (exec st X.env) (SP X ae D) X.xe s
def PSs(X:Cx)(st:List Stmt)(t:TS):Prop:=
 ∀(ae:List #[13]) (s:Shared) (O:St) (H:Hp) (D:Ends),Inv X ae O H s->t D O H->wpAny #[1] X.A (execs st X.env) (SP X ae D) X.xe s
theorem thn{α:Type}{t:Sem α}{Q Q':α->Shared->Prop}{E:Value->Shared->Prop}(h:wpAny M A t Q E s)(hQ:∀a s,Q a s->Q' a s):wpAny M A t Q' E s:=tM h hQ λ_ _ x=>x
section
variable{X:Cx}
theorem bin(ha:PE X a ta)(hb:PE X b tb){R:V->V->Hp->Prop}(I:Inv X ae O H s)(h:ta O H λx H1=>tb O H1 λy H2=>R x y H2)
  {α:Type} {Q:α->Shared->Prop} {f:Value->Value->Sem α}
  (hf:∀v u s2 x y H2,Inv X ae O H2 s2->RelV x v->RelV y u->R x y H2->wpAny #[1] X.A (f v u) Q X.xe s2) :
  wpAny #[1] X.A (eval a X.env) (λv s₁=>wpAny #[1] X.A (eval b X.env) (λu s₂=>wpAny #[1] X.A (f v u) Q X.xe s₂) X.xe s₁) X.xe s:=by
 refine thn #[58] λv s1 ⟨x,H1,I1,r1,q1⟩=>?_;refine thn (hb ae s1 O H1 _ I1 q1) λu s2 ⟨y,H2,I2,r2,q2⟩=>?_;exact hf v u s2 x y H2 I2 r1 r2 q2
def jZ(i:Nat):TE:=fun O H Q=>∃v,O[i]? = some (some v)/\Q v H
def tC(v:V):TE:=λ_ H Q=>Q v H
theorem pe_var{i:Nat}{x:Str}{pos:Pos}(hN:X.N[i]? = some x)(hv:Vis X.env.scope x)(hd:#[20]=false:=by decide)(hcd:(x==("__classdict__" :Str))=false:=by decide):PE X (.Name x pos) (jZ i):=by
 intro ae s O H Q I h;obtain⟨v,e,h⟩:=h;obtain⟨m,hn,hl⟩:=I.loc;obtain⟨u,r,l⟩:=hl i x v hN e hv;let fin:EP X ae O Q u s:={v,H,I,r,(h)};rcases l with⟨hk,hm⟩ | ⟨hk,c,hc,hcell⟩
 .exact wpAny_Name (wpAny_loadName_local I.ok.kind hk hn hm fin) hd
 .rcases hk with hk | hk
  .exact wpAny_Name (wpAny_loadName_cell I.ok.kind hk hc hcell fin) hd
  .exact wpAny_Name (wpAny_loadName_free I.ok.kind hk hc hcell fin hcd) hd
theorem jB{i j pos} :PE X (.Constant (.int i) j pos) (tC (.int i)):=λ_ _ _ H _ I h=>wpAny_Constant_int {.int i,H,I.tok _,{_,rfl},h}
theorem XB{b j pos} :PE X (.Constant (.bool b) j pos) (tC (.bl b)):=λ_ _ _ H _ I h=>Constant_bool {.bl b,H,I,rfl,h}
theorem HV{j pos} :PE X (.Constant .none j pos) (tC .non):=λ_ _ _ H _ I h=>Constant_none {.non,H,I,rfl,(h)}
theorem HU{x j pos} :PE X (.Constant (.str x) j pos) (tC (.str x)):=λ_ _ _ H _ I h=>Calls.Constant_str {.str x,H,I.tok _,{_,rfl},h}
def Gl(X:Cx)(x:Str):Prop:=X.env.kindOf x=some .globalImplicit
theorem uK{E:Value->Shared->Prop}{Q:Value->Shared->Prop}(I:Inv X ae O H s)(hg:Gl X x)(hm:X.mg x=some u)(h:Q u s)
  (hd:#[20]=false:=by decide):wpAny #[1] X.A (eval (.Name x pos) X.env) Q E s:=
 Calls.Name_function_global I.ok.kind hg (Calls.loadGlobal_global (by rw[I.ok.glob];exact I.mod.glob.keeps I.bk) hm h) hd
theorem yH{E:Value->Shared->Prop}{ae:List #[13]}{s:Shared}{O:St}{H:Hp}{x:Str}{u:Value}{pos:Pos}{Q:Value->Shared->Prop}(I:Inv X ae O H s)(hg:Gl X x)(hm:X.mg x=none)(hv:bootBuiltins x=some u)(h:Q u s)
  (hn:x≠"__name__":=by decide) (hd:#[20]=false:=by decide):wpAny #[1] X.A (eval (.Name x pos) X.env) Q E s:=by
 obtain⟨mb,h1,h2⟩:=I.mod.blt;exact Calls.Name_function_global I.ok.kind hg (Calls.loadGlobal_builtin (by rw[I.ok.glob];exact I.mod.glob.keeps I.bk) hm (by rw[I.ok.blt];exact h1.keeps I.bk) ((h2 x hn).trans hv) h) hd
theorem qD(hg:Gl X x)(hm:X.mg x=some u)(r:RelV v u)(hd:#[20]=false:=by decide):PE X (.Name x pos) (tC v):=
 λ_ _ _ H _ I h=>uK I hg hm {v,H,I,r,(h)} hd
theorem PV{x:Str}{v:V}{u:Value}{pos:Pos}(hg:Gl X x)(hm:X.mg x=none)(hv:bootBuiltins x=some u)(r:RelV v u)(hn:x≠"__name__":=by decide)(hd:#[20]=false:=by decide):PE X (.Name x pos) (tC v):=
 λ_ _ _ H _ I h=>yH I hg hm hv {v,H,I,r,(h)} hn hd
variable{a b:Expr}{ta tb:TE}{pos:Pos}
def PC(X:Cx)(op:CmpOp)(a b:Expr)(t:TE):Prop:=
 ∀(ae:List #[13]) (s:Shared) (O:St) (H:Hp) (Q:VK),Inv X ae O H s->t O H Q->
  wpAny #[1] X.A (eval a X.env) (λv s₁=>wpAny #[1] X.A (eval b X.env) (λu s₂=>wpAny #[1] X.A (compareOp op v u) #[60] X.xe s₂) X.xe s₁) X.xe s
theorem XR(b:Expr)(h:op≠.In)(h2:op≠.NotIn):behindInMarks op b=false:=by
 let e1:(op==CmpOp.In)=false:=by cases op<;>first | rfl | exact absurd rfl h
 let e2:(op==CmpOp.NotIn)=false:=by cases op<;>first | rfl | exact absurd rfl h2
 cases b<;>simp [behindInMarks,e1,e2]
def tIsN(ta:TE):TE:=fun O H Q=>ta O H λx H1=>Q (.bl (decide (x=.non))) H1
theorem RelV.none_iff(r:RelV x v):(v==Value.none)=decide (x=.non):=by
 cases x with
 | non=>cases r;rfl
 | bl _=>cases r;rfl
 | int _=>obtain⟨t,rfl⟩:=r;rfl
 | str _=>obtain⟨t,rfl⟩:=r;rfl
 | byt _=>obtain⟨t,rfl⟩:=r;rfl
 | flt _=>obtain⟨t,rfl⟩:=r;rfl
 | ref _=>cases r;rfl
 | ty _=>cases r;rfl
theorem pc_isN{j pos'}(ha:PE X a ta):PC X .Is a (.Constant .none j pos') (tIsN ta):=by
 intro ae s O H Q I h;refine thn #[58] λv s1 ⟨x,H1,I1,r1,q1⟩=>?_;exact Constant_none (is_none_gen {.bl _,H1,I1,by rw[r1.none_iff];rfl,q1})
def tB(t:TE):TT:=fun O H Q=>t O H λx H1=>∃c,x=.bl c/\Q c H1
theorem MT(h:PC X op a b t)(h1:behindInMarks op b=false:=by first | exact XR _ #[0] #[0] | rfl):PT X (.Compare a [op] [b] pos) (tB t):=by
 intro ae s O H Q I hw;refine wpAny_isTrue_Compare1 (thn (h ae s O H _ I hw) λv s1 h1=>thn h1 λu s2 h2=>thn h2 λc s3 ⟨x,H1,I1,r1,q1⟩=>?_) h1;obtain⟨d,rfl,q⟩:=q1;cases r1;exact wpAny_truthy_bool {H1,I1,(q)}
theorem AO{e:Expr}(h:PE X e t)(he:∀whole,isTrue e X.env whole=(do let v<-whole;standAt e.pos;holding [v] (truthy v)):=by intro _;rfl):PT X e (tB t):=by
 intro ae s O H Q I hw;refine isTrue_plain (thn (h ae s O H _ I hw) λv s1 ⟨x,H1,I1,r1,q1⟩=>?_) (he _);obtain⟨d,rfl,q⟩:=q1;cases r1;exact wpAny_truthy_bool {H1,I1,(q)}
variable{tA tB':TT}{rest:List Expr}
def tAnd(t u:TT):TT:=fun O H Q=>t O H λc H1=>if c=true then u O H1 Q else Q false H1
def tOr(t u:TT):TT:=fun O H Q=>t O H λc H1=>if c=true then Q true H1 else u O H1 Q
def tNot(t:TT):TT:=fun O H Q=>t O H λc H1=>Q (!c) H1
theorem PF(ha:PT X a tA):PW X (.BoolOp .And [a] pos) tA:=by
 intro wh ae s O H Q I h;refine isTrue_and (thn (ha ae s O H Q I h) λc s1 e=>?_);cases c with
 | true=>exact isTrue_and_nil e
 | false=>exact e
theorem MS(ha:PT X a tA):PW X (.BoolOp .Or [a] pos) tA:=by
 intro wh ae s O H Q I h;refine isTrue_or (thn (ha ae s O H Q I h) λc s1 e=>?_);cases c with
 | false=>exact isTrue_or_nil e
 | true=>exact e
theorem WP(ha:PT X a tA)(hb:PW X (.BoolOp .And (b::rest) pos) tB'):PW X (.BoolOp .And (a::b::rest) pos) (tAnd tA tB'):=by
 intro wh ae s O H Q I h;refine isTrue_and (thn #[58] λc s1 ⟨H1,I1,q1⟩=>?_);cases c with
 | true=>exact hb wh ae s1 O H1 Q I1 q1
 | false=>exact{H1,I1,(q1)}
theorem WO(ha:PT X a tA)(hb:PW X (.BoolOp .Or (b::rest) pos) tB'):PW X (.BoolOp .Or (a::b::rest) pos) (tOr tA tB'):=by
 intro wh ae s O H Q I h;refine isTrue_or (thn #[58] λc s1 ⟨H1,I1,q1⟩=>?_);cases c with
 | true=>exact{H1,I1,(q1)}
 | false=>exact hb wh ae s1 O H1 Q I1 q1
theorem WS(ha:PT X a tA):PT X (.UnaryOp .Not a pos) (tNot tA):=by
 intro ae s O H Q I h;exact isTrue_not (ha ae s O H (λc H1=>Q (!c) H1) I h)
def tOrV(ta tb:TE):TE:=fun O H Q=>ta O H λx H1=>∃c,x=.bl c/\if c=true then Q (.bl true) H1 else tb O H1 Q
def tNotV(ta:TE):TE:=fun O H Q=>ta O H λx H1=>∃c,x=.bl c/\Q (.bl (!c)) H1
theorem pe_one{op}(h:PE X a t):PE X (.BoolOp op [a] pos) t:=λae s O H Q I hw=>BoolOp_one (h ae s O H Q I hw)
theorem pe_or(ha:PE X a ta)(hb:PE X (.BoolOp .Or (b::rest) pos) tb):PE X (.BoolOp .Or (a::b::rest) pos) (tOrV ta tb):=by
 intro ae s O H Q I h;refine BoolOp_or (thn #[58] λv s1 ⟨x,H1,I1,r1,q1⟩=>?_);obtain⟨c,rfl,q1⟩:=q1;cases r1;refine wpAny_truthy_bool ?_;cases c with
 | false=>exact hb ae s1 O H1 Q I1 q1
 | true=>exact{.bl true,H1,I1,rfl,q1}
theorem pe_not(ha:PE X a ta):PE X (.UnaryOp .Not a pos) (tNotV ta):=by
 intro ae s O H Q I h;refine UnaryOp_ (thn #[58] λv s1 ⟨x,H1,I1,r1,q1⟩=>?_);obtain⟨c,rfl,q1⟩:=q1;cases r1;exact not_of (wpAny_truthy_bool {.bl (!c),H1,I1,rfl,q1})
end
def SqL(K:tP)(H:Hp)(a:Addr)(xs:List V):Prop:=
 Rd H a (.lst xs)∨
  ∃(o:Obj) (its:Array Value) (n:Nat),K.lookup a=some o/\o.cls=.type "list"/\o.dict=none/\o.data=.seq its n/\its.size<=sizeLine/\Vals xs its.toList
def SqT(K:tP)(H:Hp)(a:Addr)(xs:List V):Prop:=
 Rd H a (.tup xs)∨
  ∃(o:Obj) (its:Array Value) (n:Nat),K.lookup a=some o/\o.cls=.type "tuple"/\o.data=.seq its n/\its.size<=sizeLine/\Vals xs its.toList
def absV:Value->Option V
 | .none=>some .non
 | .bool b=>some (.bl b)
 | .int i _=>some (.int i)
 | .str x _=>some (.str x)
 | .bytes b _=>some (.byt b)
 | .float b _=>some (.flt b)
 | .ref a=>some (.ref a)
 | .type n=>some (.ty n)
 | _=>none
theorem RelV.abs(r:RelV x u):absV u=some x:=by
 cases x with
 | non=>cases r;rfl
 | bl _=>cases r;rfl
 | int _=>obtain⟨t,rfl⟩:=r;rfl
 | str _=>obtain⟨t,rfl⟩:=r;rfl
 | byt _=>obtain⟨t,rfl⟩:=r;rfl
 | flt _=>obtain⟨t,rfl⟩:=r;rfl
 | ref _=>cases r;rfl
 | ty _=>cases r;rfl
theorem RelV.inj(r:RelV x u)(q:RelV y u):x=y:=Option.some.inj (r.abs.symm.trans q.abs)
theorem Vals.inj:∀{xs ys:List V} {us:List Value},Vals xs us->Vals ys us->xs=ys
 | _,_,_,.nil,.nil=>rfl
 | _,_,_,.cons r t,.cons r' t'=>by rw[r.inj r',Vals.inj t t']
section
variable{X:Cx}{ae:List #[13]}{O:St}{H:Hp}{s:Shared}{a:Addr}{xs ys:List V}
theorem SqL.of{K:tP}(h:H a=some (.lst xs)):SqL K H a xs:=.inl (.inl h)
theorem SqT.of{K:tP}(h:H a=some (.tup xs)):SqT K H a xs:=.inl (.inl h)
theorem Inv.list(I:Inv X ae O H s)(h:SqL X.K H a xs):∃its:List Value,Vals xs its/\PlainL s.heap a its.toArray/\xs.length<=sizeLine:=by
 rcases h with h | ⟨o,its,n,hk,hc,hd,hs,hz,r⟩
 .obtain⟨z,its,n,r,e⟩:=h.ok I.hok;exact{its,r,{_,n,e,rfl,rfl,rfl},z}
 .refine{its.toList,r,{o,n,I.kIn a o hk,hc,hd,by simpa using hs}, ?_};let e:=r.length;simp only[Array.length_toList]at e
  ∎
theorem Inv.tuple(I:Inv X ae O H s)(h:SqT X.K H a xs):∃its:List Value,Vals xs its/\IsTup s.heap a its.toArray/\xs.length<=sizeLine:=by
 rcases h with h | ⟨o,its,n,hk,hc,hs,hz,r⟩
 .obtain⟨z,its,r,p⟩:=h.ok I.hok;exact{its,r,p.1,(z)}
 .refine{its.toList,r,{o,I.kIn a o hk,hc,n,by simpa using hs}, ?_};let e:=r.length;simp only[Array.length_toList]at e
  ∎
theorem Inv.list_inj(I:Inv X ae O H s)(h:SqL X.K H a xs)(h':SqL X.K H a ys):xs=ys:=by
 obtain⟨its,r,⟨o,n,e,_,_,d⟩,_⟩:=I.list h;obtain⟨its',r',⟨o',n',e',_,_,d'⟩,_⟩:=I.list h';rw[e]at e';cases e';rw[d]at d';injection d' with d1 _
 let:its=its':=by simpa using congrArg Array.toList d1
 subst this;exact r.inj r'
theorem Inv.tuple_inj(I:Inv X ae O H s)(h:SqT X.K H a xs)(h':SqT X.K H a ys):xs=ys:=by
 obtain⟨its,r,⟨o,e,_,n,d⟩,_⟩:=I.tuple h;obtain⟨its',r',⟨o',e',_,n',d'⟩,_⟩:=I.tuple h';rw[e]at e';cases e';rw[d]at d';injection d' with d1 _
 let:its=its':=by simpa using congrArg Array.toList d1
 subst this;exact r.inj r'
end
abbrev Cx.wish(X:Cx)(E:Value->Shared->Prop):Cx:={ X with xe:=E }
abbrev Cx.nox(X:Cx):Cx:=X.wish λ_ _=>False
theorem Cx.Ok.wish{X:Cx}(ok:X.Ok)(E:Value->Shared->Prop):(X.wish E).Ok:=
 {ok.mod,ok.kind,ok.glob,ok.blt,ok.above,ok.inj,ok.has,ok.cab,ok.hd,ok.frames,ok.stk,ok.exf,ok.bs,ok.bsz,ok.noex,ok.exfs,ok.funs,(ok.frf)}
theorem Cx.Ok.unwish{X:Cx}{E:Value->Shared->Prop}(ok:(X.wish E).Ok):X.Ok:=
 {ok.mod,ok.kind,ok.glob,ok.blt,ok.above,ok.inj,ok.has,ok.cab,ok.hd,ok.frames,ok.stk,ok.exf,ok.bs,ok.bsz,ok.noex,ok.exfs,ok.funs,(ok.frf)}
section
variable{X:Cx}{ae:List #[13]}{O:St}{H:Hp}{s:Shared}{E:Value->Shared->Prop}
theorem Inv.wish(I:Inv X ae O H s)(E:Value->Shared->Prop):Inv (X.wish E) ae O H s:={I.ok.wish E,I.os,I.bare,I.base,I.loc,I.cell,I.free,I.freeC,I.pin,I.hok,I.len}
theorem Inv.unwish(I:Inv (X.wish E) ae O H s):Inv X ae O H s:={I.ok.unwish,I.os,I.bare,I.base,I.loc,I.cell,I.free,I.freeC,I.pin,I.hok,(I.len)}
theorem SP.unwish(h:SP (X.wish E) ae D f s'):SP X ae D f s':=by
 cases f with
 | next=>obtain⟨O',H',I,q⟩:=h;exact{O',H',I.unwish,(q)}
 | brk=>obtain⟨O',H',I,q⟩:=h;exact{O',H',I.unwish,(q)}
 | cont=>obtain⟨O',H',I,q⟩:=h;exact{O',H',I.unwish,(q)}
 | ret u=>obtain⟨v,O',H',I,r,q⟩:=h;exact{v,O',H',I.unwish,r,(q)}
theorem PSs.nox{st:List Stmt}{t:TS}(h:PSs X.nox st t):PSs X st t:=λae s O H D I hw=>
 tM (h ae s O H D (I.wish _) hw) (λ_ _ q=>q.unwish) λ_ _ z=>False.elim z
end
section
variable{X:Cx}{st:Stmt}{rest:List Stmt}{t u:TS}{e:Expr}{te:TE}{pos:Pos}
def tNext:TS:=λD O H=>D.nx O H
def vB(t u:TS):TS:=λD O H=>t { D with nx:=u D } O H
theorem jY:PSs X [] tNext:=λ_ _ O H _ I h=>wpAny_execs_nil {O,H,I,(h)}
theorem jC(h1:PS X st t)(h2:PSs X rest u):PSs X (st::rest) (vB t u):=by
 intro ae s O H D I h;refine wpAny_execs_cons (thn (h1 ae s O H { D with nx:=u D } I h) λf s1 q=>?_);cases f with
 | next=>
  obtain⟨O',H',I',q⟩:=q;exact h2 ae s1 O' H' D I' q
 | ret v=>exact q
 | brk=>exact q
 | cont=>exact q
theorem jF(h1:PS X st t):PSs X [st] t:=by
 intro ae s O H D I h;refine wpAny_execs_cons (thn (h1 ae s O H D I h) λf s1 q=>?_);cases f with
 | next=>exact wpAny_execs_nil q
 | ret v=>exact q
 | brk=>exact q
 | cont=>exact q
theorem Inv.quiet(I:Inv X ae O H s):interactive X.env=false:=by simp [interactive,I.ok.kind]
def tDrop(te:TE):TS:=λD O H=>te O H λ_ H1=>D.nx O H1
theorem yC(he:PE X e te)(hs:swapsWith e none pos.line X.env=pure false:=by rfl):PS X (.Expr e pos) (tDrop te):=by
 intro ae s O H D I h;exact wpAny_Expr_any (thn (he ae s O H _ I h) λv s1 ⟨x,H1,I1,r1,q1⟩=>{O,H1,I1,(q1)}) I.quiet hs
def ME(te:TE):TS:=λD O H=>te O H D.rt
theorem jR(he:PE X e te):PS X (.Return (some e) pos) (ME te):=by
 intro ae s O H D I h;exact wpAny_Return_some (thn (he ae s O H _ I h) λv s1 ⟨x,H1,I1,r1,q1⟩=>{x,O,H1,I1,r1,(q1)})
def tIfS(c:TT)(t u:TS):TS:=λD O H=>c O H λb H1=>if b=true then t D O H1 else u D O H1
theorem qJ(hc:PT X c tc)(ha:PSs X a t)(hb:PSs X b u):PS X (.If c a b pos) (tIfS tc t u):=by
 intro ae s O H D I h;refine wpAny_If (thn (hc ae s O H _ I h) λd s1 ⟨H1,I1,q1⟩=>?_);cases d with
 | true=>exact ha ae s1 O H1 D I1 q1
 | false=>exact hb ae s1 O H1 D I1 q1
def tNever:TS:=λ_ _ _=>False
theorem uA:PS X st tNever:=λ_ _ _ _ _ _ h=>h.elim
theorem FC :PSs X sts tNever:=λ_ _ _ _ _ _ h=>h.elim
end
abbrev TG:=V->St->Hp->(St->Hp->Prop)->Prop
abbrev TGs:=List V->St->Hp->(St->Hp->Prop)->Prop
def PG(X:Cx)(target:Expr)(t:TG):Prop:=
 ∀(ae:List #[13]) (s:Shared) (O:St) (H:Hp) (v:V) (u:Value) (Q:St->Hp->Prop),Inv X ae O H s->RelV v u->t v O H Q->
  wpAny #[1] X.A (assign target X.env u) (λ_ s'=>∃O' H',Inv X ae O' H' s'/\Q O' H') X.xe s
def PGs(X:Cx)(ts:List Expr)(t:TGs):Prop:=
 ∀(ae:List #[13]) (s:Shared) (O:St) (H:Hp) (vs:List V) (us:List Value) (Q:St->Hp->Prop),Inv X ae O H s->Vals vs us->t vs O H Q->
  wpAny #[1] X.A (assignInOrder ((assignEach ts X.env).map (·.2)) us) (λ_ s'=>∃O' H',Inv X ae O' H' s'/\Q O' H') X.xe s
abbrev TSet:=V->V->V->Hp->(Hp->Prop)->Prop
def PSet(X:Cx)(t:TSet):Prop:=
 ∀(ae:List #[13]) (s:Shared) (O:St) (H:Hp) (o i v:V) (ov iv u:Value) (Q:Hp->Prop),Inv X ae O H s->RelV o ov->RelV i iv->RelV v u->t o i v H Q->
  wpAny #[1] X.A (setItem ov iv u) (λ_ s'=>∃H',Inv X ae O H' s'/\Q H') X.xe s
section
variable{X:Cx}{pos:Pos}
def jP(i:Nat):TG:=λv O H Q=>Q (O.set i (some v)) H
theorem jH{i:Nat}(hN:X.N.Nodup)(hi:X.N[i]? = some x)(hx:Loc X.env.scope x)(hf:X.fn x=true∨X.env.scope.names.lookup x=some .local:=by first | exact .inl rfl | exact .inr rfl | assumption):PG X (.Name x pos) (jP i):=by
 intro ae s O H v u Q I r h;exact wpAny_assign_Name (yK I hN hi hx r (λs' I'=>{_,H,I',h}) hf)
def gNil:TGs:=λvs O H Q=>vs=[]/\Q O H
def vM(t:TG)(u:TGs):TGs:=λvs O H Q=>∃v r,vs=v::r/\t v O H fun O' H'=>u r O' H' Q
theorem kT:PGs X [] gNil:=by
 intro ae s O H vs us Q I r h;obtain⟨e,h⟩:=h;subst e;cases r;exact assignInOrder_nil {O,H,I,(h)}
theorem jK(h1:PG X e t)(h2:PGs X es u)
  (hs:(assignEach (e::es) X.env).map (·.2)=assign e X.env::(assignEach es X.env).map (·.2):=by rfl):PGs X (e::es) (vM t u):=by
 intro ae s O H vs us Q I r h;obtain⟨v,vr,e1,h⟩:=h;subst e1;cases r with
 | cons r rr=>
  rw[hs];refine assignInOrder_cons (thn (h1 ae s O H _ _ _ I r h) λ_ s1 ⟨O1,H1,I1,q1⟩=>?_);exact h2 ae s1 O1 H1 _ _ Q I1 rr q1
def EC(K:tP)(n:Nat)(t:TGs):TG:=λv O H Q=>∃a xs,v=.ref a/\SqT K H a xs/\xs.length=n/\t xs O H Q
theorem qK{k:Nat}{n:Nat}(hc:X.calm=true)(h:PGs X es t)
  (hn:(assignEach es X.env).length=n:=by rfl) (hst:(assignEach es X.env).findIdx? (·.1)=none:=by rfl):PG X (.Tuple es k pos) (EC X.K n t):=by
 intro ae s O H v u Q I r hw;obtain⟨a,xs,e1,hq,hl,hw⟩:=hw;subst e1;cases r;obtain⟨its,rv,ht,hz⟩:=I.tuple hq;refine assign_Tuple_tuple (I.ok.hd hc) ht (by simp [hn,<-hl,rv.length]) hst λh' hx=>?_;let I1:Inv X ae O H { s with heap:=h' } :=I.kept (t':=s.toks) λb o e=>hx b o (nS (nP e)) e;exact h ae _ O H xs _ Q I1 (by simpa using rv) hw
def LA(to ti:TE)(t:TSet):TG:=λv O H Q=>to O H λo H1=>ti O H1 λi H2=>t o i v H2 λH3=>Q O H3
theorem yX(ho:PE X o to)(hi:PE X i ti)(hs:PSet X t)
  (ha:∀v,assign (.Subscript o i pos) X.env v=(do
   let ov<-holding [v] (eval o X.env);let iv<-holding [v,ov] (eval i X.env)
   standAt pos
   holding [v,ov,iv] (setItem ov iv v)
   release [v,ov,iv] []):=by intro _;rfl):PG X (.Subscript o i pos) (LA to ti t):=by
 intro ae s O H v u Q I r h;rw[ha];refine tK (wpAny_holding (thn (ho ae s O H _ I h) λov s1 ⟨x,H1,I1,r1,q1⟩=>?_));refine tK (wpAny_holding (thn (hi ae s1 O H1 _ I1 q1) λiv s2 ⟨y,H2,I2,r2,q2⟩=>?_));refine tK (wpAny_standAt (tK (wpAny_holding (thn (hs ae s2 O H2 x y v ov iv u _ I2 r1 r2 r q2) λ_ s3 ⟨H3,I3,q3⟩=>?_))));exact wpAny_release {O,H3,I3,(q3)}
def xS(te:TE)(g:TG):TS:=λD O H=>te O H λx H1=>g x O H1 D.nx
theorem xA(he:PE X e te)(hg:PG X tg g)(hs:swapsWithSole [tg] e pos.line X.env=pure false:=by rfl)(hw:swappedStores [tg] e X.env=pure none:=by rfl)
  (h1:(assignEach [tg] X.env).map (·.2)=[assign tg X.env]:=by rfl):PS X (.Assign [tg] e pos) (xS te g):=by
 intro ae s O H D I h;refine wpAny_Assign_stores (thn (he ae s O H _ I h) λv s1 ⟨x,H1,I1,r1,q1⟩=>?_) hs hw;rw[h1];exact thn (hg ae s1 O H1 x v _ I1 r1 q1) λ_ s2 q=>q
theorem jM{i:Nat}(hN:X.N.Nodup)(hi:X.N[i]? = some x)(hx:Loc X.env.scope x)(he:PE X e te)(hs:swapsWith e (some (.Name x pos')) pos.line X.env=pure false:=by rfl)(hf:X.fn x=true∨X.env.scope.names.lookup x=some .local:=by first | exact .inl rfl | exact .inr rfl | assumption) :
  PS X (.Assign [.Name x pos'] e pos) (xS te (jP i)):=by
 intro ae s O H D I h;refine wpAny_Assign_Name (thn (he ae s O H _ I h) λv s1 ⟨y,H1,I1,r1,q1⟩=>?_) hs;exact yK I1 hN hi hx r1 (λs2 I2=>{_,H1,I2,q1}) hf
def tPar(i j:Nat)(ta:TA):TS:=λD O H=>ta O H λvs H1=>∃v w,vs=[v,w]/\D.nx ((O.set i (some v)).set j (some w)) H1
theorem MU{i j:Nat}{kt k2 pt2}(hc:X.calm=true)(hN:X.N.Nodup)(hi:X.N[i]? = some x)(hj:X.N[j]? = some y)(hij:i≠j)
  (hx:X.env.scope.names.lookup x=some .local) (hy:X.env.scope.names.lookup y=some .local) (ha:PA X [a,b] ta)
  (hw:swappedStores [.Tuple [.Name x px,.Name y py] kt pt] (.Tuple [a,b] k2 pt2) X.env=pure (some [x,y]))
  (hs:swapsWithSole [.Tuple [.Name x px,.Name y py] kt pt] (.Tuple [a,b] k2 pt2) pos.line X.env=pure false:=by rfl) :
  PS X (.Assign [.Tuple [.Name x px,.Name y py] kt pt] (.Tuple [a,b] k2 pt2) pos) (tPar i j ta):=by
 intro ae s O H D I h;rw[exec_Assign_arm];refine tK (wpAny_standAt ?_);rw[hs];refine tK (tL ?_);rw[tN #[0]];refine tK (Tuple_ (thn (ha _ ae s O H _ I h) λus s1 ⟨vs,H1,I1,r1,q1⟩=>?_));obtain⟨v,w,e1,q1⟩:=q1;subst e1;obtain⟨u1,u2,rfl,rv,rw'⟩:∃u1 u2,us=[u1,u2]/\RelV v u1/\RelV w u2:=by
  cases r1 with
  | cons p q=>
   cases q with
   | cons p' q'=>
    cases q';exact{_,_,rfl,p,p'}
 refine wpAny_newObj_type ?_ uR ;let I2:Inv X ae O H1 { s1 with heap:=s1.heap.push { cls:=.type "tuple",data:=.seq [u1,u2].toArray } } :=I1.kept (t':=s1.toks) λb o e=>gC _ e;rw[hw];refine tK (tL ?_);show wpAny #[1] X.A (do rule "assign.swapped-stores";let items<-unpackItems (.ref s1.heap.objs.size) 2 none;assignInOrder [λv=>bindName X.env y v,λv=>bindName X.env x v] items.reverse;pure Flow.next) _ _ _;refine tK (wpAny_rule (tK (unpackItems_tuple (items:=#[u1,u2]) (I.ok.hd hc) (IsTup.new s1.heap _) λh' hx'=>?_)));let I3:=I2.kept (h':=h') (t':=s1.toks) λb o e=>hx' b o (nS (nP e)) e;show wpAny _ _ (assignInOrder [λv=>bindName X.env y v,λv=>bindName X.env x v] [u2,u1] >>= λ_=>pure Flow.next) _ _ _;refine tK (assignInOrder_cons (wpAny_bindName (yK I3 hN hj (.inl hy) rw' (λs2 I4=>?_) (.inr hy))));refine assignInOrder_cons (wpAny_bindName (yK I4 hN hi (.inl hx) rv (λs3 I5=>assignInOrder_nil (tL ?_)) (.inr hx)));rw[List.set_comm _ _ (Ne.symm hij)]at I5;exact{_,H1,I5,q1}
end
section
variable{X:Cx}{pos:Pos}
def MD(c:TT)(tb:TS):TS:=λD O H=>∃W:Nat->St->Hp->Prop,(∃m,W m O H)/\∀m O H,W m O H->
 c O H λb H1=>if b=true then ∃N:St->Hp->Prop,(∀O' H',N O' H'->∃m',m'<m/\W m' O' H')/\tb { D with nx:=N,ct:=N,bk:=D.nx } O H1 else D.nx O H1
theorem JQ(hp:PassesOwn #[1] X.A X.env X.xe)(hc:PT X c tc)(hb:PSs X body tb):PS X (.While c body [] pos) (MD tc tb):=by
 intro ae s O H D I h;obtain⟨W,⟨m0,w0⟩,turn⟩:=h;refine wpAny_While (codeAny_whileLoop (λn s'=>∃O' H',Inv X ae O' H' s'/\W n O' H') ?_ m0 {O,H,I,(w0)});rintro n s1 ⟨O1,H1,I1,w1⟩;refine wpAny_passesOwn hp (thn (hc ae s1 O1 H1 _ I1 (turn n O1 H1 w1)) λb s2 ⟨H2,I2,q2⟩=>?_);cases b with
 | true=>
  obtain⟨N,hN,q2⟩:=q2;rw[tO rfl];refine wpAny_passesOwn hp (thn (hb ae s2 O1 H2 _ I2 q2) λf s3 q3=>?_);cases f with
  | next=>
   obtain⟨O3,H3,I3,n3⟩:=q3;obtain⟨m',hm,w3⟩:=hN O3 H3 n3;exact{m',hm,O3,H3,I3,(w3)}
  | cont=>
   obtain⟨O3,H3,I3,n3⟩:=q3;obtain⟨m',hm,w3⟩:=hN O3 H3 n3;exact{m',hm,O3,H3,I3,(w3)}
  | brk=>exact q3
  | ret v=>exact q3
 | false=>
  rw[tN gY];exact wpAny_execs_nil {O1,H2,I2,(q2)}
end
structure It where
 go:Nat->Hp->Prop
 yld:Nat->Hp->V->Hp->Prop
 stop:Nat->Hp->Prop
def FpOk(X:Cx)(ae:List #[13])(H:Hp)(b:Addr):Prop:=
 H b=none/\b≠X.env.locals/\b∉X.fs/\(b∈X.ex∨X.s₀.heap.objs.size<=b)/\(∀x c,X.env.cells.lookup x=some c->c≠b)/\∀p∈X.pn++ae,p.1≠b
theorem Inv.fpOk{X:Cx}{ae:List #[13]}{O:St}{H H':Hp}{s:Shared}{b:Addr}(I:Inv X ae O H s)(hb:s.heap.objs.size<=b)(hn:H' b=none):FpOk X ae H' b:=by
 refine{hn,Nat.ne_of_gt (gZ I.lt hb),I.nofs hb,.inr (nQ I.sz hb),λx c e z=>?_,λp hp z=>?_}
 .obtain⟨v,q⟩:=I.cell x c e;exact absurd (gZ q.lt (by rw[z];exact hb)) (nJ _)
 .exact absurd (gZ (nP (I.pin p hp).1) (by rw[z];exact hb)) (nJ _)
structure Turn(P:Program)(w:World)(K:tP)(tg:Expr)(J:It)(fp:List Addr)(it:Addr)(tn:Nat->Heap->Prop):Prop where
 mem:it∈fp
 obj:∀i h,tn i h->∀b∈fp,∃o,h.get? b=some o/\∀v,o.data≠.cell v
 keep:∀i h h',tn i h->(∀b∈fp,∀o,h.get? b=some o->h'.get? b=some o)->tn i h'
 item:∀(X:Cx),X.prog=P->X.w=w->X.K=K->X.calm=true->∀(i:Nat) (ae:List #[13]) (s:Shared) (O:St) (H:Hp) (E:Value->Shared->Prop),Inv X ae O H s->(∀b∈fp,FpOk X ae H b)->tn i s.heap->J.go i H->
  wpAny (model P w) X.A (pyNext (.ref it)) (λr s1=>∃u,r=some u/\
   wpAny (model P w) X.A (letOwnedTupleGo tg (.ref it) u) (λ_ s2=>∃x H',Inv X ae O H' s2/\RelV x u/\J.yld i H x H'/\tn (i+1) s2.heap/\∀b∈fp,H' b=none) E s1) E s
 done:∀(X:Cx),X.prog=P->X.w=w->X.K=K->X.calm=true->∀(i:Nat) (ae:List #[13]) (s:Shared) (O:St) (H:Hp) (E:Value->Shared->Prop),Inv X ae O H s->(∀b∈fp,FpOk X ae H b)->tn i s.heap->J.stop i H->
  wpAny (model P w) X.A (pyNext (.ref it)) (λr s1=>r=none/\Inv X ae O H s1) E s
 self:∀(A:Around) (i:Nat) (s:Shared) (Q:Value->Shared->Prop) (E:Value->Shared->Prop),tn i s.heap->Q (.ref it) s->wpAny (model P w) A (pyIter (.ref it)) Q E s
abbrev TI:=St->Hp->(It->Hp->Prop)->Prop
def PIE(X:Cx)(ae:List #[13])(O:St)(tg:Expr)(R:It->Hp->Prop)(itv:Value)(s2:Shared):Prop:=
 ∃(it:Addr) (fp:List Addr) (tn:Nat->Heap->Prop) (J:It) (H':Hp),itv=.ref it/\Inv X ae O H' s2/\Turn X.prog X.w X.K tg J fp it tn/\tn 0 s2.heap/\(∀b∈fp,FpOk X ae H' b)/\R J H'
def PI(X:Cx)(tg iter:Expr)(wi:TI):Prop:=
 ∀(ae:List #[13]) (s:Shared) (O:St) (H:Hp) (R:It->Hp->Prop),Inv X ae O H s->wi O H R->
  wpAny #[1] X.A (eval iter X.env) (λv s1=>wpAny #[1] X.A (pyIter v) (PIE X ae O tg R) X.xe s1) X.xe s
theorem FM{E:Value->Shared->Prop}{s:Shared}{o:Obj}{Q:Unit->Shared->Prop}(ho:s.heap.get? it=some o)(hc:o.cls=.type n)(hd:o.data=.fields vs)
  (hn:["enumerate","zip","dict_itemiterator","dict_reverseitemiterator","odict_iterator","itertools.zip_longest","itertools.pairwise"].contains n=false) (hQ:Q () s):wpAny M A (letOwnedTupleGo tg (.ref it) u) Q E s:=by
 unfold letOwnedTupleGo;cases tg<;>first
  | exact tL hQ
  | (cases u<;>first
    | exact tL hQ
    | (refine tK (wpAny_load ho ?_);rw[hc,hd];show wpAny M A (if (["enumerate","zip","dict_itemiterator","dict_reverseitemiterator","odict_iterator","itertools.zip_longest","itertools.pairwise"].contains n&&vs[0]? ==some (rawInt _))=true then _ else _) Q E s;rw[tN (by intro h;rw[hn,Bool.false_and]at h;cases h)];exact tL hQ))
def Itl(K:tP)(a:Addr):It:=
 {λi H=>∃xs x,SqL K H a xs/\xs[i]? = some x,λi H x H'=>H'=H/\∀xs,SqL K H a xs->xs[i]? = some x,λi H=>∃xs,SqL K H a xs/\xs.length<=i}
def Itt(K:tP)(a:Addr):It:=
 {λi H=>∃xs x,SqT K H a xs/\xs[i]? = some x,λi H x H'=>H'=H/\∀xs,SqT K H a xs->xs[i]? = some x,λi H=>∃xs,SqT K H a xs/\xs.length<=i}
def Itr(lo:Int)(n:Nat):It:={λi _=>i<n,λi H x H'=>H'=H/\x=.int (lo+i),λi _=>n<=i}
theorem SO{P:Program}{w:World}{K:tP}{tg:Expr}(a it:Addr):Turn P w K tg (Itl K a) [it] it (λi h=>h.IsListIter it a i) where
 mem:=by simp
 obj:=λi h st b hb=>by
  let e:b=it:=by simpa using hb
  subst e;obtain⟨o,e,c,d⟩:=st;exact{o,e,λv z=>by rw[d]at z;cases z}
 keep:=λi h h' st k=>st.at λo e=>k it #[14] o e
 item:=by
  intro X hP hw hK hc i ae s O H E I hf st hg;subst hP hw hK;obtain⟨xs,x,hq,hx⟩:=hg;obtain⟨its,rv,p,hz⟩:=I.list hq;obtain⟨u,hu,ru⟩:=rv.get hx;obtain⟨f0,f1,f2,f3,f4,f5⟩:=hf it #[14];refine wpAny_pyNext_list_item st p.isList (x:=u) (by simpa using hu) λh' st' sb=>?_;let I1:Inv X ae O H { s with heap:=h' } :=I.turned (t':=s.toks) (λb o hb e=>(sb.2 b hb).trans e) f0 f1 f3 f4 f5;obtain⟨o,e,c,d⟩:=id st';exact{u,rfl,FM (s:={ s with heap:=h' }) e c d #[0] {x,H,I1,ru,{rfl,λys hy=>by rw[I.list_inj hy hq];exact hx},st',λb hb=>(hf b hb).1}}
 done:=by
  intro X hP hw hK hc i ae s O H E I hf st hg;subst hP hw hK;obtain⟨xs,hq,hx⟩:=hg;obtain⟨its,rv,p,hz⟩:=I.list hq;obtain⟨f0,f1,f2,f3,f4,f5⟩:=hf it #[14];let hl:=rv.length;exact wpAny_pyNext_list_end (I.ok.hd hc) st p.isList (by simp;∎) λh' eb=>{rfl,I.turned (t':=s.toks) (λb o hb e=>eb b o hb e) f0 f1 f3 f4 f5}
 self:=λ_ _ _ _ _ st h=>wpAny_pyIter_listiter st h
theorem LY{P:Program}{w:World}{K:tP}{tg:Expr}(a it:Addr):Turn P w K tg (Itt K a) [it] it (λi h=>h.IsTupleIter it a i) where
 mem:=by simp
 obj:=λi h st b hb=>by
  let e:b=it:=by simpa using hb
  subst e;obtain⟨o,e,c,d⟩:=st;exact{o,e,λv z=>by rw[d]at z;cases z}
 keep:=λi h h' st k=>st.at λo e=>k it #[14] o e
 item:=by
  intro X hP hw hK hc i ae s O H E I hf st hg;subst hP hw hK;obtain⟨xs,x,hq,hx⟩:=hg;obtain⟨its,rv,p,hz⟩:=I.tuple hq;obtain⟨u,hu,ru⟩:=rv.get hx;obtain⟨f0,f1,f2,f3,f4,f5⟩:=hf it #[14];refine wpAny_pyNext_tuple_item st (show s.heap.IsTuple a its.toArray from p) (x:=u) (by simpa using hu) λh' st' sb=>?_;let I1:Inv X ae O H { s with heap:=h' } :=I.turned (t':=s.toks) (λb o hb e=>(sb.2 b hb).trans e) f0 f1 f3 f4 f5;obtain⟨o,e,c,d⟩:=id st';exact{u,rfl,FM (s:={ s with heap:=h' }) e c d #[0] {x,H,I1,ru,{rfl,λys hy=>by rw[I.tuple_inj hy hq];exact hx},st',λb hb=>(hf b hb).1}}
 done:=by
  intro X hP hw hK hc i ae s O H E I hf st hg;subst hP hw hK;obtain⟨xs,hq,hx⟩:=hg;obtain⟨its,rv,p,hz⟩:=I.tuple hq;obtain⟨f0,f1,f2,f3,f4,f5⟩:=hf it #[14];let hl:=rv.length;exact wpAny_pyNext_tuple_end (I.ok.hd hc) st (show s.heap.IsTuple a its.toArray from p) (by simp;∎) λh' eb=>{rfl,I.turned (t':=s.toks) (λb o hb e=>eb b o hb e) f0 f1 f3 f4 f5}
 self:=λ_ _ _ _ _ st h=>wpAny_pyIter_tupleiter st h
theorem LZ{P:Program}{w:World}{K:tP}{tg:Expr}(it:Addr)(lo:Int)(n:Nat):Turn P w K tg (Itr lo n) [it] it (λi h=>IsRangeIter h it (lo+(i:Nat)*1) ((n:Int)-(i:Nat)) 1) where
 mem:=by simp
 obj:=λi h st b hb=>by
  let e:b=it:=by simpa using hb
  subst e;exact⟨_,st,λv z=>by
   let z':Data.fields _=Data.cell v:=z;cases z'⟩
 keep:=λi h h' st k=>k it #[14] _ st
 item:=by
  intro X hP hw hK hc i ae s O H E I hf st hg;subst hP hw hK;obtain⟨f0,f1,f2,f3,f4,f5⟩:=hf it #[14];let W:=Walks.range (prog:=X.prog) (w:=X.w) (I.ok.hd hc) it lo 1 n;refine W.item i s _ _ hg st λv h' tk hv st' kk=>?_;obtain⟨t,rfl⟩:=hv;let I1:Inv X ae O H { s with heap:=h',toks:=tk } :=I.turned (λb o hb e=>kk b o (by simpa using hb) e) f0 f1 f3 f4 f5;refine{_,rfl,FM (s:={ s with heap:=h',toks:=tk }) (n:="range_iterator") st' rfl rfl #[0] {.int (lo+i),H,I1,{t, ?_},{rfl,(rfl)},st',λb hb=>(hf b hb).1}};rw[Int.mul_one]
 done:=by
  intro X hP hw hK hc i ae s O H E I hf st hg;subst hP hw hK;obtain⟨f0,f1,f2,f3,f4,f5⟩:=hf it #[14];exact wpAny_pyNext_range_end (I.ok.hd hc) st (by let:n<=i:=hg;∎) λh' eb=>{rfl,I.turned (t':=s.toks) (λb o hb e=>eb b o hb e) f0 f1 f3 f4 f5}
 self:=λ_ _ _ _ _ st h=>wpAny_pyIter_rangeiter st h
section
variable{X:Cx}{tg:Expr}
def iList(K:tP)(tl:TE):TI:=fun O H R=>tl O H λx H1=>∃a,x=.ref a/\(∃xs,SqL K H1 a xs)/\R (Itl K a) H1
def iTup(K:tP)(tl:TE):TI:=fun O H R=>tl O H λx H1=>∃a,x=.ref a/\(∃xs,SqT K H1 a xs)/\R (Itt K a) H1
theorem yF(hl:PE X l tl):PI X tg l (iList X.K tl):=by
 intro ae s O H R I h;refine thn (hl ae s O H _ I h) λv s1 ⟨x,H1,I1,r1,q1⟩=>?_;obtain⟨a,e,⟨xs,hq⟩,q⟩:=q1;subst e;cases r1;obtain⟨its,rv,p,hz⟩:=I1.list hq;refine wpAny_pyIter_list p.isList ?_;refine{s1.heap.objs.size,[s1.heap.objs.size],_,_,H1,rfl,I1.kept (t':=s1.toks) λb o e=>gC _ e,SO a _,{_,gU _ rfl,rfl,rfl},λb hb=>?_,q};let e:b=s1.heap.objs.size:=by simpa using hb
 subst e;exact I1.fpOk uP (I1.hok.fresh uP)
theorem wM(hl:PE X l tl):PI X tg l (iTup X.K tl):=by
 intro ae s O H R I h;refine thn (hl ae s O H _ I h) λv s1 ⟨x,H1,I1,r1,q1⟩=>?_;obtain⟨a,e,⟨xs,hq⟩,q⟩:=q1;subst e;cases r1;obtain⟨its,rv,p,hz⟩:=I1.tuple hq;refine wpAny_pyIter_tuple (show s1.heap.IsTuple a its.toArray from p) ?_;refine{s1.heap.objs.size,[s1.heap.objs.size],_,_,H1,rfl,I1.kept (t':=s1.toks) λb o e=>gC _ e,LY a _,{_,gU _ rfl,rfl,rfl},λb hb=>?_,q};let e:b=s1.heap.objs.size:=by simpa using hb
 subst e;exact I1.fpOk uP (I1.hok.fresh uP)
theorem WL{s:Shared}{R:It->Hp->Prop}{E:Value->Shared->Prop}{lo hi:Int}{tk:Nat}(I:Inv X ae O H s)(h1: -(2^62)<=lo)(h2:lo<2^62)(h3: -(2^62)<=hi)(h4:hi<2^62)
  (q:R (Itr lo (hi-lo).toNat) H):wpAny #[1] X.A (pyIter (.ref s.heap.objs.size)) (PIE X ae O tg R) E { s with heap:=s.heap.push { cls:=.type "range",data:=.fields #[.int lo t,.int hi u,.int 1 v] },toks:=tk } :=by
 refine wpAny_pyIter_range (IsRange.new ..) (small_one h1 h2 h3 h4) ?_;let I1:Inv X ae O H { s with heap:=s.heap.push { cls:=.type "range",data:=.fields #[.int lo t,.int hi u,.int 1 v] },toks:=tk } :=I.kept λb o e=>gC _ e;refine⟨#[49].objs.size,[#[49].objs.size],_,_,H,rfl,
  I1.kept (t':=tk) λb o e=>gC _ e,LZ _ lo (hi-lo).toNat, ?_,λb hb=>?_,q⟩
 .have e1:lo+((0:Nat):Int)*1=lo:=by simp
  let e2:(((hi-lo).toNat:Nat):Int)-((0:Nat):Int)=Builtin.Range.rangeSize lo hi 1:=by rw[rangeSize_one];split<;>∎
  show IsRangeIter _ _ (lo+((0:Nat):Int)*1) ((((hi-lo).toNat:Nat):Int)-((0:Nat):Int)) 1;rw[e1,e2];exact gU _ rfl
 .have e:b=#[49].objs.size:=by simpa using hb
  subst e;exact I1.fpOk uP (I1.hok.fresh uP)
def iRng1(ta:TA):TI:=fun O H R=>ta O H λvs H1=>∃j:Int,vs=[.int j]/\-(2^62)<=j/\j<2^62/\R (Itr 0 j.toNat) H1
theorem xF(hg:Gl X "range")(hm:X.mg "range" = none)(ha:PA X [a] ta)(hs:starEach [a] X.env=[(false,eval a X.env)]:=by rfl):PI X tg (.Call (.Name "range" p) [a] [] pos) (iRng1 ta):=by
 intro ae s O H R I h;refine Call_ (yH I hg hm boot_range (PyProof.Rows.callWith_type1 #[39] hs rfl));obtain⟨j,e,q1,q2,q⟩:=q1;subst e;cases r1 with
 | cons r rr=>
  cases rr;obtain⟨t,rfl⟩:=r;exact call_range_1 (WL I1 ∎ ∎ q1 q2 (by simpa using q))
def tFor(wi:TI)(g:TG)(tb:TS):TS:=λD O H=>wi O H λJ H1=>∃W:Nat->Nat->St->Hp->Prop,(∃m,W 0 m O H1)/\∀i m O H,W i m O H->
 (J.stop i H/\D.nx O H)∨(J.go i H/\∃N:St->Hp->Prop,(∀O' H',N O' H'->∃m',m'<m/\W (i+1) m' O' H')/\∀x H',J.yld i H x H'->g x O H' fun O2 H2=>tb { D with nx:=N,ct:=N,bk:=D.nx } O2 H2)
def HR(fp:List Addr)(h:Heap):List #[13]:=fp.filterMap λb=>(h.get? b).map λo=>(b,o)
theorem yY{h:Heap}(hb:b∈fp)(e:h.get? b=some o):(b,o)∈HR fp h:=List.mem_filterMap.mpr {b,hb,by rw[e];rfl}
theorem TX{h:Heap}{p:Addr×Obj}(hp:p∈HR fp h):p.1∈fp/\h.get? p.1=some p.2:=by
 obtain⟨b,hb,e⟩:=List.mem_filterMap.mp hp;cases q:h.get? b with
 | none=>rw[q]at e;cases e
 | some o=>
  rw[q]at e;let e':(b,o)=p:=Option.some.inj e;subst e';exact{hb,(q)}
theorem Inv.pinned{s:Shared}(I:Inv X ae O H s)(hf:∀b∈fp,FpOk X ae H b)(ho:∀b∈fp,∃o,s.heap.get? b=some o/\∀v,o.data≠.cell v):Inv X (ae++HR fp s.heap) O H s:=
 I.pins_of λp hp=>(mV.mp hp).elim (λz=>I.pin p (gH _ z)) λz=>by
  obtain⟨hb,e⟩:=TX z;obtain⟨f0,f1,f2,_⟩:=hf p.1 hb;obtain⟨o,e',d⟩:=ho p.1 hb;rw[e]at e';cases e';exact{e,f0,f1,f2,(d)}
theorem Inv.unpinned(I:Inv X (ae++pl) O H s):Inv X ae O H s:=I.pins_of λp hp=>I.pin p (gH _ (List.mem_append_left _ hp))
theorem qC(hp:PassesOwn #[1] X.A X.env X.xe)(hc:X.calm=true)(hi:PI X tg iter wi)(hg:PG X tg g)(hb:PSs X body tb)
  (hs:∀x,foldedSetIterable iter X.env x=pure x:=by intro _;rfl):PS X (.For tg iter body [] pos) (tFor wi g tb):=by
 intro ae s O H D I h;refine wpAny_For (thn (hi ae s O H _ I h) λv s1 h1=>thn h1 λitv s2 h2=>?_) hs;obtain⟨it,fp,tn,J,H2,e,I2,T,st2,f2,W,⟨m0,w0⟩,turn⟩:=h2;subst e;let stat:∀{H':Hp},(∀b∈fp,H' b=none)->∀b∈fp,FpOk X ae H' b:=λhn b hb=>{hn b hb,(f2 b hb).2};refine codeAny_forLoop_any (λn s'=>∃i O' H',Inv X ae O' H' s'/\tn i s'.heap/\(∀b∈fp,H' b=none)/\W i n O' H') ?_ m0 {0,O,H2,I2,st2,λb hb=>(f2 b hb).1,w0};rintro n s3 ⟨i,O3,H3,I3,st3,fr3,w3⟩;rcases turn i n O3 H3 w3 with⟨stop,qn⟩ | ⟨go,N,hN,step⟩
 .refine wpAny_passesOwn hp (thn (T.done X rfl rfl rfl hc i ae s3 O3 H3 X.xe I3 (stat fr3) st3 stop) λr s4 ⟨hr,I4⟩=>?_);subst hr;exact wpAny_execs_nil {O3,H3,I4,(qn)}
 .refine wpAny_passesOwn hp (thn (T.item X rfl rfl rfl hc i ae s3 O3 H3 X.xe I3 (stat fr3) st3 go) λr s4 ⟨u,hr,h4⟩=>?_);subst hr;refine wpAny_passesOwn hp (thn h4 λ_ s5 ⟨x,H5,I5,r5,y5,st5,fr5⟩=>?_);let I5':=I5.pinned (stat fr5) (T.obj _ _ st5);refine wpAny_passesOwn hp (thn (hg _ s5 O3 H5 x u _ I5' r5 (step x H5 y5)) λ_ s6 ⟨O6,H6,I6,q6⟩=>?_);refine wpAny_passesOwn hp (thn (hb _ s6 O6 H6 _ I6 q6) λf s7 q7=>?_);let again:∀{O7:St} {H7:Hp},Inv X (ae++HR fp s5.heap) O7 H7 s7->N O7 H7->∃m,m<n/\∃i O' H',Inv X ae O' H' s7/\tn i s7.heap/\(∀b∈fp,H' b=none)/\W i m O' H':=fun {O7 H7} I7 n7=>by
   obtain⟨m',hm,w7⟩:=hN O7 H7 n7;refine{m',hm,i+1,O7,H7,I7.unpinned,T.keep _ _ _ st5 λb hb o e=>(I7.pin (b,o) (gH _ (gH _ (yY hb e)))).1,λb hb=>?_,w7};obtain⟨o,e,d⟩:=T.obj _ _ st5 b hb;exact(I7.pin (b,o) (gH _ (gH _ (yY hb e)))).2.1
  cases f with
  | next=>obtain⟨O7,H7,I7,n7⟩:=q7;exact again I7 n7
  | cont=>obtain⟨O7,H7,I7,n7⟩:=q7;exact again I7 n7
  | brk=>obtain⟨O7,H7,I7,q7⟩:=q7;exact{O7,H7,I7.unpinned,(q7)}
  | ret v=>obtain⟨x7,O7,H7,I7,r7,q7⟩:=q7;exact{x7,O7,H7,I7.unpinned,r7,(q7)}
end
theorem LC{K:tP}{a:Addr}{xs:List V}{g:TG}{tb:TS}{D:Ends}{O:St}{H:Hp}(Pv:Nat->St->Hp->Prop)(h0:Pv 0 O H)(hl:∀i O H,i<=xs.length->Pv i O H->SqL K H a xs)
  (hs:∀i x O H,xs[i]? = some x->Pv i O H->g x O H fun O2 H2=>tb { D with nx:=Pv (i+1),ct:=Pv (i+1),bk:=D.nx } O2 H2) (hd:∀O H,Pv xs.length O H->D.nx O H) :
  ∃W:Nat->Nat->St->Hp->Prop,(∃m,W 0 m O H)/\∀i m O H,W i m O H->
   ((Itl K a).stop i H/\D.nx O H)∨((Itl K a).go i H/\∃N:St->Hp->Prop,(∀O' H',N O' H'->∃m',m'<m/\W (i+1) m' O' H')/\∀x H',(Itl K a).yld i H x H'->g x O H' fun O2 H2=>tb { D with nx:=N,ct:=N,bk:=D.nx } O2 H2):=by
 refine{λi m O H=>m=xs.length-i/\i<=xs.length/\Pv i O H,{xs.length,by simp,tF _,h0}, ?_};rintro i m O H ⟨rfl,hi,p⟩;let q:=hl i O H hi p;by_cases hlt:i<xs.length
 .refine .inr {{xs,xs[i],q,by simp [hlt]},Pv (i+1),fun O' H' p'=>{xs.length-(i+1),∎,rfl,hlt,p'},λx H' y=>?_};obtain⟨e,y⟩:=y;subst e;exact hs i x O _ (y xs q) p
 .have e:i=xs.length:=∎
  subst e;exact .inl {{xs,q,tE _},hd O H p}
theorem uM{K:tP}{a:Addr}{xs:List V}{g:TG}{tb:TS}{D:Ends}{O:St}{H:Hp}(Pv:Nat->St->Hp->Prop)(h0:Pv 0 O H)(hl:∀i O H,i<=xs.length->Pv i O H->SqT K H a xs)
  (hs:∀i x O H,xs[i]? = some x->Pv i O H->g x O H fun O2 H2=>tb { D with nx:=Pv (i+1),ct:=Pv (i+1),bk:=D.nx } O2 H2) (hd:∀O H,Pv xs.length O H->D.nx O H) :
  ∃W:Nat->Nat->St->Hp->Prop,(∃m,W 0 m O H)/\∀i m O H,W i m O H->
   ((Itt K a).stop i H/\D.nx O H)∨((Itt K a).go i H/\∃N:St->Hp->Prop,(∀O' H',N O' H'->∃m',m'<m/\W (i+1) m' O' H')/\∀x H',(Itt K a).yld i H x H'->g x O H' fun O2 H2=>tb { D with nx:=N,ct:=N,bk:=D.nx } O2 H2):=by
 refine{λi m O H=>m=xs.length-i/\i<=xs.length/\Pv i O H,{xs.length,by simp,tF _,h0}, ?_};rintro i m O H ⟨rfl,hi,p⟩;let q:=hl i O H hi p;by_cases hlt:i<xs.length
 .refine .inr {{xs,xs[i],q,by simp [hlt]},Pv (i+1),fun O' H' p'=>{xs.length-(i+1),∎,rfl,hlt,p'},λx H' y=>?_};obtain⟨e,y⟩:=y;subst e;exact hs i x O _ (y xs q) p
 .have e:i=xs.length:=∎
  subst e;exact .inl {{xs,q,tE _},hd O H p}
theorem xQ{lo:Int}{n:Nat}{g:TG}{tb:TS}{D:Ends}{O:St}{H:Hp}(Pv:Nat->St->Hp->Prop)(h0:Pv 0 O H)
  (hs:∀i O H,i<n->Pv i O H->g (.int (lo+i)) O H fun O2 H2=>tb { D with nx:=Pv (i+1),ct:=Pv (i+1),bk:=D.nx } O2 H2) (hd:∀O H,Pv n O H->D.nx O H) :
  ∃W:Nat->Nat->St->Hp->Prop,(∃m,W 0 m O H)/\∀i m O H,W i m O H->
   ((Itr lo n).stop i H/\D.nx O H)∨((Itr lo n).go i H/\∃N:St->Hp->Prop,(∀O' H',N O' H'->∃m',m'<m/\W (i+1) m' O' H')/\∀x H',(Itr lo n).yld i H x H'->g x O H' fun O2 H2=>tb { D with nx:=N,ct:=N,bk:=D.nx } O2 H2):=by
 refine{λi m O H=>m=n-i/\i<=n/\Pv i O H,{n,by simp,tF _,h0}, ?_};rintro i m O H ⟨rfl,hi,p⟩;by_cases hlt:i<n
 .refine .inr {hlt,Pv (i+1),fun O' H' p'=>{n-(i+1),∎,rfl,hlt,p'},λx H' y=>?_};obtain⟨e,y⟩:=y;subst e y;exact hs i O _ hlt p
 .have e:i=n:=∎
  subst e;exact .inl {tE _,hd O H p}
theorem IQ{D:Ends}(Pv:St->Hp->Prop)(L:St->Hp->Nat)(h0:Pv O H)
  (hs:∀O H,Pv O H->c O H λb H1=>if b=true then tb { D with nx:=fun O' H'=>Pv O' H'/\L O' H'<L O H,ct:=fun O' H'=>Pv O' H'/\L O' H'<L O H,bk:=D.nx } O H1 else D.nx O H1)
  (mono:∀O H Q Q',(∀b H1,Q b H1->Q' b H1)->c O H Q->c O H Q'):MD c tb D O H:=by
 refine{λm O H=>m=L O H/\Pv O H,{_,rfl,h0}, ?_};rintro m O H ⟨rfl,p⟩;refine mono O H _ _ (λb H1 q=>?_) (hs O H p);cases b with
 | true=>exact{_,fun O' H' ⟨p',l⟩=>{_,l,rfl,p'},q}
 | false=>exact q
abbrev R2:=V->V->Hp->VK->Prop
def OpR(X:Cx)(f:Value->Value->Sem Value)(r:R2):Prop:=
 ∀(ae:List #[13]) (s:Shared) (O:St) (H:Hp) (x y:V) (v u:Value) (Q:VK),Inv X ae O H s->RelV x v->RelV y u->r x y H Q->
  wpAny #[1] X.A (f v u) #[60] X.xe s
def UnR(X:Cx)(f:Value->Sem Value)(r:V->Hp->VK->Prop):Prop:=
 ∀(ae:List #[13]) (s:Shared) (O:St) (H:Hp) (x:V) (v:Value) (Q:VK),Inv X ae O H s->RelV x v->r x H Q->
  wpAny #[1] X.A (f v) #[60] X.xe s
def CallR(X:Cx)(f:Value)(r:List V->Hp->VK->Prop):Prop:=
 ∀(ae:List #[13]) (s:Shared) (O:St) (H:Hp) (xs:List V) (us:List Value) (Q:VK),Inv X ae O H s->Vals xs us->r xs H Q->
  wpAny #[1] X.A (call f us) #[60] X.xe s
def tOp(r:R2)(ta tb:TE):TE:=fun O H Q=>ta O H λx H1=>tb O H1 λy H2=>r x y H2 Q
def tUn(r:V->Hp->VK->Prop)(ta:TE):TE:=fun O H Q=>ta O H λx H1=>r x H1 Q
def rI(C:Int->Int->Prop)(g:Int->Int->V):R2:=λx y H Q=>∃i j,x=.int i/\y=.int j/\C i j/\Q (g i j) H
def rI0(g:Int->Int->V):R2:=λx y H Q=>∃i j,x=.int i/\y=.int j/\Q (g i j) H
def rU(g:Int->V):V->Hp->VK->Prop:=λx H Q=>∃i,x=.int i/\Q (g i) H
section
variable{X:Cx}{a b c:Expr}{ta tb tc:TE}{pos:Pos}
theorem binT(ha:PE X a ta)(hb:PE X b tb){R:V->V->Hp->Prop}(I:Inv X ae O H s)
  (h:ta O H λx H1=>tb O H1 λy H2=>R x y H2) {Q:Value->Shared->Prop} {f:Value->Value->Sem Value}
  (hf:∀v u s2 x y H2,Inv X ae O H2 s2->RelV x v->RelV y u->R x y H2->wpAny #[1] X.A (f v u) Q X.xe s2) :
  wpAny #[1] X.A (eval a X.env) (λv s₁=>wpAny #[1] X.A (eval b X.env) (λu s₂=>wpAny #[1] X.A (f v u) Q X.xe s₂) X.xe s₁) X.xe s:=by
 refine thn #[58] λv s1 ⟨x,H1,I1,r1,q1⟩=>?_;refine thn (hb ae s1 O H1 _ I1 q1) λu s2 ⟨y,H2,I2,r2,q2⟩=>?_;exact hf v u s2 x y H2 I2 r1 r2 q2
theorem jJ(ho:OpR X (binaryOp op) r)(ha:PE X a ta)(hb:PE X b tb):PE X (.BinOp a op b pos) (tOp r ta tb):=by
 intro ae s O H Q I h;exact wpAny_BinOp (binT ha hb I h λv u s2 x y H2 I2 rx ry q=>ho ae s2 O H2 x y v u Q I2 rx ry q)
theorem PN{r:V->Hp->VK->Prop}(ho:UnR X (unaryOp op) r)(ha:PE X a ta):PE X (.UnaryOp op a pos) (tUn r ta):=by
 intro ae s O H Q I h;exact UnaryOp_ (thn #[58] λv s1 ⟨x,H1,I1,r1,q1⟩=>ho ae s1 O H1 x v Q I1 r1 q1)
theorem opI{f:Value->Value->Sem Value}{C:Int->Int->Prop}{g:Int->Int->Int}
  (rule:∀(i j:Int) (t u:Tok) (s:Shared) (Q:Value->Shared->Prop) (E:Value->Shared->Prop),C i j->Q (.int (g i j) s.toks) { s with toks:=s.toks+1 }->wpAny #[1] X.A (f (.int i t) (.int j u)) Q E s) :
  OpR X f (rI C λi j=>.int (g i j)):=by
 intro ae s O H x y v u Q I rx ry h;obtain⟨i,j,rfl,rfl,hc,q⟩:=h;obtain⟨t,rfl⟩:=rx;obtain⟨t',rfl⟩:=ry;exact rule i j t t' s _ _ hc {.int (g i j),H,I.tok _,{_,rfl},q}
theorem opI0{f:Value->Value->Sem Value}{g:Int->Int->Int}
  (rule:∀(i j:Int) (t u:Tok) (s:Shared) (Q:Value->Shared->Prop) (E:Value->Shared->Prop),Q (.int (g i j) s.toks) { s with toks:=s.toks+1 }->wpAny #[1] X.A (f (.int i t) (.int j u)) Q E s) :
  OpR X f (rI0 λi j=>.int (g i j)):=by
 intro ae s O H x y v u Q I rx ry h;obtain⟨i,j,rfl,rfl,q⟩:=h;obtain⟨t,rfl⟩:=rx;obtain⟨t',rfl⟩:=ry;exact rule i j t t' s _ _ {.int (g i j),H,I.tok _,{_,rfl},q}
theorem opB0{f:Value->Value->Sem Value}{g:Int->Int->Bool}
  (rule:∀(i j:Int) (t u:Tok) (s:Shared) (Q:Value->Shared->Prop) (E:Value->Shared->Prop),Q (.bool (g i j)) s->wpAny #[1] X.A (f (.int i t) (.int j u)) Q E s) :
  OpR X f (rI0 λi j=>.bl (g i j)):=by
 intro ae s O H x y v u Q I rx ry h;obtain⟨i,j,rfl,rfl,q⟩:=h;obtain⟨t,rfl⟩:=rx;obtain⟨t',rfl⟩:=ry;exact rule i j t t' s _ _ {.bl (g i j),H,I,rfl,q}
def CDiv(i j:Int):Prop:=0<j/\j<1073741824
def CPow(i j:Int):Prop:=0<=j/\j<=1000000/\i.natAbs<2^64
def CMul(i j:Int):Prop:=(-(2^64)<i/\i<2^64)∨(-(2^64)<j/\j<2^64)
theorem CMul.ok{i j:Int}(h:CMul i j):IntMulOk i j:=by
 rcases h with⟨h1,h2⟩ | ⟨h1,h2⟩
 .exact .of_left (intBits_le_64 h1 h2)
 .exact .of_right (intBits_le_64 h1 h2)
theorem qA:OpR X (binaryOp .Add) (rI0 λi j=>.int (i+j)):=opI0 λ_ _ _ _ _ _ _ q=>add_int q
theorem AT:OpR X (binaryOp .Sub) (rI0 λi j=>.int (i-j)):=opI0 λ_ _ _ _ _ _ _ q=>sub_int q
theorem wO:OpR X (binaryOp .Mult) #[22]:=opI λ_ _ _ _ _ _ _ hc q=>mul_int q hc.ok
theorem op_fdiv:OpR X (binaryOp .FloorDiv) (rI CDiv λi j=>.int (i/j)):=opI λi j _ _ _ _ _ hc q=>by
 let h1:(0:Int)<j:=hc.1;let h2:j<1073741824:=hc.2;exact floordiv_int ∎ (by rw[Int.fdiv_eq_ediv_of_nonneg i ∎];exact q) (.inl (PyProof.noPylong_small ∎))
theorem vT:OpR X (binaryOp .Mod) #[8]:=opI λi j _ _ _ _ _ hc q=>by
 let h1:(0:Int)<j:=hc;exact mod_int' ∎ (by rw[Int.fmod_eq_emod_of_nonneg i ∎];exact q)
theorem HW:OpR X (binaryOp .Pow) (rI CPow λi j=>.int (i^j.toNat)):=opI λ_ _ _ _ _ _ _ hc q=>pow_int_small hc.1 hc.2.1 hc.2.2 q
theorem unI{f:Value->Sem Value}{g:Int->Int}
  (rule:∀(i:Int) (t:Tok) (s:Shared) (Q:Value->Shared->Prop) (E:Value->Shared->Prop),Q (.int (g i) s.toks) { s with toks:=s.toks+1 }->wpAny #[1] X.A (f (.int i t)) Q E s) :
  UnR X f (rU λi=>.int (g i)):=by
 intro ae s O H x v Q I rx h;obtain⟨i,rfl,q⟩:=h;obtain⟨t,rfl⟩:=rx;exact rule i t s _ _ {.int (g i),H,I.tok _,{_,rfl},q}
theorem GE:UnR X (unaryOp .USub) (rU λi=>.int (-i)):=unI λ_ _ _ _ _ q=>neg_int q
end
def scal:V->V->Bool
 | .non,.non=>true | .non,.int _=>true | .int _,.non=>true | .non,.bl _=>true | .bl _,.non=>true | .non,.str _=>true | .str _,.non=>true
 | .int _,.int _=>true | .bl _,.bl _=>true | .str _,.str _=>true | .byt _,.byt _=>true
 | .int _,.str _=>true | .str _,.int _=>true | .bl _,.str _=>true | .str _,.bl _=>true
 | _,_=>false
def rEq:R2:=λx y H Q=>scal x y=true/\Q (.bl (decide (x=y))) H
def rNe:R2:=λx y H Q=>scal x y=true/\Q (.bl (!decide (x=y))) H
theorem SC{i j:Int} :decide (V.int i=V.int j)=(i==j):=by
 rw[Bool.eq_iff_iff];simp
theorem ZZ :decide (V.bl i=V.bl j)=(i==j):=by
 rw[Bool.eq_iff_iff];simp
theorem SB :decide (V.str i=V.str j)=(i==j):=by
 rw[Bool.eq_iff_iff];simp
theorem SD{i j:Array UInt8} :decide (V.byt i=V.byt j)=(i.toList==j.toList):=by
 rw[Bool.eq_iff_iff];cases i;cases j;simp
section
variable{X:Cx}{a b c:Expr}{ta tb tc:TE}{pos:Pos}
theorem kQ(I:Inv X ae O H s)(q:Q (.bl k) H)(e:k=k'):EP X ae O Q (.bool k') s:=by
 subst e;exact{.bl k,H,I,rfl,q}
theorem BC:OpR X (compareOp .Eq) rEq:=by
 intro ae s O H x y v u Q I rx ry h;obtain⟨hs,q⟩:=h;cases x with
 | non=>
  cases rx;cases y with
  | non=>cases ry;exact PySem.EqNone.eq_none_none (kQ I q #[14])
  | bl j=>cases ry;exact PySem.EqNone.eq_none_bool (kQ I q #[14])
  | int j=>obtain⟨t',rfl⟩:=ry;exact PySem.EqNone.eq_none_int (kQ I q #[14])
  | str j=>obtain⟨t',rfl⟩:=ry;exact PySem.EqNone.eq_none_str (kQ I q #[14])
  | _=>exact absurd #[23] gY
 | bl i=>
  cases rx;cases y with
  | non=>cases ry;exact PySem.EqNone.eq_bool_none (kQ I q #[14])
  | bl j=>cases ry;exact eq_bool (kQ I q ZZ)
  | str j=>obtain⟨t',rfl⟩:=ry;exact PySem.EqMixed.eq_bool_str (kQ I q #[14])
  | _=>exact absurd #[23] gY
 | int i=>
  obtain⟨t,rfl⟩:=rx;cases y with
  | non=>cases ry;exact PySem.EqNone.eq_int_none (kQ I q #[14])
  | int j=>obtain⟨t',rfl⟩:=ry;exact eq_int (kQ I q SC)
  | str j=>obtain⟨t',rfl⟩:=ry;exact PySem.EqMixed.eq_int_str (kQ I q #[14])
  | _=>exact absurd #[23] gY
 | str i=>
  obtain⟨t,rfl⟩:=rx;cases y with
  | non=>cases ry;exact PySem.EqNone.eq_str_none (kQ I q #[14])
  | bl j=>cases ry;exact PySem.EqMixed.eq_str_bool (kQ I q #[14])
  | int j=>obtain⟨t',rfl⟩:=ry;exact PySem.EqMixed.eq_str_int (kQ I q #[14])
  | str j=>obtain⟨t',rfl⟩:=ry;exact eq_str (kQ I q SB)
  | _=>exact absurd #[23] gY
 | byt i=>
  obtain⟨t,rfl⟩:=rx;cases y with
  | byt j=>obtain⟨t',rfl⟩:=ry;exact PySem.W.eq_bytes (kQ I q SD)
  | _=>exact absurd #[23] gY
 | _=>cases y<;>exact absurd #[23] gY
theorem XH:OpR X (compareOp .NotEq) rNe:=by
 intro ae s O H x y v u Q I rx ry h;obtain⟨hs,q⟩:=h;cases x with
 | non=>
  cases rx;cases y with
  | non=>cases ry;exact PySem.EqNone.ne_none_none (kQ I q #[14])
  | bl j=>cases ry;exact PySem.EqNone.ne_none_bool (kQ I q #[14])
  | int j=>obtain⟨t',rfl⟩:=ry;exact PySem.EqNone.ne_none_int (kQ I q #[14])
  | str j=>obtain⟨t',rfl⟩:=ry;exact PySem.EqNone.ne_none_str (kQ I q #[14])
  | _=>exact absurd #[23] gY
 | bl i=>
  cases rx;cases y with
  | non=>cases ry;exact PySem.EqNone.ne_bool_none (kQ I q #[14])
  | bl j=>cases ry;exact ne_bool (kQ I q (congrArg not ZZ))
  | str j=>obtain⟨t',rfl⟩:=ry;exact PySem.EqMixed.ne_bool_str (kQ I q #[14])
  | _=>exact absurd #[23] gY
 | int i=>
  obtain⟨t,rfl⟩:=rx;cases y with
  | non=>cases ry;exact PySem.EqNone.ne_int_none (kQ I q #[14])
  | int j=>obtain⟨t',rfl⟩:=ry;exact ne_int (kQ I q (congrArg not SC))
  | str j=>obtain⟨t',rfl⟩:=ry;exact PySem.EqMixed.ne_int_str (kQ I q #[14])
  | _=>exact absurd #[23] gY
 | str i=>
  obtain⟨t,rfl⟩:=rx;cases y with
  | non=>cases ry;exact PySem.EqNone.ne_str_none (kQ I q #[14])
  | bl j=>cases ry;exact PySem.EqMixed.ne_str_bool (kQ I q #[14])
  | int j=>obtain⟨t',rfl⟩:=ry;exact PySem.EqMixed.ne_str_int (kQ I q #[14])
  | str j=>obtain⟨t',rfl⟩:=ry;exact ne_str (kQ I q (congrArg not SB))
  | _=>exact absurd #[23] gY
 | byt i=>
  obtain⟨t,rfl⟩:=rx;cases y with
  | byt j=>obtain⟨t',rfl⟩:=ry;exact PySem.W.ne_bytes (kQ I q (congrArg not SD))
  | _=>exact absurd #[23] gY
 | _=>cases y<;>exact absurd #[23] gY
theorem JW:OpR X (compareOp .Lt) (rI0 λi j=>.bl (decide (i<j))):=opB0 λ_ _ _ _ _ _ _ q=>lt_int q
theorem wJ:OpR X (compareOp .Gt) (rI0 λi j=>.bl (decide (j<i))):=opB0 λ_ _ _ _ _ _ _ q=>gt_int q
theorem op_ge:OpR X (compareOp .GtE) (rI0 λi j=>.bl (decide (j<=i))):=opB0 λ_ _ _ _ _ _ _ q=>ge_int q
theorem kM(b:Expr)(h:op≠.In:=by decide)(h2:op≠.NotIn:=by decide):behindInMarks op b=false:=by
 let e1:(op==CmpOp.In)=false:=by cases op<;>first | rfl | exact absurd rfl h
 let e2:(op==CmpOp.NotIn)=false:=by cases op<;>first | rfl | exact absurd rfl h2
 cases b<;>simp [behindInMarks,e1,e2]
theorem PU(ho:OpR X (compareOp op) r)(ha:PE X a ta)(hb:PE X b tb)(hm:behindInMarks op b=false):PE X (.Compare a [op] [b] pos) (tOp r ta tb):=by
 intro ae s O H Q I h;exact wpAny_Compare1 (binT ha hb I h λv u s2 x y H2 I2 rx ry q=>ho ae s2 O H2 x y v u Q I2 rx ry q) hm
def OI(t:TE):TT:=fun O H Q=>t O H λx H'=>∃k,x=.bl k/\Q k H'
theorem jX(ho:OpR X (compareOp op) r)(ha:PE X a ta)(hb:PE X b tb)(hm:behindInMarks op b=false):PT X (.Compare a [op] [b] pos) (OI (tOp r ta tb)):=by
 intro ae s O H Q I h;refine wpAny_isTrue_Compare1 (thn #[58] λv s1 ⟨x,H1,I1,r1,q1⟩=>thn (hb ae s1 O H1 _ I1 q1) λu s2 ⟨y,H2,I2,r2,q2⟩=>
  thn (ho ae s2 O H2 x y v u _ I2 r1 r2 q2) λc s3 ⟨z,H3,I3,r3,k,e,q3⟩=>?_) hm
 subst e;cases r3;exact wpAny_truthy_bool {H3,I3,(q3)}
theorem IB:(sizeLine:Nat)<2^63:=by rw[sizeLine_eq];decide
theorem vV(r:Vals [x] us):∃u,us=[u]/\RelV x u:=by
 cases r with
 | cons r1 r2=>cases r2;exact{_,rfl,r1}
theorem OA(r:Vals [x,y] us):∃u w',us=[u,w']/\RelV x u/\RelV y w':=by
 cases r with
 | cons r1 r2=>
  cases r2 with
  | cons r3 r4=>cases r4;exact{_,_,rfl,r1,r3}
theorem call_abs:CallR X (.builtin "abs") (λxs H Q=>∃i,xs=[.int i]/\Q (.int (if i<0 then -i else i)) H):=by
 intro ae s O H xs us Q I r h;obtain⟨i,rfl,q⟩:=h;obtain⟨u,rfl,t,rfl⟩:=vV r;exact call_abs_int λu tk=>{.int (if i<0 then -i else i),H,I.tok _,{_,rfl},q}
end
structure ObjM(h:Heap)(x dx C:Addr)(mA:Str->Option Value):Prop where
 obj:h.get? x=some (PySem.W.instObj C dx)
 ns:h.Ns1 dx mA
 ne:dx≠x
theorem UB{h:Heap}{mA:Str->Option Value}(n:h.Ns1 dx mA):∃od,h.get? dx=some od/\∀name,PySem.W.lookIn name od=some (mA name):=by
 obtain⟨o,es,ep,ho,hd,hk,_,hm⟩:=n;refine{o,ho,λname=>?_};let e:=hm name;unfold nsFind findBy at e;rw[<-Array.find?_toList]at e;unfold PySem.W.lookIn;rw[hd];dsimp only;split
 .rename_i y q;rw[q]at e;exact congrArg some e
 .rename_i q;rw[q]at e;let a:es.toList.any (·.refKey)=false:=by
   rw[List.any_eq_false];intro y hy;obtain⟨z,t,hkey⟩:=hk y (Array.mem_toList_iff.mp hy);simp [DictEntry.refKey,hkey]
  let a':¬es.toList.any (·.refKey)=true:=by rw[a];exact gY
  rw[tN a'];exact congrArg some e
theorem ObjM.look{mA:Str->Option Value}(I:ObjM h x dx C mA):∃od,PySem.W.InstAt h x (PySem.W.instObj C dx) C (some od)/\∀name,PySem.W.lookIn name od=some (mA name):=
 let ⟨od,ho,hl⟩:=UB I.ns
 {od,{I.obj,rfl,rfl,(ho)},hl}
section
variable{prog:Program}{w:World}{A:Around}{E:Value->Shared->Prop}{s:Shared}{K:tP}{x dx C f:Addr}{mA:Str->Option Value}{name:Str}{v:Value}
end
theorem RelO.some_of(r:RelO (some v) o):∃u,o=some u/\RelV v u:=by
 cases o with
 | none=>exact(show False from r).elim
 | some u=>exact{u,rfl,(r)}
section
variable{P:Program}{w:World}{H H':Hp}{h h':Heap}{a C dx:Addr}{fs fs':List (Str×V)}
theorem ins_get(hok:HOk P w H h)(e:H a=some (.ins C dx fs)):∃mA,ObjM h a dx C mA/\(∀f,RelO (fs.lookup f) (mA f))/\PySem.Within mA (fs.map (·.1))/\fs.length<=1000/\H dx=some (.own a):=by
 obtain⟨d,z,ne,ob,mA,n,r,q⟩:=(show ObjOk P w H h a (.ins C dx fs)from hok a _ e);exact{mA,{ob,n,(ne)},r,q,z,d}
end
structure Cls(K:tP)(C:Addr):Prop where
 pg:PySem.W.plainGet K C Str.empty=true
 hd:PySem.W.hasDictIn K C=true
 po:PySem.W.plainOver K C=true
 sa:PySem.W.findIn K (.ref C) "__setattr__" = some (some (.builtin "object.__setattr__"))
theorem Cls.get{K:tP}{C:Addr}(c:Cls K C)(f:Str):PySem.W.plainGet K C f=true:=c.pg
structure Con(K:tP)(C:Addr)(f:Str)(v:V)(u:Value):Prop where
 at_:PySem.W.findIn K (.ref C) f=some (some u)
 rel:RelV v u
 get:PySem.W.specialIn K u "__get__" = some none
 cp:PySem.W.copiedNames.contains f=false
structure Meth(K:tP)(C:Addr)(m:Str)(f:Addr):Prop where
 at_:PySem.W.findIn K (.ref C) m=some (some (.ref f))
 fn:PySem.W.isFn K (.ref f)=true
 kp:PySem.W.keepIn K (.ref f)=true
section
variable{X:Cx}{ae:List #[13]}{O:St}{H:Hp}{s:Shared}{a C dx:Addr}{fs:List (Str×V)}{f:Str}{v:V}{A:Around}{E:Value->Shared->Prop}
end
section
variable{X:Cx}{o e value:Expr}{f:Str}{pos pos' tpos:Pos}{ta tv:TE}
end
section
variable{X:Cx}{ae:List #[13]}{O:St}{H:Hp}{s:Shared}{A:Around}{E:Value->Shared->Prop}{Q:Value->Shared->Prop}{c:Value}{b:Bool}
inductive TyOf(K:tP)(H:Hp):V->Value->Prop where
 | non:TyOf K H .non (.type "NoneType")
 | bl (x:Bool):TyOf K H (.bl x) (.type "bool")
 | int (i:Int):TyOf K H (.int i) (.type "int")
 | str (x:Str):TyOf K H (.str x) (.type "str")
 | flt (x:UInt64):TyOf K H (.flt x) (.type "float")
 | lst {a:Addr} {xs:List V} (e:H a=some (.lst xs)):TyOf K H (.ref a) (.type "list")
 | frz {a:Addr} {o:Obj} {xs:List V} (e:H a=some (.frz o (.lst xs))):TyOf K H (.ref a) (.type "list")
 | tup {a:Addr} {xs:List V} (e:H a=some (.tup xs)):TyOf K H (.ref a) (.type "tuple")
 | dK {a:Addr} {aj:List (Key×V)} (e:H a=some (.dK aj)):TyOf K H (.ref a) (.type "dict")
 | dT {a:Addr} {aj:List #[57]} (e:H a=some (.dT aj)):TyOf K H (.ref a) (.type "dict")
 | ins {a C dx:Addr} {fs:List (Str×V)} (e:H a=some (.ins C dx fs)) (cl:Cls K C) (ha:PySem.W.findIn K (.ref C) "__class__" = some (some (.builtin "object.__class__")))
   (hn:PySem.W.specialIn K (.builtin "object.__class__") "__get__" = some (some (.builtin "getset_descriptor.__get__"))) (htk:PySem.W.takesIn K (.builtin "object.__class__")=some true)
   (hm:PySem.W.mroIn K C (.type "object")=some true):TyOf K H (.ref a) (.ref C)
theorem UH(I:Inv X ae σ H s)(rx:RelV x u)(ty:TyOf X.K H x t)(e:PySem.W.kitOne X.K t c=some b)(h:∀tk,Q (.bool b) { s with toks:=tk }) :
  wpAny #[1] A (call (.builtin "isinstance") [u,c]) Q E s:=by
 cases ty with
 | non=>cases (show u=Value.none from rx);exact PySem.W.kia_one PySem.W.kitx_none I.kIn True.intro e #[27] h
 | bl y=>cases (show u=Value.bool y from rx);exact PySem.W.kia_one PySem.W.kitx_bool I.kIn True.intro e #[27] h
 | int i=>obtain⟨t,q⟩:=(show ∃t,u=Value.int i t from rx);cases q;exact PySem.W.kia_one PySem.W.kitx_int I.kIn True.intro e #[27] h
 | str y=>obtain⟨t,q⟩:=(show ∃t,u=Value.str y t from rx);cases q;exact PySem.W.kia_one PySem.W.kitx_str I.kIn True.intro e #[27] h
 | flt y=>obtain⟨t,q⟩:=(show ∃t,u=Value.float y t from rx);cases q;exact PySem.W.kia_one PySem.W.kitx_float I.kIn True.intro e #[27] h
 | @lst a xs ea=>
  cases (show u=Value.ref a from rx);obtain⟨_,_,n,_,h1⟩:=(show ObjOk X.prog X.w H s.heap a (.lst xs)from I.hok a _ ea);exact PySem.W.kia_one PySem.W.kitx_list I.kIn {_,h1,rfl} e #[27] h
 | @frz a ob xs ea=>
  cases (show u=Value.ref a from rx);obtain⟨_,_,_,n,_,h1⟩:=(show ObjOk X.prog X.w H s.heap a (.frz ob (.lst xs))from I.hok a _ ea);exact PySem.W.kia_one PySem.W.kitx_list I.kIn {_,h1,rfl} e #[27] h
 | @tup a xs ea=>
  cases (show u=Value.ref a from rx);obtain⟨_,_,_,p⟩:=(show ObjOk X.prog X.w H s.heap a (.tup xs)from I.hok a _ ea);obtain⟨o,h1,h2,_⟩:=p.1;exact PySem.W.kia_one PySem.W.kitx_tuple I.kIn {o,h1,(h2)} e #[27] h
 | @dK a aj ea=>
  cases (show u=Value.ref a from rx);obtain⟨_,_,vs,_,p⟩:=(show ObjOk X.prog X.w H s.heap a (.dK aj)from I.hok a _ ea);obtain⟨o,es,ep,h1,h2,_⟩:=p;exact PySem.W.kia_one PySem.W.kitx_dict I.kIn {o,h1,(h2.1)} e #[27] h
 | @dT a aj ea=>
  cases (show u=Value.ref a from rx);obtain⟨_,_,xs,_,o,es,ep,h1,h2,_⟩:=(show ObjOk X.prog X.w H s.heap a (.dT aj)from I.hok a _ ea);exact PySem.W.kia_one PySem.W.kitx_dict I.kIn {o,h1,(h2.1)} e #[27] h
 | @ins a C dx fs ea cl ha hn htk hm=>
  cases (show u=Value.ref a from rx);obtain⟨mA,O,_⟩:=ins_get I.hok ea;obtain⟨od,J,_⟩:=O.look;exact PySem.W.kia_one (PySem.W.kitx_own (cl.get _) cl.hd ha hn htk hm) I.kIn J e #[27] h
end
structure Room(k:Nat)(A:Around):Prop where
 hd:A.handled=none
 dp:A.depth+3*k+5<recursionLimit
 un:A.units+16*k+200<cLine
theorem Room.mono{j k:Nat}(r:Room k A)(h:j<=k):Room j A:={r.hd,by let:=r.dp;∎,by let:=r.un;∎}
theorem Room.deeper{k:Nat}{A:Around}(r:Room (k+1) A)(env:Env):Room k (A.deeper env):=
 {r.hd,by let:=r.dp;show A.depth+1+3*k+5<_;∎,by let:=r.un;show A.units+3+16*k+200<_;∎}
theorem NE{A:Around} :#[50].depth=A.depth+1:=by
 first | rfl | simp [Around.under,Code.weight,Code.isCreation,Code.isGuard,Code.isCaller,Code.frames,Code.isFrame,guardIds]
theorem ND{A:Around} :#[50].units=A.units+1:=by
 first | rfl | simp [Around.under,Code.cUnits,Code.frames,Code.isFrame]
theorem Room.make{k:Nat}{A:Around}(r:Room (k+1) A)(C:Addr)(us:List Value)(kw:List (Str×Value)):Room k #[50]:=
 {r.hd,by let:=r.dp;rw[NE];∎,by let:=r.un;rw[ND];∎}
theorem Room.depth{k:Nat}{A:Around}(r:Room k A):A.depth<recursionLimit:=by let:=r.dp;∎
theorem Room.units{k:Nat}{A:Around}(r:Room k A):A.units+64<cLine:=by let:=r.un;∎
theorem Room.units0{k:Nat}{A:Around}(r:Room k A):A.units<cLine:=by let:=r.un;∎
def tNil:TA:=λ_ H Q=>Q [] H
def vY(ta:TE)(tr:TA):TA:=fun O H Q=>ta O H λx H1=>tr O H1 λxs H2=>Q (x::xs) H2
section
variable{X:Cx}{e:Expr}{es:List Expr}{te:TE}{t:TA}{pos:Pos}
theorem jD:PA X [] tNil:=λ_ _ _ _ H Q I h=>Calls.spliced_nil {[],H,I,.nil,h}
theorem jA(ha:PE X e te)(hr:PA X es t)(hs:starEach (e::es) X.env=(false,eval e X.env)::starEach es X.env:=by rfl):PA X (e::es) (vY te t):=by
 intro pos ae s O H Q I h;rw[hs];show wpAny _ _ (spliced ((false,eval e X.env)::backTo pos (starEach es X.env))) _ _ s;refine Calls.spliced_cons (thn #[58] λu s1 ⟨x,H1,I1,r1,q1⟩=>?_);exact thn (hr pos ae s1 O H1 _ I1 q1) λus s2 ⟨xs,H2,I2,r2,q2⟩=>{x::xs,H2,I2,.cons r1 r2,q2}
def tTup(t:TA):TE:=fun O H Q=>t O H λxs H1=>xs.length<=sizeLine/\∀p,H1 p=none->Q (.ref p) (upd H1 p (.tup xs))
theorem pe_tup{x1}(h:PA X es t):PE X (.Tuple es x1 pos) (tTup t):=by
 intro ae s O H Q I hq;refine wpAny_Tuple_spliced #[33];let hf:H1 s1.heap.objs.size=none:=I1.hok.fresh uP ;refine{.ref s1.heap.objs.size,upd H1 s1.heap.objs.size (.tup xs),I1.laid (t':=s1.toks) (λb u e=>gC _ e) uP ?_,rfl,q _ hf};exact{z,us,r,{_,gU _ rfl,rfl,_,rfl},.of (gU _ rfl) rfl}
end
abbrev Sp:=List V->Hp->VK->XK->Prop
abbrev CXT:=List Env->Hp->Shared->XK->Value->Shared->Prop
structure Env0(P:Program)(w:World)(K:tP)(mg:Str->Option Value)(base:Heap)(A:Around)(outer:List Env)(s:Shared)(H:Hp):Prop where
 frames:A.frames=some outer
 mod:Mod K mg base
 bs:∀b o,base.get? b=some o->s.heap.get? b=some o/\H b=none
 bsz:base.objs.size<=s.heap.objs.size
 funs:s.heap.FunFrames base outer
 frf:∀b∈frs outer,H b=none
 hok:HOk P w H s.heap
 bare:AllBare s.gens
def CE(outer:List Env)(P:Program)(w:World)(H:Hp)(s:Shared)(Q:VK)(u:Value)(s':Shared):Prop:=
 ∃v H',s'.os=s.os/\AllBare s'.gens/\Un (frs outer) [] H H' s.heap s'.heap/\HOk P w H' s'.heap/\RelV v u/\Q v H'
def CR(CX:CXT)(outer:List Env)(P:Program)(w:World)(H:Hp)(s:Shared)(Q:VK)(E:XK)(r:Result)(s':Shared):Prop:=
 match r with
 | .ok (.ret u)=>CE outer P w H s Q u s'
 | .ok _=>False
 | .error e=>CX outer H s E e s'
structure FnOk(P:Program)(w:World)(K:tP)(mg:Str->Option Value)(base:Heap)(CX:CXT)(k:Nat)(f:Addr)(fd:FuncData)(ps:List Str)(sp:Sp):Prop where
 len:∀vs H Q E,sp vs H Q E->vs.length=ps.length
 run:∀(A:Around) (outer:List Env) (s:Shared) (H:Hp) (args:Args) (us:List Value) (vs:List V) (Q:VK) (E:XK),Room k A->Env0 P w K mg base A outer s H->BindsTo s fd args (ps.zip us)->Vals vs us->sp vs H Q E->
  codeAny (model P w) A (.call (.ref f) args) (CR CX outer P w H s Q E) s
theorem Env0.make{P:Program}{w:World}{K:tP}{mg:Str->Option Value}{base:Heap}{A:Around}{outer:List Env}{s:Shared}{H:Hp}(e:Env0 P w K mg base A outer s H)(C:Addr)(us:List Value)(kw:List (Str×Value)) :
  Env0 P w K mg base #[50] outer s H:={by first | exact e.frames | (simpa [Around.under,Code.envs,Code.isFrame,pushEnvs]using e.frames),e.mod,e.bs,e.bsz,e.funs,e.frf,e.hok,e.bare}
section
variable{X:Cx}{ae:List #[13]}{O:St}{H:Hp}{s s':Shared}
theorem Inv.env0(I:Inv X ae O H s):Env0 X.prog X.w X.K X.mg X.base X.A X.stack s H:=
 {I.ok.frames,I.ok.mod,I.bs,nQ I.ok.bsz I.sz,I.stack,I.stkFree,I.hok,I.bare}
theorem Inv.after(I:Inv X ae O H s)(h:CE X.stack X.prog X.w H s Q u s'):EP X ae O Q u s':=by
 obtain⟨v,H',os,bare,un,hok,r,q⟩:=h;obtain⟨hh,g,d,t,os'⟩:=s';obtain rfl:os'=s.os:=os;exact{v,H',I.call (h':=hh) (g':=g) (d':=d) (t':=t) (ch:=[]) un hok bare (λb z=>absurd z #[14]),r,q}
end
def IW(sp:Sp)(dvs:List V)(E:XK)(t:TA):TE:=fun O H Q=>t O H λvs H1=>sp (vs++dvs) H1 Q E
def Binds(K:tP)(fd:FuncData)(ps:List Str)(ds:List Value):Prop:=
 ∀(s:Shared) (us:List Value),K.In s.heap->(us++ds).length=ps.length->BindsTo s fd {us,[]} (ps.zip (us++ds))
theorem Binds.all{K:tP}{fd:FuncData}{ps:List Str}(h:∀us:List Value,us.length=ps.length->bindArgs fd {us,[]}=pure (ps.zip us)):Binds K fd ps []:=λs us _ hl=>by
 rw[List.append_nil]at hl ⊢;exact .of_eq (h us hl)
def Passes(CX:CXT)(X:Cx)(E:XK):Prop:=∀(ae:List #[13]) (O:St) (H:Hp) (s:Shared) (e:Value) (s':Shared),Inv X ae O H s->CX X.stack H s E e s'->X.xe e s'
section
variable{X:Cx}{CX:CXT}{k:Nat}{f C:Addr}{fd:FuncData}{ps:List Str}{sp:Sp}{dvs:List V}{ds:List Value}{E:XK}{x m:Str}{p pos apos:Pos}{e o:Expr}{es:List Expr}{ta:TE}{t:TA}
theorem run_fn(F:FnOk X.prog X.w X.K X.mg X.base CX k f fd ps sp)(hr:Room k X.A)(hb:Binds X.K fd ps ds)(hd:Vals dvs ds)(hx:Passes CX X E)
  (I:Inv X ae O H s) (r:Vals vs us) (h:sp (vs++dvs) H Q E):wpAny #[1] X.A (call (.ref f) us) #[60] X.xe s:=by
 let r2:Vals (vs++dvs) (us++ds):=r.append hd;let hl:(us++ds).length=ps.length:=by rw[<-r2.length];exact F.len _ _ _ _ h
 refine wpAny_call (codeAny_mono (F.run X.A X.stack s H {us,[]} (us++ds) (vs++dvs) Q E hr I.env0 (hb s us I.kIn hl) r2 h) λr s' hq=>?_);cases r with
 | error e=>exact hx ae O H s e s' I hq
 | ok fl=>
  cases fl with
  | ret u=>exact I.after hq
  | next=>exact False.elim hq
  | brk=>exact False.elim hq
  | cont=>exact False.elim hq
theorem kU(F:FnOk X.prog X.w X.K X.mg X.base CX k f fd ps sp)(hr:Room k X.A)(hg:Gl X x)(hm:X.mg x=some (.ref f))(hk:PySem.W.keepIn X.K (.ref f)=true)(hb:Binds X.K fd ps ds)(hd:Vals dvs ds)(hx:Passes CX X E)
  (ha:PA X (e::es) t) (hdb:#[20]=false:=by decide) (he:starEach (e::es) X.env=(false,eval e X.env)::starEach es X.env:=by rfl) (hpl:#[47].any (·.1)=false:=by rfl) :
  PE X (.Call (.Name x p) (e::es) [] pos) (IW sp dvs E t):=by
 intro ae s O H Q I h;refine wpAny_Call_Name_kw (uK I hg hm ?_ hdb);refine PySem.W.callWith_K (h₀:=X.base) I.ok.mod.kin hk (thn #[46] λus s1 ⟨vs,H1,I1,r,q⟩=>{I1.kIn, ?_}) he hpl;exact run_fn F hr hb hd hx I1 r q
structure Mk(K:tP)(C f:Addr):Prop where
 makes:PySem.W.makesIn K C=true
 init:PySem.W.findIn K (.ref C) "__init__" = some (some (.ref f))
 fn:PySem.W.isFn K (.ref f)=true
 kp:PySem.W.keepIn K (.ref C)=true
end
def PK(X:Cx)(kws:List Keyword)(t:TA):Prop:=
 ∀(pos:Pos) (ae:List #[13]) (s:Shared) (O:St) (H:Hp) (Q:List V->Hp->Prop),Inv X ae O H s->t O H Q->wpAny #[1] X.A (evalAll ((backToKw pos (keywordEach kws X.env)).map (·.2))) (AP X ae O Q) X.xe s
section
variable{X:Cx}{CX:CXT}{k:Nat}{f C:Addr}{fd:FuncData}{ps ks:List Str}{sp:Sp}{E:XK}{x m:Str}{p pos apos kpos:Pos}{e o:Expr}{es:List Expr}{kws:List Keyword}{te ta:TE}{t tk:TA}{nm:Option Str}
theorem WU:PK X [] tNil:=λ_ _ _ _ H Q I h=>wpAny_evalAll_nil {[],H,I,.nil,h}
theorem wC(ha:PE X e te)(hr:PK X kws t):PK X ({nm,e,(kpos)}::kws) (vY te t):=by
 intro pos ae s O H Q I h;show wpAny _ _ (evalAll ((do let v<-eval e X.env;standAt pos;pure v)::(backToKw pos (keywordEach kws X.env)).map (·.2))) _ _ s;refine wpAny_evalAll_cons (tK (thn #[58] λu s1 ⟨x,H1,I1,r1,q1⟩=>tK (wpAny_standAt (tL ?_))));exact thn (hr pos ae s1 O H1 _ I1 q1) λus s2 ⟨xs,H2,I2,r2,q2⟩=>{x::xs,H2,I2,.cons r1 r2,q2}
structure KBinds(K:tP)(fd:FuncData)(ps ks:List Str)(g:List Value->List Value->List Value)(gV:List V->List V->List V):Prop where
 to:∀(s:Shared) (us ws:List Value),K.In s.heap->(g us ws).length=ps.length->BindsTo s fd {us,ks.zip ws} (ps.zip (g us ws))
 rel:∀{vs:List V} {us:List Value} {zs:List V} {ws:List Value},Vals vs us->Vals zs ws->Vals (gV vs zs) (g us ws)
variable{g:List Value->List Value->List Value}{gV:List V->List V->List V}
end
structure FnScope(N P:List Str)(sc:Scope):Prop where
 kind:sc.kind=.function
 co:sc.isCoroutine=false
 gen:sc.isGenerator=false
 nd:N.Nodup
 pre:N.take P.length=P
 par:∀x∈P,sc.names.lookup x=some .local∨sc.names.lookup x=some .cell
 nofree:∀y∈sc.names,y.2≠.free
theorem FU{kindOf:Str->Option NameKind} :∀{binds:List (Str×Value)} {m:Str->Option Value},(∀v,(x,v)∉binds)->bindL kindOf binds m x=m x
 | [],_,_=>rfl
 | (n,v)::r,m,h=>by
  unfold bindL;rw[FU λw hw=>h w (gM _ hw)];split
  .have:x≠n:=by rintro rfl;exact h v hU
   simp [this]
  .rfl
theorem FW{kindOf:Str->Option NameKind} :∀{binds:List (Str×Value)} {m:Str->Option Value},(∀v,(x,v)∉binds)->bindC kindOf binds m x=m x
 | [],_,_=>rfl
 | (n,v)::r,m,h=>by
  unfold bindC;rw[FW λw hw=>h w (gM _ hw)];split
  .rfl
  .have:x≠n:=by rintro rfl;exact h v hU
   simp [this]
theorem FV{kindOf:Str->Option NameKind} :∀{P:List Str} {vs:List Value} {i:Nat} {m:Str->Option Value},P.Nodup->P[i]? = some x->vs[i]? = some v->kindOf x=some .local->
  bindL kindOf (P.zip vs) m x=some v
 | [],_,_,_,_,h,_,_=>by simp at h
 | _::_,[],_,_,_,_,h,_=>by simp at h
 | p::P,w::vs,0,m,nd,h1,h2,hk=>by
  simp at h1 h2;subst h1;subst h2;show bindL kindOf ((p,w)::P.zip vs) m p=_;unfold bindL;rw[FU λv hv=>(List.nodup_cons.mp nd).1 (List.of_mem_zip hv).1,tO hk];simp
 | p::P,w::vs,i+1,m,nd,h1,h2,hk=>by
  show bindL kindOf ((p,w)::P.zip vs) m x=_;unfold bindL;exact FV (i:=i) (List.nodup_cons.mp nd).2 (by simpa using h1) (by simpa using h2) hk
theorem FX{kindOf:Str->Option NameKind} :∀{P:List Str} {vs:List Value} {i:Nat} {m:Str->Option Value},P.Nodup->P[i]? = some x->vs[i]? = some v->kindOf x≠some .local->
  bindC kindOf (P.zip vs) m x=some v
 | [],_,_,_,_,h,_,_=>by simp at h
 | _::_,[],_,_,_,_,h,_=>by simp at h
 | p::P,w::vs,0,m,nd,h1,h2,hk=>by
  simp at h1 h2;subst h1;subst h2;show bindC kindOf ((p,w)::P.zip vs) m p=_;unfold bindC;rw[FW λv hv=>(List.nodup_cons.mp nd).1 (List.of_mem_zip hv).1,tN hk];simp
 | p::P,w::vs,i+1,m,nd,h1,h2,hk=>by
  show bindC kindOf ((p,w)::P.zip vs) m x=_;unfold bindC;exact FX (i:=i) (List.nodup_cons.mp nd).2 (by simpa using h1) (by simpa using h2) hk
def start(N:List Str)(vs:List V):St:=vs.map some++List.replicate (N.length-vs.length) none
def xO(CX:CXT)(P:Program)(w:World)(K:tP)(mg:Str->Option Value)(base:Heap)(N:List Str)(qual:Str)(scope:Scope)(f:Addr)(cd:Value)(A:Around)(outer:List Env)(s:Shared)(H:Hp)(E:XK):Cx where
 prog:=P
 w:=w
 K:=K
 mg:=mg
 base:=base
 A:=A.deeper #[59]
 N:=N
 s₀:=s
 H₀:=H
 env:=envOfC qual scope s.heap.objs.size f cd
 outer:=outer
 stack:=envOfC qual scope s.heap.objs.size f cd::outer
 ex:=[]
 calm:=true
 fn:=λ_=>true
 pn:=[]
 xe:=λe s'=>wpAny (model P w) (A.deeper #[59]) (leaving #[59] e) (λ_ s''=>CX outer H s E e s'') (λe' s''=>CX outer H s E e' s'') s'
theorem LQ{sc:Scope}{n:Nat}(h:sc.names.lookup x=some .cell):∃c,(cellsFrom n sc.names []).lookup x=some c:=by
 let q:=PySem.W.cellsFrom_some sc.names n [] (.inl h);exact Option.isSome_iff_exists.mp q
theorem UI{CX:CXT}{P:Program}{w:World}{K:tP}{mg:Str->Option Value}{base:Heap}{N ps:List Str}{qual:Str}{scope:Scope}{f:Addr}{cd:Value}{A:Around}{outer:List Env}{s s1:Shared}{H:Hp}{E:XK}{us:List Value}{vs:List V}
  (S:FnScope N ps scope) (hd:A.handled=none) (e0:Env0 P w K mg base A outer s H) (hl:vs.length=ps.length) (r:Vals vs us)
  (x:InCallC s s.heap.objs.size (bindL #[59].kindOf (ps.zip us) λ_=>none) (cellsFrom (s.heap.objs.size+1) scope.names []) (bindC #[59].kindOf (ps.zip us) λ_=>none) s1) :
  Inv (xO CX P w K mg base N qual scope f cd A outer s H E) [] (start N vs) H s1:=by
 let hpl:ps.length<=N.length:=by let:=congrArg List.length S.pre;rw[mJ]at this;∎
 obtain⟨h1,tk,rfl,hk⟩:=x.done;let noA:∀b:Addr,b∉(xO CX P w K mg base N qual scope f cd A outer s H E).ex:=λb z=>absurd (show b∈([]:List Addr)from z) #[14];refine⟨{e0.mod,S.kind,rfl,rfl,tE _,λy z c h1 h2=>?_,λy hy=>?_,λy c _ h=>?_,λ_=>hd,Around.frames_deeper e0.frames,.inr {rfl,(rfl)},λb z=>absurd z (noA b),e0.bs,e0.bsz,λb _ _=>noA b,λb z=>absurd z (noA b),e0.funs,e0.frf},
  rfl,e0.bare,Un.kept hk,{_,x.toInCall.ns,λi y v h1 h2 h3=>?_},λy c h=>{_,x.cell y c h},e0.hok.fresh uP,λy c h=>?_,λp hp=>absurd (show p∈([]:List #[13])from hp) #[14],e0.hok.kept hk, ?_⟩
 .exact name_of_addr x.apart (PySem.mem_of_lookup h1) (PySem.mem_of_lookup h2)
 .have hy:scope.names.lookup y=some .cell∨scope.names.lookup y=some .free:=hy;rcases hy with hy | hy
  .exact LQ hy
  .exact absurd rfl (S.nofree _ (PySem.mem_of_lookup hy))
 .exact nY (x.above y c (PySem.mem_of_lookup h))
 .have hi:i<vs.length:=by
   unfold start at h2;by_cases hi:i<vs.length
   .exact hi
   .rw[uU (by simpa using hi)]at h2;rw[List.getElem?_replicate]at h2;split at h2<;>cases h2
  let ha:vs[i]? = some v:=by
   unfold start at h2;rw[uX (by simpa using hi),mB]at h2;cases e:vs[i]? with
   | none=>rw[e]at h2;cases h2
   | some a=>rw[e]at h2;cases h2;rfl
  obtain⟨u,hu,rv⟩:=r.get ha;let hp:ps[i]? = some y:=by
   rw[<-S.pre,uZ ∎];exact h1
  let ndP:ps.Nodup:=by rw[<-S.pre];exact S.nd.sublist (List.take_sublist _ _)
  refine{u,rv, ?_};rcases S.par y (gL hp)with k | k
  .exact .inl {k,FV ndP hp hu k}
  .obtain⟨c,e⟩:=LQ (n:=s.heap.objs.size+1) k;refine .inr {.inl k,c,e, ?_};let q:=x.cell y c e;rw[FX ndP hp hu (by show scope.names.lookup y≠_;rw[k];decide)]at q;exact q
 .exact e0.hok.fresh (nY (x.above y c (PySem.mem_of_lookup h)))
 .unfold start;show _=N.length;rw[List.length_append,mS,gI]
  ∎
theorem RO{CX:CXT}{P:Program}{w:World}{K:tP}{mg:Str->Option Value}{base:Heap}{k:Nat}{f:Addr}{name qual:Str}{params:Arguments}{body:List Stmt}{scope:Scope}{dV kV doc pm cdv ct oc:Value}{an od:Option Addr}
  {osl:Array (Option Value)} {N ps:List Str} {sp:Sp} (lk:K.lookup f=some {oc,od,.func (PySem.W.fnOf name qual params body scope dV kV doc pm an cdv ct),osl}) (hcd:PySem.W.codeIn K cdv qual=true) (S:FnScope N ps scope)
  (len:∀vs H Q E,sp vs H Q E->vs.length=ps.length)
  (hbody:∀(A:Around) (outer:List Env) (s:Shared) (H:Hp) (vs:List V) (Q:VK) (E:XK),Room k (A.deeper (envOfC qual scope s.heap.objs.size f cdv))->sp vs H Q E->
   ∃t,PSs (xO CX P w K mg base N qual scope f cdv A outer s H E) body t/\t { nx:=λ_ H'=>Q .non H',rt:=Q } (start N vs) H) :
  FnOk P w K mg base CX (k+1) f (PySem.W.fnOf name qual params body scope dV kV doc pm an cdv ct) ps sp:=by
 refine{len,λA outer s H args us vs Q E hr e0 hb r hsp=>?_};let hl:=len _ _ _ _ hsp;let KX:K.In s.heap:=e0.mod.kin.keeps λb o e=>(e0.bs b o e).1;let lim:s.heap.NoLimit:=e0.mod.nolimit.keeps λb o e=>(e0.bs b o e).1;let hkind:∀y∈ps.zip us,scope.names.lookup y.1=some .local∨(scope.names.lookup y.1=some .cell/\((cellsFrom (s.heap.objs.size+1) scope.names []).lookup y.1).isSome=true):=λ⟨n,v⟩ hy=>by
  rcases S.par n (List.of_mem_zip hy).1 with q | q
  .exact .inl q
  .exact .inr {q,PySem.W.cellsFrom_some _ _ _ (.inl q)}
 refine codeAny_call_function hr.depth (KX _ _ lk) rfl S.co S.gen rfl (PySem.W.codeRec_of KX hcd) (hb _ _ _ _ ?_);refine wpAny_newFunctionEnv_cells S.kind hkind λenv he s1 x=>?_;subst he;refine{lim.keeps x.toInCall.keep,codeAny_func ?_};obtain⟨t,ht,hq⟩:=hbody A outer s H vs Q E (hr.deeper _) hsp;let I:Inv (xO CX P w K mg base N qual scope f cdv A outer s H E) [] (start N vs) H s1:=UI S hr.hd e0 hl r x;refine tM (ht [] s1 (start N vs) H _ I hq) (λfl s' hs=>?_) λe s' hs=>hs;let fin:∀{O':St} {H':Hp} {v:V} {u:Value},Inv (xO CX P w K mg base N qual scope f cdv A outer s H E) [] O' H' s'->RelV v u->Q v H'->CE outer P w H s Q u s':=
  fun {O' H' v u} J rv q=>{v,H',J.os,J.bare,J.base,J.hok,rv,(q)}
 cases fl with
 | ret u=>
  obtain⟨v,O',H',J,rv,q⟩:=hs;exact fin J rv q
 | next=>
  obtain⟨O',H',J,q⟩:=hs;exact fin (v:=V.non) (u:=Value.none) J rfl q
 | brk=>
  obtain⟨_,_,_,q⟩:=hs;exact False.elim q
 | cont=>
  obtain⟨_,_,_,q⟩:=hs;exact False.elim q
section
variable{X:Cx}{x:Str}{p pos:Pos}{e:Expr}{es:List Expr}{t:TA}{id T:String}{r:List V->Hp->VK->Prop}
def tCB(r:List V->Hp->VK->Prop)(t:TA):TE:=fun O H Q=>t O H λvs H1=>r vs H1 Q
theorem kL(hc:CallR X (.builtin id) r)(hg:Gl X x)(hm:X.mg x=none)(hv:bootBuiltins x=some (.builtin id))(ha:PA X (e::es) t)(hn:x≠"__name__":=by decide)(hdb:#[20]=false:=by decide)
  (he:starEach (e::es) X.env=(false,eval e X.env)::starEach es X.env:=by rfl) (hpl:#[47].any (·.1)=false:=by rfl):PE X (.Call (.Name x p) (e::es) [] pos) (tCB r t):=by
 intro ae s O H Q I h;refine wpAny_Call_Name_kw (yH I hg hm hv ?_ hn hdb);exact PyProof.Rows.callWith_builtin1 (thn #[46] λus s1 ⟨vs,H1,I1,r1,q1⟩=>hc ae s1 O H1 vs us Q I1 r1 q1) he hpl
theorem qL(hc:CallR X (.type T) r)(hg:Gl X x)(hm:X.mg x=none)(hv:bootBuiltins x=some (.type T))(ha:PA X (e::es) t)(hn:x≠"__name__":=by decide)(hdb:#[20]=false:=by decide)
  (he:starEach (e::es) X.env=(false,eval e X.env)::starEach es X.env:=by rfl) (hpl:#[47].any (·.1)=false:=by rfl):PE X (.Call (.Name x p) (e::es) [] pos) (tCB r t):=by
 intro ae s O H Q I h;refine wpAny_Call_Name_kw (yH I hg hm hv ?_ hn hdb);exact PyProof.Rows.callWith_type1 (thn #[46] λus s1 ⟨vs,H1,I1,r1,q1⟩=>hc ae s1 O H1 vs us Q I1 r1 q1) he hpl
end
end L2
namespace HT
open PySem PyProof.Rows
section
open PySem.SeqAt
open PySem.AutoSeq1 (wpAny_loadPart')
open PySem.MeetsSeq PySem.MeetsSeq2 PySem.MeetsSeq3
end
section
variable{prog:Program}{w:World}{A:Around}{E:Value->Shared->Prop}{s:Shared}
theorem cat_tup{vs ws:List Value}{Q:Value->Shared->Prop}(ht:IsTup s.heap t vs.toArray)(hb:IsTup s.heap b ws.toArray)(hv:vs≠[])
  (h1:ws=[]->Q (.ref t) s) (h2:ws≠[]->Q (.ref s.heap.objs.size) { s with heap:=s.heap.push { cls:=.type "tuple",data:=.seq (vs++ws).toArray } })
  (hsz:vs.length+ws.length<=sizeLine):wpAny #[3] A (binaryOp .Add (.ref t) (.ref b)) Q E s:=by
 obtain⟨⟨cls,dd,data,sl⟩,ho,hc,n,hd⟩:=id ht;obtain⟨⟨cls2,dd2,data2,sl2⟩,ho2,hc2,n2,hd2⟩:=id hb;simp only at hc hd hc2 hd2;subst hc hd hc2 hd2;let e:vs.toArray++ws.toArray=(vs++ws).toArray:=by simp
 by_cases hw:ws=[]
 .exact concat_meets {_,ho,rfl} {_,ho2,rfl} noFill_tuple_add seq_tuple_add PySem.F.slot_tuple_add PySem.F.entry_tuple_add (PySem.F.args_tuple_add_2 _ _)
   (tuple_addW1 t b vs.toArray ws.toArray n n2 dd dd2 sl sl2 (by simpa using hv) (by simp [hw])) {ho,ho2,h1 hw}
 .refine concat_meets {_,ho,rfl} {_,ho2,rfl} noFill_tuple_add seq_tuple_add PySem.F.slot_tuple_add PySem.F.entry_tuple_add (PySem.F.args_tuple_add_2 _ _)
   (tuple_addW2 t b vs.toArray ws.toArray n n2 dd dd2 sl sl2 (by simpa using hv) (by simpa using hw) (by rw[mC,mC];exact hsz)) {ho,ho2, ?_}
  rw[e];exact h2 hw
def sIx(n d:Nat):Option Int->Nat
 | none=>d
 | some v=>if v<0 then(v+(n:Int)).toNat else min v.toNat n
end
end HT
namespace L2
open PySem PySem.Spec PyProof.Rows
abbrev TO:=St->Hp->(Option Int->Hp->Prop)->Prop
def PO(X:Cx)(e:Option Expr)(t:TO):Prop:=
 ∀(ae:List #[13]) (s:Shared) (O:St) (H:Hp) (Q:Option Int->Hp->Prop),Inv X ae O H s->t O H Q->
  wpAny #[1] X.A (evalPart e X.env) (λu s'=>∃o H',Inv X ae O H' s'/\IsPart u o/\Q o H') X.xe s
def tNoPart:TO:=λ_ H Q=>Q none H
def tPart(t:TE):TO:=fun O H Q=>t O H λx H1=>∃i,x=.int i/\Q (some i) H1
theorem qW{ns:List Int} :∀{us:List Value},Vals #[16] us->IntsAre us ns:=by
 induction ns with
 | nil=>intro us r;rw[List.map_nil]at r;cases r;exact .nil
 | cons n ns ih=>
  intro us r;rw[nH]at r;cases r with
  | cons r1 r2=>
   obtain⟨t,e⟩:=r1;subst e;exact .cons n t (ih r2)
section
variable{X:Cx}{e:Expr}{te:TE}{lo hi:Option Expr}{tl th:TO}{pos p2:Pos}
theorem po_none:PO X none tNoPart:=by
 intro ae s O H Q I h;rw[evalPart_none];exact tL {none,H,I,.none,(h)}
theorem PL(h:PE X e te):PO X (some e) (tPart te):=by
 intro ae s O H Q I hw;rw[evalPart_some];refine thn (h ae s O H _ I hw) λu s1 ⟨x,H1,I1,r1,q1⟩=>?_;obtain⟨i,rfl,q⟩:=q1;obtain⟨t,rfl⟩:=r1;exact{some i,H1,I1,.int i t,q}
def SlR(X:Cx)(r:V->Option Int->Option Int->Hp->VK->Prop):Prop:=
 ∀(ae:List #[13]) (s:Shared) (O:St) (H:Hp) (x:V) (v vl vu:Value) (lo hi:Option Int) (sl:Addr) (Q:VK),Inv X ae O H s->RelV x v->s.heap.IsSliceOf sl vl vu .none->IsPart vl lo->IsPart vu hi->r x lo hi H Q->
  ∃T id,typeLookup (.type T) "__getitem__" = pure (some (.builtin id))/\s.TypeIs v T/\wpAny #[1] X.A (getItem v (.ref sl)) #[60] X.xe s
def tSl(r:V->Option Int->Option Int->Hp->VK->Prop)(te:TE)(tl th:TO):TE:=fun O H Q=>te O H λx H1=>tl O H1 λl H2=>th O H2 λu H3=>r x l u H3 Q
theorem WW{r:V->Option Int->Option Int->Hp->VK->Prop}(hr:SlR X r)(he:PE X e te)(hl:PO X lo tl)(hu:PO X hi th):PE X (.Subscript e (.Slice lo hi none p2) pos) (tSl r te tl th):=by
 intro ae s O H Q I h;refine Subscript_ (thn (he ae s O H _ I h) λv s1 ⟨x,H1,I1,r1,q1⟩=>?_);refine wpAny_Slice (thn (hl ae s1 O H1 _ I1 q1) λvl s2 ⟨l,H2,I2,pl,q2⟩=>thn (hu ae s2 O H2 _ I2 q2) λvu s3 ⟨u,H3,I3,pu,q3⟩=>?_);rw[evalPart_none];refine tL ?_;let I4:Inv X ae O H3 { s3 with heap:=s3.heap.push { cls:=.type "slice",data:=.fields #[vl,vu,.none] } } :=I3.kept (t':=s3.toks) λb ob q=>gC _ q;obtain⟨T,id,hT,ht,hg⟩:=hr ae { s3 with heap:=s3.heap.push { cls:=.type "slice",data:=.fields #[vl,vu,.none] } } O H3 x v vl vu l u s3.heap.objs.size Q I4 r1 (Heap.IsSliceOf.new ..) pl pu q3;show wpAny #[1] X.A (subscriptTail e (.Slice lo hi none p2) v (.ref s3.heap.objs.size)) #[60] X.xe { s3 with heap:=s3.heap.push { cls:=.type "slice",data:=.fields #[vl,vu,.none] } };exact tail_any (ops:=[.ref s3.heap.objs.size,v]) ht hT hg (by with_unfolding_all rfl)
def NR(xs:List V)(lo hi:Option Int):List V:=(xs.drop (HT.sIx xs.length 0 lo)).take (HT.sIx xs.length xs.length hi-HT.sIx xs.length 0 lo)
theorem LL(xs:List V)(lo hi:Option Int):(NR xs lo hi).length<=xs.length:=by
 unfold NR;rw[mJ,List.length_drop]
 ∎
theorem Vals.nil_iff(r:Vals xs us):us=[]↔xs=[]:=by
 cases r with
 | nil=>simp
 | cons _ _=>simp
end
def ixN(n:Nat)(i:Int):Option Nat:=if 0<=i then(if i<n then some i.toNat else none)else if -(n:Int)<=i then some (i+n).toNat else none
def atI{α:Type}(xs:List α)(i:Int):Option α:=(ixN xs.length i).bind λj=>xs[j]?
theorem RJ{n:Nat}{i:Int}{j:Nat}(h:ixN n i=some j):seqIndex? i n=some j/\j<n/\-(n:Int)<=i/\i<n:=by
 unfold ixN at h;by_cases h0:0<=i
 .rw[tO h0]at h;by_cases h1:i<n
  .rw[tO h1]at h;let e:i.toNat=j:=Option.some.inj h;exact{by rw[seqIndex_of h0 h1,e],∎,∎,h1}
  .rw[tN h1]at h;cases h
 .rw[tN h0]at h;by_cases h1: -(n:Int)<=i
  .rw[tO h1]at h;let e:(i+n).toNat=j:=Option.some.inj h;exact{by rw[seqIndex_neg ∎ h1,e],∎,h1,∎}
  .rw[tN h1]at h;cases h
theorem SI{α:Type}{xs:List α}{i:Int}{v:α}(h:atI xs i=some v):∃j,seqIndex? i xs.length=some j/\xs[j]? = some v/\j<xs.length/\-(xs.length:Int)<=i/\i<xs.length:=by
 unfold atI at h;cases e:ixN xs.length i with
 | none=>rw[e]at h;cases h
 | some j=>
  rw[e]at h;obtain⟨h1,h2,h3,h4⟩:=RJ e;exact{j,h1,h,h2,h3,(h4)}
theorem zI{α:Type}{xs:List α}{j:Nat}{v:α}(h:xs[j]? = some v):atI xs (j:Int)=some v:=by
 let hj:j<xs.length:=(uW.mp h).1;let e:ixN xs.length (j:Int)=some j:=by
  unfold ixN;rw[tO ∎,tO ∎];simp
 unfold atI;rw[e];exact h
def PlainIx(b:Expr):Prop:=∀o i,subscripted b false o i=operate [o,i] (getItem o i)
def IxR(X:Cx)(r:R2):Prop:=
 ∀(value slice:Expr) (ae:List #[13]) (s:Shared) (O:St) (H:Hp) (x y:V) (v u:Value) (Q:VK),Inv X ae O H s->RelV x v->RelV y u->r x y H Q->
  subscripted slice false v u=operate [v,u] (getItem v u)->wpAny #[1] X.A (subscriptTail value slice v u) #[60] X.xe s
def MtR(X:Cx)(id:String)(r:V->List V->Hp->VK->Prop):Prop:=
 ∀(ae:List #[13]) (s:Shared) (O:St) (H:Hp) (x:V) (xs:List V) (v:Value) (us:List Value) (Q:VK),Inv X ae O H s->RelV x v->Vals xs us->r x xs H Q->
  wpAny #[1] X.A (call (.builtin id) (v::us)) #[60] X.xe s
section
variable{X:Cx}{a b:Expr}{ta tb:TE}{pos:Pos}
theorem jT(hr:IxR X r)(ha:PE X a ta)(hb:PE X b tb)(hs:PlainIx b):PE X (.Subscript a b pos) (tOp r ta tb):=by
 intro ae s O H Q I h;exact Subscript_ (binT ha hb I h λv u s2 x y H2 I2 rx ry q=>hr a b ae s2 O H2 x y v u Q I2 rx ry q (hs _ _))
def JN(K:tP):R2:=λx y H Q=>∃p xs i v,x=.ref p/\y=.int i/\SqL K H p xs/\atI xs i=some v/\Q v H
def TK(K:tP):R2:=λx y H Q=>∃p xs i v,x=.ref p/\y=.int i/\SqT K H p xs/\atI xs i=some v/\Q v H
theorem qQ:IxR X (JN X.K):=by
 intro value slice ae s O H x y v u Q I rx ry h hs;obtain⟨p,xs,i,z,rfl,rfl,hq,he,q⟩:=h;cases rx;obtain⟨t,rfl⟩:=ry;obtain⟨its,r,pl,hz⟩:=I.list hq;obtain⟨j,h1,h2,h3,h4,h5⟩:=SI he;obtain⟨w,ew,rw'⟩:=r.get h2;let hl:=r.length;let hn:=IB;let fin:EP X ae O Q w s:={z,H,I,rw',(q)};by_cases h0:0<=i
 .have hj:i.toNat=j:=by
   rw[seqIndex_of h0 h5]at h1;exact Option.some.inj h1
  exact item_listR pl.isList h0 ∎ (by rw[hj];simpa using ew) fin hs
 .have hj:(i+(its.toArray.size:Int)).toNat=j:=by
   rw[seqIndex_neg ∎ h4]at h1;rw[mC,<-hl];exact Option.some.inj h1
  exact subscriptTail_builtinR (x:=w) pl.isList.typeIs slot_list_getitem.lookup
   (wpAny_getItem_list_neg (Q:=λr s'=>r=w/\EP X ae O Q r s') pl.isList ∎ (by rw[mC]<;>∎) ∎ (by rw[hj];simpa using ew) {rfl,(fin)}) hs
theorem jW:IxR X (TK X.K):=by
 intro value slice ae s O H x y v u Q I rx ry h hs;obtain⟨p,xs,i,z,rfl,rfl,hq,he,q⟩:=h;cases rx;obtain⟨t,rfl⟩:=ry;obtain⟨its,r,pl,hz⟩:=I.tuple hq;obtain⟨j,h1,h2,h3,h4,h5⟩:=SI he;obtain⟨w,ew,rw'⟩:=r.get h2;let hl:=r.length;let hn:=IB;let fin:EP X ae O Q w s:={z,H,I,rw',(q)};exact subscriptTail_builtinR (x:=w) pl.typeIs slot_tuple_getitem.lookup
  (getItem_tuple (j:=j) (Q:=λr s'=>r=w/\EP X ae O Q r s') pl ∎ ∎ (by rw[mC,<-hl];exact h1) (by simpa using ew) {rfl,(fin)}) hs
theorem NC(its:List Value)(n j:Nat)(u:Value):Obj.mapSeq (·.setIfInBounds j u) { cls:=.type "list",data:=.seq its.toArray n } = { cls:=.type "list",data:=.seq (its.set j u).toArray n } :=by
 simp [Obj.mapSeq]
theorem Inv.lst{s:Shared}{xs:List V}(I:Inv X ae O H s)(h:H p=some (.lst xs)) :
  ∃(its:List Value) (n:Nat),Vals xs its/\s.heap.get? p=some { cls:=.type "list",data:=.seq its.toArray n }/\xs.length<=sizeLine:=by
 obtain⟨z,its,n,r,e⟩:=I.hok p _ h;exact{its,n,r,e,(z)}
theorem Inv.lstUpd{s:Shared}{xs ys:List V}{its its':List Value}{n n':Nat}{f:Obj->Obj}(I:Inv X ae O H s)(h:H p=some (.lst xs))
  (ho:s.heap.get? p=some { cls:=.type "list",data:=.seq its.toArray n }) (hf:f { cls:=.type "list",data:=.seq its.toArray n } = { cls:=.type "list",data:=.seq its'.toArray n' }) (r:Vals ys its') (hz:ys.length<=sizeLine) (t:Nat) :
  Inv X ae O (upd H p (.lst ys)) { s with heap:=s.heap.update p f,toks:=t } :=by
 let e:(s.heap.update p f).get? p=some { cls:=.type "list",data:=.seq its'.toArray n' } :=by
  rw[Heap.get?_update_self f ho (by rw[hf]<;>rfl),hf]
 refine I.write (x:=p) (e:=p) (by rw[h];trivial) (.inl rfl) (λb u hb q=>(Heap.get?_update_other _ _ (Ne.symm hb)).trans q) {_,e} ?_;exact{hz,its',n',r,(e)}
def rSetL:V->V->V->Hp->(Hp->Prop)->Prop:=λo i v H Q=>∃p xs k j,o=.ref p/\i=.int k/\H p=some (.lst xs)/\ixN xs.length k=some j/\Q (upd H p (.lst (xs.set j v)))
theorem vZ:PSet X rSetL:=by
 intro ae s O H o i v ov iv u Q I ro ri rv h;obtain⟨p,xs,k,j,rfl,rfl,hp,hj,q⟩:=h;cases ro;obtain⟨t,rfl⟩:=ri;obtain⟨its,n,r,ho,hz⟩:=I.lst hp;obtain⟨h1,h2,h3,h4⟩:=RJ hj;let hl:=r.length;let hn:=IB;let I':Inv X ae O (upd H p (.lst (xs.set j v))) { s with heap:=s.heap.update p (Obj.mapSeq (·.setIfInBounds j u)) } :=
  I.lstUpd hp ho (NC its n j u) (r.set rv j) (by rw[List.length_set];exact hz) s.toks
 by_cases h0:0<=k
 .have hk:k.toNat=j:=by
   rw[seqIndex_of h0 h4]at h1;exact Option.some.inj h1
  exact PySem.W.ki_setAt ho h0 ∎ (by rw[mC,<-hl];exact h4) (by rw[hk];exact{_,I',q})
 .have hk:(k+(its.toArray.size:Int)).toNat=j:=by
   rw[seqIndex_neg ∎ h3]at h1;rw[mC,<-hl];exact Option.some.inj h1
  exact PySem.W.ki_setBack ho ∎ (by rw[mC,<-hl];exact h3) ∎ (by rw[hk];exact{_,I',q})
theorem GO(lo hi:Option Int)(n:Nat):(sliceBounds lo hi none n).1=((HT.sIx n 0 lo:Nat):Int)/\(sliceBounds lo hi none n).2.1=((HT.sIx n n hi:Nat):Int)/\(sliceBounds lo hi none n).2.2=1:=by
 refine{?_, ?_,rfl}
 .cases lo with
  | none=>simp [sliceBounds,HT.sIx]
  | some i=>
   simp only[sliceBounds,HT.sIx,Option.getD_none,show(1:Int)>0 by decide,if_true];by_cases h:i<0
   .simp only[h,if_true]<;>∎
   .simp only[h,if_false]<;>∎
 .cases hi with
  | none=>simp [sliceBounds,HT.sIx]
  | some i=>
   simp only[sliceBounds,HT.sIx,Option.getD_none,show(1:Int)>0 by decide,if_true];by_cases h:i<0
   .simp only[h,if_true]<;>∎
   .simp only[h,if_false]<;>∎
theorem EO(its:List Value)(lo hi:Option Int):slicePick its.toArray lo hi none=((its.drop (HT.sIx its.length 0 lo)).take (HT.sIx its.length its.length hi-HT.sIx its.length 0 lo)).toArray:=by
 obtain⟨h1,h2,h3⟩:=GO lo hi its.toArray.size;unfold slicePick;rw[h1,h2,h3];simp only[sliceRange_one,pick_run,mC]<;>rfl
def rSlL(K:tP):V->Option Int->Option Int->Hp->VK->Prop:=λx lo hi H Q=>∃a xs,x=.ref a/\SqL K H a xs/\∀p,H p=none->Q (.ref p) (upd H p (.lst (NR xs lo hi)))
theorem sl_list:SlR X (rSlL X.K):=by
 intro ae s O H x v vl vu lo hi sl Q I rx hs pl pu h;obtain⟨a,xs,rfl,hx,q⟩:=h;cases rx;obtain⟨its,r,ht,hz⟩:=I.list hx;let hlen:=r.length;refine{"list",_,slot_list_getitem.lookup,ht.isList.typeIs, ?_};refine wpAny_getItem_list_slice ht.isList hs pl pu .none #[14] ?_ (by rw[mC]<;>∎);rw[EO,<-hlen];refine{.ref s.heap.objs.size,_,I.laid (t':=s.toks) (o:=.lst (NR xs lo hi)) (λb ob q=>gC _ q) uP ?_,rfl,q _ (I.hok.fresh uP)};exact{nQ (LL xs lo hi) hz,_,0,(r.drop (HT.sIx xs.length 0 lo)).take (HT.sIx xs.length xs.length hi-HT.sIx xs.length 0 lo),gU _ rfl}
theorem qR:CallR X (.builtin "len") (λxs H Q=>∃p ys,xs=[.ref p]/\(SqL X.K H p ys∨SqT X.K H p ys)/\Q (.int ys.length) H):=by
 intro ae s O H xs us Q I r h;obtain⟨p,ys,rfl,hq,q⟩:=h;obtain⟨u,rfl,rx⟩:=vV r;cases rx;let hn:=IB;rcases hq with hq | hq
 .obtain⟨its,r',pl,hz⟩:=I.list hq;let hlen:=r'.length;exact Calls.call_len_list pl.isList (by simp only[mC]<;>∎) {.int ys.length,H,I.tok _,{s.toks+1,by rw[mC,hlen]},q}
 .obtain⟨its,r',pl,hz⟩:=I.tuple hq;let hlen:=r'.length;exact len_tuple pl (by simp only[mC]<;>∎) {.int ys.length,H,I.tok _,{s.toks+1,by rw[mC,hlen]},q}
theorem IM:CallR X (.type "list") (λxs H Q=>∃p ys,xs=[.ref p]/\(SqL X.K H p ys∨SqT X.K H p ys)/\∀l,H l=none->Q (.ref l) (upd H l (.lst ys))):=by
 intro ae s O H xs us Q I r h;obtain⟨p,ys,rfl,hq,q⟩:=h;obtain⟨u,rfl,rx⟩:=vV r;cases rx;let fin:∀(its:List Value),Vals ys its->ys.length<=sizeLine->∀(h':Heap) (c':Nat),(∀b o',s.heap.get? b=some o'->h'.get? b=some o')->
   h'.get? s.heap.objs.size=some { cls:=.type "list",dict:=none,data:=.seq its.toArray c',slots:=#[] }->EP X ae O Q (.ref s.heap.objs.size) { s with heap:=h' } :=λits r' hz h' c' kp e=>
  {.ref s.heap.objs.size,_,I.laid (t':=s.toks) kp uP (show ObjOk X.prog X.w _ h' _ (.lst ys)from{hz,its,c',r',(e)}),rfl,q _ (I.hok.fresh uP)}
 rcases hq with hq | hq
 .obtain⟨its,r',pl,hz⟩:=I.list hq;have hlen:=r'.length;obtain⟨o,ho,hc,n,hd⟩:=pl.isList;exact call_list_seq p (.inl rfl) ho hc hd (λh' c' kp e=>fin its r' hz h' c' kp e) (by simp only[mC]<;>∎)
 .obtain⟨its,r',pl,hz⟩:=I.tuple hq;have hlen:=r'.length;obtain⟨o,ho,hc,n,hd⟩:=pl;exact call_list_seq p (.inr rfl) ho hc hd (λh' c' kp e=>fin its r' hz h' c' kp e) (by simp only[mC]<;>∎)
theorem qX:CallR X (.type "tuple") (λxs H Q=>∃p ys,xs=[.ref p]/\((SqL X.K H p ys/\∀l,H l=none->Q (.ref l) (upd H l (.tup ys)))∨(SqT X.K H p ys/\Q (.ref p) H))):=by
 intro ae s O H xs us Q I r h;obtain⟨p,ys,rfl,h⟩:=h;obtain⟨u,rfl,rx⟩:=vV r;cases rx;rcases h with⟨hq,q⟩ | ⟨hq,q⟩
 .obtain⟨its,r',pl,hz⟩:=I.list hq;let hlen:=r'.length;refine call_tuple_list pl.isList (λh' kp=>?_) (by simp only[mC]<;>∎);let I1:Inv X ae O H { s with heap:=h' } :=I.kept (t':=s.toks) kp;let I2:Inv X ae O (upd H h'.objs.size (.tup ys)) { s with heap:=h'.push { cls:=.type "tuple",data:=.seq its.toArray } } :=
   I1.laid (t':=s.toks) (λb o e=>gC _ e) uP (show ObjOk X.prog X.w _ _ _ (.tup ys)from{hz,its,r',IsTup.new _ _,.of (gU _ rfl) rfl})
  exact{.ref h'.objs.size,_,I2,rfl,q _ (I1.hok.fresh uP)}
 .obtain⟨its,r',pl,hz⟩:=I.tuple hq;exact call_tuple_same pl {.ref p,H,I,rfl,q}
def tyV(K:tP)(T:String)(x:V)(H:Hp):Prop:=match x with
 | .str _=>T="str"
 | .int _=>T="int"
 | .ref p=>(T="list"/\∃xs,SqL K H p xs)∨(T="tuple"/\∃o,K.lookup p=some o/\o.cls=.type "tuple"/\o.dict=none)∨
   (T="dict"/\((∃aj,H p=some (.dK aj))∨∃aj,H p=some (.dT aj)))∨(T="set"/\∃S n,H p=some (.set S n))∨(T="tuple"/\∃xs,H p=some (.tup xs))
 | _=>False
theorem VJ{s:Shared}(I:Inv X ae O H s)(r:RelV x v)(ty:tyV X.K T x H) :
  s.TypeIs v T/\∀a,v=.ref a->∃ob,s.heap.get? a=some ob/\ob.dict=none:=by
 cases x with
 | str z=>
  obtain⟨t,rfl⟩:=r;cases (show T="str" from ty);exact{typeIs_str s z t,λ_ e=>nomatch e}
 | int i=>
  obtain⟨t,rfl⟩:=r;cases (show T="int" from ty);exact{typeIs_int s i t,λ_ e=>nomatch e}
 | ref p=>
  cases r;rcases ty with⟨rfl,xs,hq⟩ | ⟨rfl,o,hk,hc,hd⟩ | ⟨rfl,hk⟩ | ⟨rfl,S,n,hk⟩ | ⟨rfl,xs,hk⟩
  rotate_left 4
  .obtain⟨_,its,_,⟨o,h1,h2,_⟩,nd⟩:=(show ObjOk X.prog X.w H s.heap p (.tup xs)from I.hok p _ hk);exact{{o,h1,(h2)},λa e=>by cases e;exact{o,h1,nd _ h1}}
  .obtain⟨its,_,pl,_⟩:=I.list hq;refine{pl.isList.typeIs,λa e=>?_};cases e;obtain⟨o,n,e,c,hd,_⟩:=pl;exact{o,e,(hd)}
  .refine{{o,I.kIn p o hk,hc},λa e=>?_};cases e;exact{o,I.kIn _ o hk,hd}
  .have z:∃o,s.heap.get? p=some o/\o.ExactDict:=by
    rcases hk with⟨aj,hk⟩ | ⟨aj,hk⟩
    .obtain⟨_,_,_,_,o,_,_,e,ex,_⟩:=I.hok p _ hk;exact{o,e,(ex)}
    .obtain⟨_,_,_,_,o,_,_,e,ex,_⟩:=I.hok p _ hk;exact{o,e,(ex)}
   obtain⟨o,e,ex⟩:=z;refine{{o,e,(ex.1)},λa e2=>?_};cases e2;exact{o,e,(ex.2.1)}
  .obtain⟨o,_,_,_,e,ex,_⟩:=I.hok p _ hk;refine{{o,e,(ex.1)},λa e2=>?_};cases e2;exact{o,e,(ex.2.1)}
 | _=>exact False.elim ty
def tBM0(K:tP)(T:String)(r:V->List V->Hp->VK->Prop)(to:TE):TE:=fun O H Q=>to O H λx H1=>tyV K T x H1/\r x [] H1 Q
def tBM(K:tP)(T:String)(r:V->List V->Hp->VK->Prop)(to:TE)(t:TA):TE:=fun O H Q=>to O H λx H1=>tyV K T x H1/\t O H1 λxs H2=>r x xs H2 Q
variable{o e:Expr}{es:List Expr}{to:TE}{t:TA}{name:Str}{apos cpos:Pos}{T id:String}{r:V->List V->Hp->VK->Prop}
theorem WZ(pa:PlainAttrs T)(slot:Slot T name id)(hty:typeOf (.builtin id)=pure (.type "method_descriptor"))(hm:MtR X id r)(ho:PE X o to)
  (hbase:attributeBase o name X.env (eval o X.env)=eval o X.env:=by rfl) (hline:(apos.endLine==cpos.line)=true:=by rfl):PE X (.Call (.Attribute o name apos) [] [] cpos) (tBM0 X.K T r to):=by
 intro ae s O H Q I h;refine wpAny_Call_method0_late hbase hline (thn (ho ae s O H _ I h) λv s1 ⟨x,H1,I1,r1,ty,q1⟩=>?_);obtain⟨h1,h2⟩:=VJ I1 r1 ty;exact{T,id,pa,slot,hty,h1,h2,Calls.callWith_builtin rfl (PySem.evalArgs_none (hm ae s1 O H1 x [] v [] Q I1 r1 .nil q1))}
theorem XA(pa:PlainAttrs T)(slot:Slot T name id)(hty:typeOf (.builtin id)=pure (.type "method_descriptor"))(hm:MtR X id r)(ho:PE X o to)(ha:PA X (e::es) t)
  (hbase:attributeBase o name X.env (eval o X.env)=eval o X.env:=by rfl)
  (hfew:((backTo cpos (starEach (e::es) X.env)).all (λx=>!x.1)&&(backToKw cpos (keywordEach [] X.env)).all (λx=>x.1.isSome)
   &&decide ((e::es).length+([]:List Keyword).length+(if ([]:List Keyword).isEmpty then 0 else 1)<30))=true:=by rfl)
  (hline:(apos.endLine==cpos.line)=true:=by rfl) (hs:starEach (e::es) X.env=(false,eval e X.env)::starEach es X.env:=by rfl) (hplain:(backTo cpos (starEach es X.env)).any (·.1)=false:=by rfl) :
  PE X (.Call (.Attribute o name apos) (e::es) [] cpos) (tBM X.K T r to t):=by
 intro ae s O H Q I h;refine wpAny_Call_method_late hbase hfew hline rfl (thn (ho ae s O H _ I h) λv s1 ⟨x,H1,I1,r1,ty,q1⟩=>?_);obtain⟨h1,h2⟩:=VJ I1 r1 ty;refine{T,id,pa,slot,hty,h1,h2, ?_};let hA:=ha cpos ae s1 O H1 _ I1 q1;rw[hs]at hA ⊢;refine Calls.callWith_builtin (by show(false||(backTo cpos (starEach es X.env)).any (·.1))=false;rw[hplain]<;>rfl) (Calls.evalArgs_plain ?_);exact thn hA λus s2 ⟨vs,H2,I2,r2,q2⟩=>hm ae s2 O H2 x vs v us Q I2 r1 r2 q2
end
def MtM(X:Cx)(id:String)(r:V->List V->Hp->VK->Prop):Prop:=
 ∀(ae:List #[13]) (s:Shared) (O:St) (H:Hp) (x:V) (xs:List V) (v:Value) (us:List Value) (Q:VK),Inv X ae O H s->RelV x v->Vals xs us->r x xs H Q->
  wpAny #[1] X.A (call (.builtin id) (v::us)) #[60] X.xe s
theorem Vals.one:∀{x:V} {us:List Value},Vals [x] us->∃u,us=[u]/\RelV x u
 | _,_,.cons r .nil=>{_,rfl,r}
theorem Vals.two:∀{x y:V} {us:List Value},Vals [x,y] us->∃u v,us=[u,v]/\RelV x u/\RelV y v
 | _,_,_,.cons r (.cons q .nil)=>{_,_,rfl,r,q}
theorem Vals.rep(h:Vals xs us):∀k:Nat,Vals (List.replicate k xs).flatten (List.replicate k us).flatten
 | 0=>.nil
 | k+1=>by
  rw[List.replicate_succ,List.replicate_succ,List.flatten_cons,List.flatten_cons];exact Vals.append h (Vals.rep h k)
theorem FN(its:List Value):∀(k:Nat) (acc:List Value),
  List.foldl (λx1 x2=>x1++x2) acc.toArray (List.replicate k its.toArray)=(acc++(List.replicate k its).flatten).toArray
 | 0,acc=>by simp
 | k+1,acc=>by
  let e:acc.toArray++its.toArray=(acc++its).toArray:=by simp
  let e2:(acc++its)++(List.replicate k its).flatten=acc++(List.replicate (k+1) its).flatten:=by
   rw[List.replicate_succ,List.flatten_cons,List.append_assoc]
  rw[<-e2,<-FN its k (acc++its),<-e,List.replicate_succ,List.foldl_cons]
section
variable{X:Cx}{ae:List #[13]}{O:St}{H:Hp}{s:Shared}{l b:Addr}{xs ys zs:List V}
theorem Inv.lset{its its':List Value}{n:Nat}{f:Array Value->Array Value}{t':Nat}(I:Inv X ae O H s)(hH:H l=some (.lst xs))
  (e:s.heap.get? l=some { cls:=.type "list",data:=.seq its.toArray n }) (hf:f its.toArray=its'.toArray) (hv:Vals ys its') (hz:ys.length<=sizeLine) :
  Inv X ae O (upd H l (.lst ys)) { s with heap:=s.heap.update l (Obj.mapSeq f),toks:=t' } :=by
 let q:=PySem.IsL.update e f;rw[hf]at q;refine I.write (x:=l) (e:=l) (by rw[hH];exact trivial) (.inl rfl) (λb' u hb hu=>(Heap.get?_update_other s.heap (Obj.mapSeq f) (Ne.symm hb)).trans hu) {_,q} ?_;exact{hz,its',_,hv,q}
theorem Inv.lnew{its:List Value}{t':Nat}(I:Inv X ae O H s)(hv:Vals ys its)(hz:ys.length<=sizeLine) :
  Inv X ae O (upd H s.heap.objs.size (.lst ys)) { s with heap:=s.heap.push { cls:=.type "list",data:=.seq its.toArray },toks:=t' } :=
 I.laid (λ_ _ q=>gC _ q) uP {hz,its,0,hv,gU _ rfl}
theorem Inv.fresh(I:Inv X ae O H s):H s.heap.objs.size=none:=I.hok.fresh uP 
theorem Inv.lstM(I:Inv X ae O H s)(hH:H l=some (.lst xs)):xs.length<=sizeLine/\∃(its:List Value) (n:Nat),Vals xs its/\xs.length=its.length/\s.heap.get? l=some { cls:=.type "list",data:=.seq its.toArray n } :=by
 obtain⟨z,its,n,r,e⟩:=I.hok l _ hH;exact{z,its,n,r,r.length,(e)}
theorem JY{n:Nat}(h:n<=sizeLine):Builtin.List.listTooLong n=false:=by
 unfold Builtin.List.listTooLong;exact mU ∎
end
section
variable{X:Cx}
def rAppend:V->List V->Hp->VK->Prop:=λx vs H Q=>∃l xs y,x=.ref l/\vs=[y]/\H l=some (.lst xs)/\xs.length<sizeLine/\Q .non (upd H l (.lst (xs++[y])))
theorem yQ:MtM X "list.append" rAppend:=by
 intro ae s O H x vs v us Q I rx rv h;obtain⟨l,xs,y,rfl,rfl,hH,hz,q⟩:=h;cases rx;obtain⟨u,rfl,ru⟩:=rv.one;obtain⟨z,its,n,r,hl,e⟩:=I.lstM hH;refine call_meets F.slot_list_append {_,e,rfl} F.entry_list_append (F.args_list_append_2 _ _) (PySem.list_append l its.toArray n u (by rw[mC];∎)) {e, ?_};refine{.non,_,I.lset (its':=its++[u]) hH e #[14] (r.append (.cons ru .nil)) ?_,rfl,q};rw[List.length_append,List.length_singleton]
 ∎
def rExtend:V->List V->Hp->VK->Prop:=λx vs H Q=>∃l b xs zs,x=.ref l/\vs=[.ref b]/\H l=some (.lst xs)/\H b=some (.lst zs)/\xs.length+zs.length<=sizeLine/\Q .non (upd H l (.lst (xs++zs)))
theorem mt_extend:MtM X "list.extend" rExtend:=by
 intro ae s O H x vs v us Q I rx rv h;obtain⟨l,b,xs,zs,rfl,rfl,hH,hB,hz,q⟩:=h;cases rx;obtain⟨u,rfl,ru⟩:=rv.one;cases ru;obtain⟨z,its,n,r,hl,e⟩:=I.lstM hH;obtain⟨z2,its2,n2,r2,hl2,e2⟩:=I.lstM hB;let hsz:its.toArray.size+its2.toArray.size<=sizeLine:=by rw[mC,mC];∎
 let hlong:¬(!its.toArray.isEmpty&&Builtin.List.listTooLong (its.toArray.size+its2.toArray.size))=true:=by
  rw[JY hsz,Bool.and_false];exact gY
 refine call_meets F.slot_list_extend {_,e,rfl} F.entry_list_extend (F.args_list_extend_2 _ _)
  (AutoSeq1.list_extend_list_list_0 l its.toArray n b its2.toArray n2 hlong (by rw[mC];∎) ∎) {e,e2, ?_}
 refine{.non,_,I.lset (its':=its++its2) hH e #[14] (r.append r2) ?_,rfl,q};rw[List.length_append]
 ∎
def rCat:R2:=λx y H Q=>∃l b xs zs,x=.ref l/\y=.ref b/\H l=some (.lst xs)/\H b=some (.lst zs)/\xs.length+zs.length<=sizeLine/\∀p,H p=none->Q (.ref p) (upd H p (.lst (xs++zs)))
theorem op_cat:OpR X (binaryOp .Add) rCat:=by
 intro ae s O H x y v u Q I rx ry h;obtain⟨l,b,xs,zs,rfl,rfl,hH,hB,hz,q⟩:=h;cases rx;cases ry;obtain⟨z,its,n,r,hl,e⟩:=I.lstM hH;obtain⟨z2,its2,n2,r2,hl2,e2⟩:=I.lstM hB;refine PySem.P.add_list e e2 ?_ (by rw[mC,mC];∎);let ea:its.toArray++its2.toArray=(its++its2).toArray:=by simp
 rw[ea];exact{.ref _,_,I.lnew (t':=s.toks) (r.append r2) (by rw[List.length_append];∎),rfl,q _ I.fresh}
def rRep:R2:=λx y H Q=>∃l k xs,x=.ref l/\y=.int k/\H l=some (.lst xs)/\-(2^63)<=k/\k<2^63/\xs.length*k.toNat<=sizeLine/\
 ∀p,H p=none->Q (.ref p) (upd H p (.lst (List.replicate k.toNat xs).flatten))
theorem len_rep{α:Type}(xs:List α)(k:Nat):(List.replicate k xs).flatten.length=k*xs.length:=by
 induction k with
 | zero=>simp
 | succ k ih=>rw[List.replicate_succ,List.flatten_cons,List.length_append,ih,Nat.succ_mul,Nat.add_comm]
theorem op_rep:OpR X (binaryOp .Mult) rRep:=by
 intro ae s O H x y v u Q I rx ry h;obtain⟨l,k,xs,rfl,rfl,hH,h1,h2,hz,q⟩:=h;cases rx;obtain⟨t,rfl⟩:=ry;obtain⟨z,its,n,r,hl,e⟩:=I.lstM hH;let hlen:its.toArray.size*k.toNat<=sizeLine:=by rw[mC,<-hl];exact hz
 let hcap:¬its.toArray.size*k.toNat>(2^63-1)/8:=by
  let:(sizeLine:Nat)<=(2^63-1)/8:=by decide
  ∎
 let hfit:¬(!Builtin.List.listFitsIndex k)=true:=by
  rw[fitsIndex_both h1 h2];exact gY
 let hlong:¬Builtin.List.listTooLong (its.toArray.size*k.toNat)=true:=by
  rw[JY hlen];exact gY
 let hnew:List.foldl (λx1 x2=>x1++x2) #[] (List.replicate (if its.toArray.isEmpty=true then 0 else k.toNat) its.toArray)=(List.replicate k.toNat its).flatten.toArray:=by
  let f0:∀m:Nat,List.foldl (λx1 x2=>x1++x2) #[] (List.replicate m its.toArray)=(List.replicate m its).flatten.toArray:=λm=>by
   let:=FN its m [];rw[List.nil_append]at this;exact this
  rw[f0];cases its with
  | nil=>simp
  | cons a r'=>rw[tN #[14]]
 refine wpAny_binaryOp_repeat_ref (T:="list") (U:="int") #[0] {_,e,rfl} (λs'=>typeIs_int s' k t) noFill_list_mul F.fills_int_mul F.slot_int_rmul repeat_list F.slot_int_index.lookup
  (call_meets F.slot_int_rmul (typeIs_int s k t) F.entry_int_rmul (F.args_int_rmul_2 _ _) (int___rmul___int_list k t l its.toArray n)
   {e,rfl,{_,e,rfl},call_meets F.slot_list_mul {_,e,rfl} F.entry_list_mul (F.args_list_mul_2 _ _) (AutoListH.list___mul___list_int_3 l its.toArray n k t hfit hcap hlong) {e, ?_}})
 rw[hnew];exact{.ref _,_,I.lnew (t':=s.toks) (r.rep k.toNat) (by rw[len_rep,Nat.mul_comm];exact hz),rfl,q _ I.fresh}
end
section
variable{prog:Program}{w:World}{A:Around}{E:Value->Shared->Prop}{s:Shared}
set_option maxRecDepth 100000 in
end
section
variable{X:Cx}
end
end L2
namespace Att
open PySem PySem.W PySem.Calls PyProof.Rows
theorem BL :∀(ns:List Int) (vs:List Value),WellAll P h vs (ns.map WData.int)->IntsAre vs ns:=by
 intro ns;induction ns with
 | nil=>
  intro vs w;rw[List.map_nil]at w;cases w;exact .nil
 | cons n ns ih=>
  intro vs w;rw[nH]at w;cases w with
  | cons a b=>
   cases a;exact .cons _ _ (ih _ b)
theorem SV{l:OpenLaw}{n:Nat}(hn:l.most=some n){h:Heap}
  (hpre:l.row.toRowW.claim.pre args=true) (hwl:WellAll P h vals args) :
  ∃a vs ns,vals=[Value.ref a]/\args=[WData.list (ns.map WData.int)]/\h.get? a=some { cls:=.type "list",data:=.seq vs.toArray }/\IntsAre vs ns/\ns.length<=n:=by
 let hsh:WShape.hasAll [] args [.list .int]=true:=(pre_splitW hpre).1;let hc:l.pre.holds [] { args:=args } = true:=(pre_splitW hpre).2;obtain⟨d,r,rfl,h1,h2⟩:=hasAllW_cons hsh;obtain rfl:=hasAllW_nil h2;obtain⟨xs,rfl,h3⟩:=hasW_list h1;obtain⟨ns,rfl⟩:=items_int h3;let hlen:ns.length<=n:=by
  unfold OpenLaw.pre at hc;let h4:(WTm.not (.lt (.lit (.int (n:Int))) (.len (.arg 0)))).holds [] { args:=[.list (ns.map .int)] } = true:=by
   let h4:=(holds_andW hc).1;rw[hn]at h4;exact h4
  let h5:=condW_of h4 (w_not (w_lt w_lit (w_len_list (w_arg rfl))));rw[mS]at h5;refine Nat.le_of_not_lt λq=>?_;let q':(n:Int)<((ns.length:Nat):Int):=∎
  first
   | (rw[mW q']at h5;exact absurd h5 #[0])
   | (simp at h5;∎)
 cases hwl with
 | cons w1 w2=>
  cases w2;cases w1 with
  | list ho hall=>exact{_,_,ns,rfl,rfl,ho,BL ns _ hall,hlen}
theorem TL(l:OpenLaw)(args:List WData):l.row.toRowW.claim.post args (.bool true) args=true:=
 postW_of (r:=l.row.toRowW) (X:=(true==true))
  (show WShape.has [] (.bool true) .bool=true by first | rfl | decide | simp [WShape.has,WShape.arms,WShape.armsAll])
  (show(WTm.eq .res (.lit (.bool true))).value [] { args:=args,res:=some (.bool true),after:=args } = some (.bool (true==true))from w_eq_bool (w_res rfl) w_lit) rfl
theorem attach_call{l:OpenLaw}{n:Nat}{XP:(Str->Option Value)->Heap->Prop}{YP:World->Heap->Prop}{d:DefRec}
  (hn:l.most=some n) (hdf:d.params.defaults=[])
  (call:∀(w:World) (s₀ s₁:Shared) (mg mb:Str->Option Value) (fa:Addr) (o:Obj) (pm cd doc:Value) (a:Addr) (vs:List Value) (ns:List Int),
   Ground q loose [] XP w s₀ mg mb s₁.heap->YP w s₁.heap->
   s₁.heap.get? fa=some o->o.data=.func (docDef d.name d.params d.body d.scope pm cd doc)->s₁.heap.CodeRec cd d.name->mg d.name=some (.ref fa)->
   s₁.heap.get? a=some { cls:=.type "list",data:=.seq vs.toArray }->IntsAre vs ns->ns.length<=n->s₁.gens = #[]->
   codeAny (model l.prog w) callerA (.call (.ref fa) {[.ref a],[]}) #[41] s₁) :
  WalkO q loose XP YP l.row.toRowW d [] (λf vs=>PySem.call f vs):=by
 intro w s₀ s₁ mg mb G Y fa o pm cd doc dV kV ho hd hcd hD hmg hg args vals as hpre hlay hrd hwl hlo;obtain rfl:dV=.none:=Dflts.none hD hdf;obtain rfl:kV=.none:=Dflts.noKw hD;obtain⟨a,vs,ns,rfl,rfl,hobj,hints,hlen⟩:=SV hn hpre hwl;refine enter_call (codeAny_mono (call w s₀ s₁ mg mb fa o pm cd doc a vs ns G Y ho (fd_plain hd) hcd hmg hobj hints hlen hg) λr s' hq=>?_);obtain⟨rfl,h2,h3,h4⟩:=hq;exact{.inl {.bool true,.bool true,[],rfl,λ_=>rfl,.bool true,TL l _,λ_=>{List.Pairwise.nil,λ_ hm=>(nomatch hm)}},h2,h3,h4}
section
variable{prog:Program}{w:World}{A:Around}{E:Value->Shared->Prop}{s:Shared}{K:Frag}
end
end Att
namespace L2
open PySem PySem.Spec PyProof.Rows
theorem EU:∀{vs:List Value} {ns:List Int},IntsAre vs ns->Vals #[16] vs
 | _,_,.nil=>.nil
 | _,_,.cons n t h=>.cons {t,(rfl)} (EU h)
def Only(H:Hp):Prop:=∀b,H b=none∨∃o xs,H b=some (.frz o (.lst xs))
theorem YR{K:tP}{mg mb:Str->Option Value}{k:Nat}{s₁:Shared}{vs:List Value}{ns:List Int}
  (KX:K.In s₁.heap) (hns:s₁.heap.Ns mainGlobals mg) (hb:s₁.heap.Ns builtinsNs mb) (hbb:∀x:Str,x≠"__name__"->mb x=bootBuiltins x) (hlim:s₁.heap.NoLimit) (hg:s₁.gens = #[])
  (ha:s₁.heap.get? a=some { cls:=.type "list",data:=.seq vs.toArray }) (hi:IntsAre vs ns) (hl:ns.length<=sizeLine) (hr:Room k callerA)
  (F:∀base:Heap,K.In base->base.Ns mainGlobals mg->FnOk P w K mg base CX k fa fd [x] sp) (hbind:∀(s:Shared) (u:Value),BindsTo s fd {[u],[]} [(x,u)])
  (hsp:∀H:Hp,Only H->SqL K H a #[16]->sp [.ref a] H (λv _=>v=.bl true) λ_ _ _=>False)
  (hCX:∀H e s',CX [] H s₁ (λ_ _ _=>False) e s'->False) :
  codeAny (model P w) callerA (.call (.ref fa) {[.ref a],[]}) #[41] s₁:=by
 let rv:=EU hi;let lenV:=hi.length;let core:∀H:Hp,Only H->SqL K H a #[16]->HOk P w H s₁.heap->(∀b,H b≠none->b=a)->(H a≠none->K.lookup a=none)->
   codeAny (model P w) callerA (.call (.ref fa) {[.ref a],[]}) #[41] s₁:=by
  intro H hO hS hok hA hK;let base_of:∀{b:Addr} {o:Obj},s₁.heap.get? b=some o->H b=none->(IG s₁.heap H).get? b=some o:=λe n=>YW e n;let noA:∀{b:Addr} {o:Obj} {es:Array DictEntry} {ep:Nat},s₁.heap.get? b=some o->o.data=.dict es ep->H b=none:=fun {b o es ep} e d=>by
   cases q:H b with
   | none=>rfl
   | some u=>
    let e':b=a:=hA b (by rw[q];simp);subst e';rw[ha]at e;cases e;let d':Data.seq vs.toArray _=Data.dict es ep:=d;cases d'
  let nsK:∀{b:Addr} {m:Str->Option Value},s₁.heap.Ns b m->(IG s₁.heap H).Ns b m:=fun {b m} ⟨o,es,ep,e,d,r⟩=>{o,es,ep,base_of e (noA e d),d,r};let hKb:K.In (IG s₁.heap H):=λb o e=>base_of (KX b o e) (by
   cases q:H b with
   | none=>rfl
   | some u=>
    let e':b=a:=hA b (by rw[q];simp);subst e';rw[hK (by rw[q];simp)]at e;cases e)
  let hM:Mod K mg (IG s₁.heap H):={hKb,nsK hns,{mb,nsK hb,hbb},let ⟨mc,h1,h2⟩:=hlim;{mc,nsK h1,h2}};let e0:Env0 P w K mg (IG s₁.heap H) callerA [] s₁ H:={rfl,hM,λb o e=>of_hidT e,Nat.le_of_eq (UJ _ _),trivial,λb hb=>absurd (show b∈([]:List Addr)from hb) #[14],hok,.of_eq hg};refine codeAny_mono ((F _ hKb (nsK hns)).run callerA [] s₁ H {[.ref a],[]} [.ref a] [.ref a] _ _ hr e0 (hbind s₁ (.ref a)) (.cons rfl .nil) (hsp H hO hS)) λr s' h=>?_;cases r with
  | error e=>exact(hCX H e s' h).elim
  | ok fl=>
   cases fl with
   | next=>exact False.elim h
   | brk=>exact False.elim h
   | cont=>exact False.elim h
   | ret u=>
    obtain⟨v,H',os,bare,un,hok',r',q⟩:=h;let q':v=.bl true:=q;subst q';obtain rfl:u=Value.bool true:=r';refine{rfl,OldK.of_keep λb o e=>?_,os,bare};cases q:H b with
    | none=>exact un.keep b o e q (by intro z;exact absurd (show b∈([]:List Addr)from z) #[14]) #[14]
    | some u=>
     rcases hO b with z | ⟨ob,xs,z⟩
     .rw[q]at z;cases z
     .have z2:=un.frzs b ob _ z;obtain⟨e1,_⟩:=hok b _ z;obtain⟨e2,_⟩:=hok' b _ z2;rw[e]at e1;cases e1;exact e2
 cases hk:K.lookup a with
 | some o=>
  let e:=KX a o hk;rw[ha]at e;cases e;refine core (λ_=>none) (λ_=>.inl rfl) (.inr {_,vs.toArray,_,hk,rfl,rfl,rfl,by rw[mC,lenV];exact hl,by simpa using rv}) (λb u z=>by let z':(none:Option HO)=some u:=z;cases z') (λb z=>absurd rfl z) λz=>absurd rfl z
 | none=>
  refine core (λb=>if b=a then some (.frz { cls:=.type "list",data:=.seq vs.toArray } (.lst #[16]))else none) (λb=>?_) (.inl (.inr {{ cls:=.type "list",data:=.seq vs.toArray },tO rfl})) (λb u z=>?_) (λb z=>?_) λ_=>hk
  .by_cases hb:b=a
   .exact .inr {_,_,tO hb}
   .exact .inl (tN hb)
  .by_cases hb:b=a
   .have z':=(tO hb).symm.trans z;cases z';subst hb;exact{ha,by rw[mS];exact hl,vs,_,rv,ha}
   .have z':=(tN hb).symm.trans z;cases z'
  .by_cases hb:b=a
   .exact hb
   .exact absurd (tN hb) z
theorem walk_of{l:PySem.W.OpenLaw}{n k:Nat}{XP:(Str->Option Value)->Heap->Prop}{YP:World->Heap->Prop}{d:DefRec}{K:Params->tP}{CX:World->CXT}{sp:World->Sp}
  (hn:l.most=some n) (hn2:n<=sizeLine) (hdf:d.params.defaults=[]) (hr:Room k callerA)
  (hY:∀(w:World) (h:Heap),YP w h->(K w.params).In h)
  (F:∀(w:World) (mg:Str->Option Value) (fa:Addr) (h:Heap),(K w.params).In h->h.Ns mainGlobals mg->mg d.name=some (.ref fa)->
   ∃fd:FuncData,(∀(s:Shared) (u:Value),BindsTo s fd {[u],[]} [(x,u)])/\
    ∀base:Heap,(K w.params).In base->base.Ns mainGlobals mg->FnOk l.prog w (K w.params) mg base (CX w) k fa fd [x] (sp w))
  (hsp:∀(w:World) (H:Hp) (a:Addr) (ns:List Int),ns.length<=n->Only H->SqL (K w.params) H a #[16]->sp w [.ref a] H (λv _=>v=.bl true) λ_ _ _=>False)
  (hCX:∀(w:World) (H:Hp) (s:Shared) (e:Value) (s':Shared),CX w [] H s (λ_ _ _=>False) e s'->False) :
  PySem.W.WalkO q loose XP YP l.row.toRowW d [] (λf vs=>PySem.call f vs):=by
 refine Att.attach_call hn hdf λw s₀ s₁ mg mb fa o pm cd doc a vs ns G Y ho hd hcd hmg hobj hints hlen hg=>?_;let KX:=hY w _ Y;obtain⟨fd,hb,hF⟩:=F w mg fa _ KX G.T.g hmg;exact YR KX G.T.g G.T.b G.T.builtins G.T.nolimit hg hobj hints (nQ hlen hn2) hr hF hb (λH hO hS=>hsp w H a ns hlen hO hS) λH e s'=>hCX w H s₁ e s'
abbrev CX0:CXT:=λ_ _ _ _ _ _=>False
abbrev E0:XK:=λ_ _ _=>False
theorem vI :Passes CX0 X E0:=λ_ _ _ _ _ _ _ h=>h.elim
structure Fun(K:tP)(x qual:Str)(st:Stmt)(f:Addr)(fd:FuncData):Prop where
 ex:∃(oc:Value) (od:Option Addr) (kV doc pm:Value) (an:Option Addr) (cdv ct:Value) (osl:Array (Option Value)),
  fd=PySem.W.fnOf x qual (xC st) (vS st) (jI st) .none kV doc pm an cdv ct/\K.lookup f=some {oc,od,.func fd,osl}/\PySem.W.codeIn K cdv qual=true
 kp:PySem.W.keepIn K (.ref f)=true
section
variable{P:Program}{w:World}{K:tP}{mg:Str->Option Value}{base:Heap}
theorem Fun.ok{x qual:Str}{st:Stmt}{f:Addr}{fd:FuncData}{N ps:List Str}{k:Nat}{sp:Sp}(F:Fun K x qual st f fd)(S:FnScope N ps (jI st))(len:∀vs H Q E,sp vs H Q E->vs.length=ps.length)
  (hbody:∀(cdv:Value) (A:Around) (outer:List Env) (s:Shared) (H:Hp) (vs:List V) (Q:VK) (E:XK),Room k (A.deeper (envOfC qual (jI st) s.heap.objs.size f cdv))->sp vs H Q E->
   ∃t,PSs (xO CX0 P w K mg base N qual (jI st) f cdv A outer s H E).nox (vS st) t/\t { nx:=λ_ H'=>Q .non H',rt:=Q } (start N vs) H):FnOk P w K mg base CX0 (k+1) f fd ps sp:=by
 obtain⟨oc,od,kV,doc,pm,an,cdv,ct,osl,rfl,lk,hcd⟩:=F.ex;refine RO lk hcd S len λA outer s H vs Q E hr hsp=>?_;obtain⟨t,h,q⟩:=hbody cdv A outer s H vs Q E hr hsp;exact{t,h.nox,(q)}
theorem Fun.binds{x qual:Str}{st:Stmt}{f:Addr}{fd:FuncData}{ps:List Str}(F:Fun K x qual st f fd)
  (h:∀(kV doc pm:Value) (an:Option Addr) (cdv ct:Value) (us:List Value),us.length=ps.length->bindArgs #[68] {us,[]}=pure (ps.zip us)):Binds K fd ps []:=by
 obtain⟨oc,od,kV,doc,pm,an,cdv,ct,osl,rfl,lk,hcd⟩:=F.ex;exact .all (h kV doc pm an cdv ct)
theorem NN{x qual:Str}{st:Stmt}{f:Addr}{oc:Value}{od an:Option Addr}{osl:Array (Option Value)}{kV doc pm cdv ct:Value}(l:K.lookup f=some {oc,od,.func #[68],osl})
  (c:PySem.W.codeIn K cdv qual=true) (k:PySem.W.keepIn K (.ref f)=true):Fun K x qual st f #[68]:={{oc,od,kV,doc,pm,an,cdv,ct,osl,rfl,l,(c)},k}
end
section
variable{X:Cx}
theorem pv(i:Nat){x:Str}{pos:Pos}(hN:X.N[i]? = some x:=by rfl)(hv:Vis X.env.scope x:=by first | exact Or.inl rfl | exact Or.inr #[5] | exact Or.inr #[38])(hd:#[20]=false:=by decide)
  (hcd:(x==("__classdict__" :Str))=false:=by decide):PE X (.Name x pos) (jZ i):=pe_var hN hv hd hcd
end
theorem iteF{A B:Prop}(h:B):if false=true then A else B:=by
 rw[tN gY];exact h
theorem iteT{A B:Prop}(h:A):if true=true then A else B:=by
 rw[tO rfl];exact h
theorem wH{c A B:Prop} [Decidable c](h1:c->A)(h2:¬c->B):if c then A else B:=by
 by_cases h:c
 .rw[tO h];exact h1 h
 .rw[tN h];exact h2 h
def Same(H H':Hp):Prop:=∀b o,H b=some o->H' b=some o
theorem Same.refl(H:Hp):Same H H:=λ_ _ h=>h
theorem Same.trans(a:Same H H1)(b:Same H1 H2):Same H H2:=λc o h=>b c o (a c o h)
theorem Same.free(e:Same H H')(h:H' l=Option.none):H l=Option.none:=by
 cases q:H l with
 | none=>rfl
 | some o=>
  rw[e l o q]at h;cases h
end L2
namespace LwM
theorem vE{a b c:Int}(h:Int.gcd a b=1)(d:c∣b):Int.gcd a c=1:=by
 let:=Int.gcd_dvd_gcd_of_dvd_right a d;rw[h]at this;exact Nat.eq_one_of_dvd_one this
theorem zJ{a b c:Int}(h:Int.gcd a b=1)(d:c∣a):Int.gcd c b=1:=by
 rw[Int.gcd_comm]at h ⊢;exact vE h d
theorem add_low{t b o u:Int}(hb:0<b)(hu:0<u)(g1:Int.gcd t b=1)(g2:Int.gcd o u=1) :
  #[21]/(Int.gcd #[21] (Int.gcd b u):Int)=(t*u+o*b)/(Int.gcd (t*u+o*b) (b*u):Int)/\
  #[61]*(u/(Int.gcd #[21] (Int.gcd b u):Int))=(b*u)/(Int.gcd (t*u+o*b) (b*u):Int):=by
 let sp:0<Int.gcd b u:=Int.gcd_pos_of_ne_zero_left _ ∎;let c1:Int.gcd #[61] (u/(Int.gcd b u:Int))=1:=Int.gcd_ediv_gcd_ediv_gcd sp;let d1:(Int.gcd b u:Int)∣b:=mP ..;let d2:(Int.gcd b u:Int)∣u:=mI ..;let e1:(Int.gcd b u:Int)*#[61]=b:=Int.mul_ediv_cancel' d1;let e2:(Int.gcd b u:Int)*(u/(Int.gcd b u:Int))=u:=Int.mul_ediv_cancel' d2;let sp':(0:Int)<(Int.gcd b u:Int):=∎
 generalize hs:(Int.gcd b u:Int)=s at *;generalize hb':b/s=b' at *;generalize hu':u/s=u' at *;generalize hT:t*u'+o*b'=T at *;let v1:b'∣b:={s,by rw[tD];exact e1.symm};let v2:u'∣u:={s,by rw[tD];exact e2.symm};let x1:t*u+o*b=s*T:=by
  rw[<-hT,Int.mul_add,<-Int.mul_assoc,<-Int.mul_assoc,tD s t,tD s o,Int.mul_assoc,Int.mul_assoc,e1,e2]
 let x2:b*u=s*(b'*u):=by rw[<-Int.mul_assoc,e1]
 let x3:b'*u=s*b'*u':=by rw[tD s b',Int.mul_assoc,e2]
 let y1:Int.gcd T b'=1:=by
  rw[<-hT,Int.gcd_add_mul_right_left,Int.gcd_mul_right_left_of_gcd_eq_one (vE g1 v1),Int.gcd_comm];exact c1
 let y2:Int.gcd T u'=1:=by
  rw[<-hT,Int.add_comm,Int.gcd_add_mul_right_left,Int.gcd_mul_right_left_of_gcd_eq_one (vE g2 v2)];exact c1
 let z:Int.gcd T (b'*u)=Int.gcd T s:=by
  rw[x3,Int.gcd_mul_left_right_of_gcd_eq_one y2,Int.gcd_mul_left_right_of_gcd_eq_one y1]
 let g:(Int.gcd (t*u+o*b) (b*u):Int)=s*(Int.gcd T s:Int):=by
  rw[x1,x2,Int.gcd_mul_left,z,Int.natCast_mul,Int.natAbs_of_nonneg ∎]
 rw[g];refine{?_, ?_}
 .rw[x1,Int.mul_ediv_mul_of_pos _ _ sp']
 .rw[x2,Int.mul_ediv_mul_of_pos _ _ sp'];exact(Int.mul_ediv_assoc _ (Int.dvd_trans (mI ..) d2)).symm
theorem mul_low{t b o u:Int}(hb:0<b)(hu:0<u)(g1:Int.gcd t b=1)(g2:Int.gcd o u=1) :
  (t/(Int.gcd t u:Int))*(o/(Int.gcd o b:Int))=(t*o)/(Int.gcd (t*o) (b*u):Int)/\
  (b/(Int.gcd o b:Int))*(u/(Int.gcd t u:Int))=(b*u)/(Int.gcd (t*o) (b*u):Int):=by
 let fp:0<Int.gcd t u:=Int.gcd_pos_of_ne_zero_right _ ∎;let sp:0<Int.gcd o b:=Int.gcd_pos_of_ne_zero_right _ ∎;let c1:=Int.gcd_ediv_gcd_ediv_gcd fp;let c2:=Int.gcd_ediv_gcd_ediv_gcd sp;let e1:(Int.gcd t u:Int)*(t/(Int.gcd t u:Int))=t:=Int.mul_ediv_cancel' (mP ..);let e2:(Int.gcd t u:Int)*(u/(Int.gcd t u:Int))=u:=Int.mul_ediv_cancel' (mI ..);let e3:(Int.gcd o b:Int)*(o/(Int.gcd o b:Int))=o:=Int.mul_ediv_cancel' (mP ..);let e4:(Int.gcd o b:Int)*(b/(Int.gcd o b:Int))=b:=Int.mul_ediv_cancel' (mI ..);let fp':(0:Int)<(Int.gcd t u:Int):=∎
 let sp':(0:Int)<(Int.gcd o b:Int):=∎
 generalize (Int.gcd t u:Int)=f at *;generalize (Int.gcd o b:Int)=s at *;generalize t/f=t' at *;generalize u/f=u' at *;generalize o/s=o' at *;generalize b/s=b' at *;let v1:t'∣t:={f,by rw[tD];exact e1.symm};let v2:u'∣u:={f,by rw[tD];exact e2.symm};let v3:o'∣o:={s,by rw[tD];exact e3.symm};let v4:b'∣b:={s,by rw[tD];exact e4.symm};let x1:t*o=(f*s)*(t'*o'):=by
  rw[<-e1,<-e3];simp only[Int.mul_assoc,Int.mul_left_comm,tD]
 let x2:b*u=(f*s)*(b'*u'):=by
  rw[<-e2,<-e4];simp only[Int.mul_assoc,Int.mul_left_comm,tD]
 let n1:Int.gcd (t'*o') b'=1:=by
  rw[Int.gcd_mul_right_left_of_gcd_eq_one (zJ (vE g1 v4) v1)];exact c2
 let n2:Int.gcd (t'*o') u'=1:=by
  rw[Int.gcd_mul_right_left_of_gcd_eq_one c1];exact zJ (vE g2 v2) v3
 let n3:Int.gcd (t'*o') (b'*u')=1:=by
  rw[Int.gcd_mul_right_right_of_gcd_eq_one n1];exact n2
 let fs:(0:Int)<f*s:=tG fp' sp';let g:(Int.gcd (t*o) (b*u):Int)=f*s:=by
  rw[x1,x2,Int.gcd_mul_left,n3,Nat.mul_one,Int.natAbs_of_nonneg ∎]
 rw[g,x1,x2,Int.mul_ediv_cancel_left _ ∎,Int.mul_ediv_cancel_left _ ∎];exact{rfl,(rfl)}
theorem KZ(a b:Int):Int.gcd b (a%b)=Int.gcd a b:=by
 rw[Int.emod_def,tD b,Int.gcd_sub_mul_right_right,Int.gcd_comm]
theorem vF(a b:Int)(h:0<b):(1:Int)<=(Int.gcd a b:Int):=by
 let:0<Int.gcd a b:=Int.gcd_pos_of_ne_zero_right _ ∎
 ∎
theorem ZC(a b:Int)(h:0<b):(Int.gcd a b:Int)<=b:=Int.le_of_dvd h (mI a b)
theorem uO(t g:Int)(h:1<=g):(t/g).natAbs<=t.natAbs:=by
 rcases Int.lt_or_le t 0 with n | n
 .have h1:t/g<0:=Int.ediv_neg_of_neg_of_pos n ∎;let h2:t<=t/g:=by
   rw[Int.le_ediv_iff_mul_le ∎];let:=Int.mul_le_mul_of_nonpos_left (a:=t) (b:=g) (c:=1) ∎ h
   ∎
  ∎
 .have h1:0<=t/g:=Int.ediv_nonneg n ∎;let h2:t/g<=t:=Int.ediv_le_self g n
  ∎
theorem log2_lt{n:Nat}{k:Nat}(hk:0<k)(h:n<2^k):n.log2<k:=by
 by_cases e:n=0
 .subst e;simpa using hk
 .exact(Nat.log2_lt e).mpr h
end LwM
namespace Lw
open PySem PySem.Spec PyProof.Rows L2
inductive Kd where
 | non | bl | int | str | lst | tup
 deriving DecidableEq
def Kd.ty:Kd->String
 | .non=>"NoneType" | .bl=>"bool" | .int=>"int" | .str=>"str" | .lst=>"list" | .tup=>"tuple"
inductive KdOf(H:Hp):V->Kd->Prop where
 | non:KdOf H .non .non
 | bl (b:Bool):KdOf H (.bl b) .bl
 | int (i:Int):KdOf H (.int i) .int
 | str (x:Str):KdOf H (.str x) .str
 | lst {a:Addr} {xs:List V} (e:H a=some (.lst xs)):KdOf H (.ref a) .lst
 | tup {a:Addr} {xs:List V} (e:H a=some (.tup xs)):KdOf H (.ref a) .tup
theorem KdOf.ty{K:tP}{H:Hp}{v:V}{k:Kd}(h:KdOf H v k):TyOf K H v (.type k.ty):=by
 cases h with
 | non=>exact .non
 | bl b=>exact .bl b
 | int i=>exact .int i
 | str x=>exact .str x
 | lst e=>exact .lst e
 | tup e=>exact .tup e
def Kd.isInt:Kd->Bool
 | .int=>true | .bl=>true | _=>false
def Kd.isBool:Kd->Bool
 | .bl=>true | _=>false
def Isi(T:String)(f:Kd->Bool):Prop:=∀(K:tP) (k:Kd),PySem.W.kitOne K (.type k.ty) (.type T)=some (f k)
theorem isi_int:Isi "int" Kd.isInt:=λK k=>by cases k<;>rfl
theorem KU:Isi "bool" Kd.isBool:=λK k=>by cases k<;>rfl
section
variable{X:Cx}
def rIsi(T:String)(f:Kd->Bool):List V->Hp->VK->Prop:=λxs H Q=>match xs with
 | [x,y]=>y=.ty T/\∃k,KdOf H x k/\Q (.bl (f k)) H
 | _=>False
theorem call_isi{f:Kd->Bool}(hf:Isi T f):CallR X (.builtin "isinstance") (rIsi T f):=by
 intro ae s O H xs us Q I r h
 match xs,h with
 | [x,y],h=>
  obtain⟨rfl,k,ty,q⟩:=h;obtain⟨u,w',rfl,ru,rw'⟩:=OA r;cases (show w'=Value.type T from rw');exact UH I ru (ty.ty) (hf X.K k) λtk=>{.bl (f k),H,I.tok tk,rfl,q}
theorem MW{T:String}{f:Kd->Bool}{x:Str}{e:Expr}{te:TE}{p p2 pos:Pos}(hf:Isi T f)(hm:X.mg "isinstance" = none)(hm2:X.mg x=none)(hb:bootBuiltins x=some (.type T))(he:PE X e te)
  (hg:Gl X "isinstance":=by rfl) (hg2:Gl X x:=by rfl) (hn:x≠"__name__":=by decide) (hd:#[20]=false:=by decide)
  (hs:starEach [e,.Name x p2] X.env=(false,eval e X.env)::starEach [.Name x p2] X.env:=by rfl) (hs2:starEach [.Name x p2] X.env=(false,eval (.Name x p2) X.env)::starEach [] X.env:=by rfl)
  (hpl:(backTo pos (starEach [.Name x p2] X.env)).any (·.1)=false:=by rfl):PE X (.Call (.Name "isinstance" p) [e,.Name x p2] [] pos) (tCB (rIsi T f) (vY te (vY (tC (.ty T)) tNil))):=
 kL (X:=X) (p:=p) (pos:=pos) (call_isi hf) hg hm boot_isinstance (jA he (jA (PV (v:=.ty T) hg2 hm2 hb rfl hn hd) jD hs2) hs) #[0] #[0] hs hpl
theorem vL:∀{vs:List Value} {ns:List Int} {j:Nat} (_:IntsAre vs ns) (h:j<vs.length),∃n t,ns[j]? = some n/\vs[j]=.int n t
 | _,_,_,.nil,h=>absurd h (Nat.not_lt_zero _)
 | _,_,0,.cons n t _,_=>{n,t,rfl,(rfl)}
 | _,_,j+1,.cons _ _ r,h=>by
  obtain⟨n,t,e1,e2⟩:=vL (j:=j) r #[62];exact{n,t,by simpa using e1,by simpa using e2}
theorem vD:∀{vs:List Value} {ns:List Int},IntsAre vs ns->vs.length=ns.length
 | _,_,.nil=>rfl
 | _,_,.cons _ _ r=>by simp [vD r]
def CDivL(_ j:Int):Prop:=0<j/\j.natAbs<2^8000
theorem qV:OpR X (binaryOp .FloorDiv) (rI CDivL λi j=>.int (i/j)):=opI λi j _ _ _ _ _ hc q=>by
 refine floordiv_int (by let:=hc.1;∎) ?_ (.inl (PyProof.noPylong_of_log2 (gZ (LwM.log2_lt #[0] hc.2) #[0])));rw[Int.fdiv_eq_ediv_of_nonneg _ (Int.le_of_lt hc.1)];exact q
def CMulL(i j:Int):Prop:=i.natAbs<2^100000/\j.natAbs<2^100000
theorem qE:OpR X (binaryOp .Mult) (rI CMulL λi j=>.int (i*j)):=opI λ_ _ _ _ _ _ _ hc q=>mul_int q (IntMulOk.of_bits (nQ (PySem.intBits_le_iff.mpr hc.1) #[0]) (nQ (PySem.intBits_le_iff.mpr hc.2) #[0]))
end
theorem DY{A B:Prop}(h:c=true)(a:A):if c=true then A else B:=by
 rw[tO h];exact a
theorem yT{A B:Prop}(h:c=false)(b:B):if c=true then A else B:=by
 subst h;exact iteF b
theorem WD(J:L2.St->Hp->Prop)(h2:∀O H,J O H->k D O H)(h1:(∀O H,J O H->k D O H)->t { D with nx:=k D } O H):vB t k D O H:=h1 h2
def But(p:Addr)(H H':Hp):Prop:=∀c o,H c=some o->c≠p->H' c=some o
theorem But.refl(p:Addr)(H:Hp):But p H H:=λ_ _ h _=>h
theorem But.trans(a:But p H H1)(b:But p H1 H2):But p H H2:=λc o h n=>b c o (a c o h n) n
theorem But.upd(p:Addr)(H:Hp)(o:HO):But p H (upd H p o):=λc _ h n=>by
 rw[jG n];exact h
theorem But.of(s:Same H H'):But p H H':=λc o h _=>s c o h
theorem jO(o:HO)(n:H p=none):Same H (upd H p o):=λb q e=>by
 rw[jG (jS e n)];exact e
theorem fresh{H:Hp}{o:HO}{Q:VK}(h:∀p H',H p=none->Same H H'->H' p=some o->Q (.ref p) H'):∀p,H p=none->Q (.ref p) (upd H p o):=
 λp n=>h p _ n (jO o n) jE
def New(H:Hp)(o:HO)(Q:VK):Prop:=∀p H',H p=none->Same H H'->H' p=some o->Q (.ref p) H'
theorem New.at(h:New H o Q)(n:H p=none):Q (.ref p) (upd H p o):=h p _ n (jO o n) jE
section
variable{X:Cx}{es:List Expr}{t:TA}{pos:Pos}
def tTupF(t:TA):TE:=fun O H Q=>t O H λxs H1=>xs.length<=sizeLine/\New H1 (.tup xs) Q
def tLstF(t:TA):TE:=fun O H Q=>t O H λxs H1=>xs.length<=sizeLine/\New H1 (.lst xs) Q
theorem kN{x1}(h:PA X es t):PE X (.Tuple es x1 pos) (tTupF t):=by
 intro ae s O H Q I hq;refine wpAny_Tuple_spliced #[33];let hf:H1 s1.heap.objs.size=none:=I1.hok.fresh uP ;refine{.ref s1.heap.objs.size,upd H1 s1.heap.objs.size (.tup xs),I1.laid (t':=s1.toks) (λb u e=>gC _ e) uP ?_,rfl,q.at hf};exact{z,us,r,{_,gU _ rfl,rfl,_,rfl},.of (gU _ rfl) rfl}
theorem vN(h:PA X es t):PE X (.List es pos) (tLstF t):=by
 intro ae s O H Q I hq;refine wpAny_List_spliced #[33];let hf:H1 s1.heap.objs.size=none:=I1.hok.fresh uP ;refine{.ref s1.heap.objs.size,upd H1 s1.heap.objs.size (.lst xs),I1.laid (t':=s1.toks) (λb u e=>gC _ e) uP ?_,rfl,q.at hf};exact{z,us,0,r,gU _ rfl}
theorem opr_of{f:Value->Value->Sem Value}(h:OpR X f r)(i:∀x y H Q,r' x y H Q->r x y H Q):OpR X f r':=
 λae s O H x y v u Q I rx ry q=>h ae s O H x y v u Q I rx ry (i x y H Q q)
theorem callr_of{r r':List V->Hp->VK->Prop}(h:CallR X f r)(i:∀xs H Q,r' xs H Q->r xs H Q):CallR X f r':=
 λae s O H xs us Q I rv q=>h ae s O H xs us Q I rv (i xs H Q q)
theorem slr_of{r r':V->Option Int->Option Int->Hp->VK->Prop}(h:SlR X r)(i:∀x a b H Q,r' x a b H Q->r x a b H Q):SlR X r':=
 λae s O H x v vl vu lo hi sl Q I rx hs pl pu q=>h ae s O H x v vl vu lo hi sl Q I rx hs pl pu (i x lo hi H Q q)
def rListF(K:tP):List V->Hp->VK->Prop:=λxs H Q=>∃p ys,xs=[.ref p]/\(SqL K H p ys∨SqT K H p ys)/\New H (.lst ys) Q
theorem EK:CallR X (.type "list") (rListF X.K):=callr_of IM λxs H Q ⟨p,ys,e,h,q⟩=>{p,ys,e,h,λl n=>q.at n}
def rCatF:R2:=λx y H Q=>∃l b xs zs,x=.ref l/\y=.ref b/\H l=some (.lst xs)/\H b=some (.lst zs)/\xs.length+zs.length<=sizeLine/\New H (.lst (xs++zs)) Q
theorem PY:OpR X (binaryOp .Add) rCatF:=opr_of op_cat λx y H Q ⟨l,b,xs,zs,e1,e2,h1,h2,h3,q⟩=>{l,b,xs,zs,e1,e2,h1,h2,h3,λp n=>q.at n}
def rSlLF(K:tP):V->Option Int->Option Int->Hp->VK->Prop:=λx lo hi H Q=>∃a xs,x=.ref a/\SqL K H a xs/\New H (.lst (NR xs lo hi)) Q
theorem WA:SlR X (rSlLF X.K):=slr_of sl_list λx a b H Q ⟨p,xs,e,h1,q⟩=>{p,xs,e,h1,λp n=>q.at n}
end
section
variable{prog:Program}{w:World}{A:Around}{R:Result->Shared->Prop}{s:Shared}
theorem AG(I:Nat->Shared->Prop)
  (turn:∀n s,I n s->wpAny #[3] A (pyNext it) (λr s₁=>match r with
   | none=>R (.ok .next) s₁
   | some v=>wpAny #[3] A (letOwnedTupleGo target it v) (λ_ s₁'=>wpAny #[3] A (assign target env v) (λ_ s₂=>wpAny #[3] A (eval elt env) (λx s₃=>
     wpAny #[3] A (call (.builtin "list.append") [acc,x]) (λ_ s₄=>∃m,m<n/\I m s₄) (notedBy #[3] A env λe s'=>R (.error e) s') s₃)
     (notedBy #[3] A env λe s'=>R (.error e) s') s₂) (notedBy #[3] A env λe s'=>R (.error e) s') s₁') (notedBy #[3] A env λe s'=>R (.error e) s') s₁) (notedBy #[3] A env λe s'=>R (.error e) s') s)
  (n:Nat) (h:I n s) :
  codeAny #[3] A (.compLoop (.ListComp elt [{target,iter,[],0}] scope pos) 0 it acc env) R s:=by
 refine codeAny_loop rfl I (λn s hI=>?_) n h;show wpAny _ _ ((compTurn (.ListComp elt [{target,iter,[],0}] scope pos) 0 it acc env).onRaise (λx=>do noteFrame x env;theTreesLotGoes x)) _ _ s;refine wpAny_noted ?_;rw[compTurn_list1];refine tK #[63];cases r with
 | none=>exact tL h₁
 | some v=>
  refine tK (tM h₁ (λ_ s₁' h₁'=>?_) λ_ _ h'=>h');exact tK (tM h₁' (λ_ s₂ h₂=>tK (tK (tM h₂ (λx s₃ h₃=>tK (tM h₃
   (λ_ s₄ h₄=>tL (tL {rfl,(h₄)})) λ_ _ h'=>h')) λ_ _ h'=>h'))) λ_ _ h'=>h')
end
section
variable{X:Cx}
end
mutual
inductive DecV(H:Hp):V->PyData->Prop where
 | non:DecV H .non .none
 | bl (b:Bool):DecV H (.bl b) (.bool b)
 | int (i:Int):DecV H (.int i) (.int i)
 | str (x:Str):DecV H (.str x) (.str x)
 | lst {a:Addr} {xs:List V} {ds:List PyData} (e:H a=some (.lst xs)) (h:DecVs H xs ds):DecV H (.ref a) (.list ds)
 | tup {a:Addr} {xs:List V} {ds:List PyData} (e:H a=some (.tup xs)) (h:DecVs H xs ds):DecV H (.ref a) (.tuple ds)
inductive DecVs(H:Hp):List V->List PyData->Prop where
 | nil:DecVs H [] []
 | cons {x:V} {d:PyData} {xs:List V} {ds:List PyData} (h:DecV H x d) (t:DecVs H xs ds):DecVs H (x::xs) (d::ds)
end
section
variable{X:Cx}
mutual
theorem DecV.reads{s:Shared}(I:Inv X ae O H s):∀{x:V} {d:PyData} {u:Value},DecV H x d->RelV x u->∃as,Reads s.heap u d as
 | _,_,_,.non,r=>by cases r;exact{_,.none}
 | _,_,_,.bl b,r=>by cases r;exact{_,.bool b}
 | _,_,_,.int i,r=>by obtain⟨t,rfl⟩:=r;exact{_,.int i t}
 | _,_,_,.str x,r=>by obtain⟨t,rfl⟩:=r;exact{_,.str x t}
 | _,_,_,.lst e h,r=>by
  cases r;obtain⟨its,rv,⟨o,n,ho,hc,_,hd⟩,_⟩:=I.list (SqL.of e);obtain⟨as,ra⟩:=DecVs.reads I h rv;exact{_,.list ho hc hd (by simpa using ra)}
 | _,_,_,.tup e h,r=>by
  cases r;obtain⟨its,rv,⟨o,ho,hc,n,hd⟩,_⟩:=I.tuple (SqT.of e);obtain⟨as,ra⟩:=DecVs.reads I h rv;exact{_,.tuple ho hc hd (by simpa using ra)}
theorem DecVs.reads{s:Shared}(I:Inv X ae O H s):∀{xs:List V} {ds:List PyData} {us:List Value},DecVs H xs ds->Vals xs us->∃as,ReadsAll s.heap us ds as
 | _,_,_,.nil,r=>by cases r;exact{_,.nil}
 | _,_,_,.cons h t,r=>by
  cases r with
  | cons q r=>
   obtain⟨as,ra⟩:=DecV.reads I h q;obtain⟨bs,rb⟩:=DecVs.reads I t r;exact{_,.cons ra rb}
end
def DataOk(d:PyData):Prop:=d.canLay0=true/\d.depth<=60
def rEqD:R2:=λx y H Q=>∃da db,DecV H x da/\DecV H y db/\DataOk da/\DataOk db/\Q (.bl (PyData.eqv da db)) H
def rNeD:R2:=λx y H Q=>∃da db,DecV H x da/\DecV H y db/\DataOk da/\DataOk db/\Q (.bl (!PyData.eqv da db)) H
theorem op_eqD(hu:X.A.units+64<cLine):OpR X (compareOp .Eq) rEqD:=by
 intro ae s O H x y v u Q I rx ry h;obtain⟨da,db,d1,d2,o1,o2,q⟩:=h;obtain⟨as,ra⟩:=d1.reads I rx;obtain⟨bs,rb⟩:=d2.reads I ry;exact SeqAt.rcAt_reads ra rb o1.1 o2.1 (by let:=o1.2;∎) _ _ _ _ {.bl _,H,I,rfl,q}
theorem XG(hu:X.A.units+64<cLine):OpR X (compareOp .NotEq) rNeD:=by
 intro ae s O H x y v u Q I rx ry h;obtain⟨da,db,d1,d2,o1,o2,q⟩:=h;obtain⟨as,ra⟩:=d1.reads I rx;obtain⟨bs,rb⟩:=d2.reads I ry;exact SeqAt.rcNeAt_reads ra rb o1.1 o2.1 (by let:=o1.2;∎) _ _ _ _ {.bl _,H,I,rfl,q}
end
def CompW(xs:List V)(Pv:Nat->List V->Hp->Prop)(i m:Nat)(ys:List V)(H:Hp):Prop:=m=xs.length-i/\i<=xs.length/\ys.length=i/\Pv i ys H
theorem qM{xs:List V}{Pv:Nat->List V->Hp->Prop}{i m:Nat}{ys:List V}(hx:xs[i]? = some x)(hm:m=xs.length-i)(hl:ys.length=i)(e:H5 p=some (.lst ys))(h:Pv (i+1) (ys++[y]) #[42]) :
  H5 p=some (.lst ys)/\∃m',m'<m/\CompW xs Pv (i+1) m' (ys++[y]) #[42]:=by
 let hi:i<xs.length:=(uW.mp hx).1;exact{e,xs.length-(i+1),∎,rfl,∎,by simp [hl],h}
section
end
def jL(X:Cx)(N:List Str)(scope:Scope)(cl:List (Str×Addr))(C:Addr)(fp:List Addr)(s2:Shared)(H2:Hp):Cx:=
 { X with N:=N,s₀:=s2,H₀:=H2,env:=compEnvC scope cl C X.env,outer:=X.stack,stack:=X.stack,ex:=fp,fn:=λ_=>false,pn:=[],xe:=λ_ _=>False }
def Keep(O τ:L2.St):Prop:=∀(i:Nat) (v:V),O[i]? = some (some v)->τ[i]? = some (some v)
theorem uL :Keep (none::r) (x::r):=λi v h=>by
 cases i with
 | zero=>cases h
 | succ j=>exact h
theorem FK :Keep (none::none::r) (x::y::r):=λi v h=>by
 cases i with
 | zero=>cases h
 | succ j=>cases j with
  | zero=>cases h
  | succ k=>exact h
def CompGoF(O0:L2.St)(J:It)(g:TG)(te:TE)(Q:VK)(p:Addr)(H':Hp):Prop:=
 ∃W:Nat->Nat->List V->Hp->Prop,(∃m,W 0 m [] H')/\∀i m ys H2,W i m ys H2->H2 p=some (.lst ys)/\ys.length<sizeLine/\
  ((J.stop i H2/\Q (.ref p) H2)∨(J.go i H2/\∀x H3,J.yld i H2 x H3->g x O0 H3 fun O4 H4=>Keep O0 O4/\te O4 H4 λy H5=>H5 p=some (.lst ys)/\∃m',m'<m/\W (i+1) m' (ys++[y]) #[42]))
def MM(own:Nat)(idx:List Nat)(wi:TI)(g:TG)(te:TE):TE:=fun O H Q=>wi O H λJ H1=>∀p H',H1 p=none->Same H1 H'->H' p=some (.lst [])->
 CompGoF #[48] J g te Q p H'
section
variable{X:Cx}
theorem NQ{ae:List #[13]}{O:L2.St}{H1:Hp}{s2:Shared}{N:List Str}{scope:Scope}{cl:List (Str×Addr)}{C:Addr}{fp:List Addr}(I:Inv X ae O H1 s2)(hk:scope.kind=.function)
  (hsub:∀x c,cl.lookup x=some c->X.env.cells.lookup x=some c) (hhas:∀x,(#[12].names.lookup x=some .cell∨#[12].names.lookup x=some .free)->∃c,cl.lookup x=some c)
  (hC:s2.heap.objs.size<=C) (hf:∀b∈fp,FpOk X ae H1 b) (hlt:∀b∈fp,b<s2.heap.objs.size):(jL X N scope cl C fp s2 H1).Ok where
 mod:=I.ok.mod
 kind:=hk
 glob:=I.ok.glob
 blt:=I.ok.blt
 above:=hC
 inj:=λx y c h1 h2=>I.ok.inj x y c (hsub x c h1) (hsub y c h2)
 has:=hhas
 cab:=λx c h _=>by cases h
 hd:=I.ok.hd
 frames:=I.ok.frames
 stk:=.inl rfl
 exf:=λb hb=>{nS (gZ (hlt b hb) hC),λx c h=>(hf b hb).2.2.2.2.1 x c (hsub x c h)}
 bs:=I.bs
 bsz:=nQ I.ok.bsz I.sz
 noex:=λb o e hb=>by
  rcases(hf b hb).2.2.2.1 with z | z
  .exact I.ok.noex b o e z
  .exact absurd (gZ (nP e) (nQ I.ok.bsz z)) (nJ _)
 exfs:=λb hb z=>(nI.mp (I.stkSub b z)).elim (hf b hb).2.1 (hf b hb).2.2.1
 funs:=I.stack
 frf:=I.stkFree
structure CmpH(X:Cx)(own:Nat)(idx:List Nat)(N:List Str)(scope:Scope)(cl:List (Str×Addr)):Prop where
 k:scope.kind=.function
 clos:closureFor scope X.env=pure cl
 cell:∀x∈scope.names,x.2≠.cell
 names:∀x∈scope.names,x.2=.local->scope.names.lookup x.1=some .local
 sub:∀x c,cl.lookup x=some c->X.env.cells.lookup x=some c
 has:∀x,(#[12].names.lookup x=some .cell∨#[12].names.lookup x=some .free)->∃c,cl.lookup x=some c
 len:N.length=own+idx.length
 at':∀(k j:Nat) (x:Str),idx[k]? = some j->N[own+k]? = some x->X.N[j]? = some x/\X.env.kindOf x=some .cell/\#[12].names.lookup x=some .cell/\X.env.scope.names.lookup x=some .cell
def CGo(Y:Cx)(O0:L2.St)(J:It)(B:Value->(Shared->Prop)->Shared->Prop)(Qn:Hp->Prop)(H':Hp):Prop:=
 ∃W:Nat->Nat->Hp->Prop,(∃m,W 0 m H')/\∀i m H2,W i m H2->(J.stop i H2/\Qn H2)∨(J.go i H2/\∀x H3,J.yld i H2 x H3->∀pns u s5 K,Inv Y pns O0 H3 s5->RelV x u->
  (∀s8 O6 H8 m',Inv Y pns O6 H8 s8->Keep O0 O6->m'<m->W (i+1) m' H8->K s8)->B u K s5)
def LeaveOk(X:Cx)(ae:List #[13])(O:L2.St)(use:Option (Value->Sem Unit))(Qc:Value->Shared->Prop)(Qn:Addr->Hp->Prop):Prop:=
 ∀N scope cl C fp s2 H1 O0 H3 s4,Inv X ae O H1 s2->(∀b∈fp,FpOk X ae H1 b)->C=s2.heap.objs.size+1->Inv (jL X N scope cl C fp s2 H1) [] O0 H3 s4->Qn s2.heap.objs.size H3->
  compPost #[1] X.A X.xe use Qc (.ref s2.heap.objs.size) C (.ok .next) s4
theorem LN{N scope cl C fp s2 H1 O0 H3 s4}(I2:Inv X ae O H1 s2)(f2:∀b∈fp,FpOk X ae H1 b)(hC:C=s2.heap.objs.size+1)(I5:Inv (jL X N scope cl C fp s2 H1) [] O0 H3 s4) :
  (∃m,s4.heap.Ns C m)/\Inv X ae O H3 s4/\(∀b,b<s2.heap.objs.size->b≠C)/\∀O' s5,Inv X ae O' H3 s5->∀h',(∀b o,b≠C->s5.heap.get? b=some o->h'.get? b=some o)->Inv X ae O' H3 { s5 with heap:=h' } :=by
 let lt:∀b,b<s2.heap.objs.size->b≠C:=λb hb=>∎
 refine{I5.loc.imp λ_ h=>h.1,I2.call' (ch:=fp) (s':=s4) I5.os I5.base I5.hok I5.bare (λb hb=>{(f2 b hb).2.2.2.1,(f2 b hb).2.1,(f2 b hb).2.2.2.2.1,(f2 b hb).2.2.2.2.2}),lt,fun O' s5 I6 h' k=>?_};refine I6.turned (it:=C) (t':=s5.toks) k I5.free (Ne.symm (lt _ I2.lt)) (.inr (nQ I2.sz (hC▸Nat.le_succ _))) (λx c hc=>?_) (λp hp=>lt _ (nP (I2.pin p hp).1));obtain⟨v,hv⟩:=I2.cell x c hc;exact lt _ hv.lt
theorem YN :LeaveOk X ae O none #[60] (λp H=>Q (.ref p) H):=by
 intro N scope cl C fp s2 H1 O0 H3 s4 I2 f2 hC I5 qn;obtain⟨⟨m,hm⟩,IX,_,k⟩:=LN I2 f2 hC I5;exact{m,hm,λh' sb=>{.ref s2.heap.objs.size,H3,k _ _ IX h' (λb o hb e=>sb.extBut b o hb e),rfl,qn}}
theorem YM{O:L2.St}{i:Nat}{Qx:L2.St->Hp->Prop}(hN:X.N.Nodup)(hi:X.N[i]? = some y)(hx:Loc X.env.scope y)(hfn:X.fn y=true∨X.env.scope.names.lookup y=some .local) :
  LeaveOk X ae O (some (assign (.Name y py) X.env)) (λ_ s'=>∃O' H',Inv X ae O' H' s'/\Qx O' H') (λp H=>Qx (O.set i (some (.ref p))) H):=by
 intro N scope cl C fp s2 H1 O0 H3 s4 I2 f2 hC I5 qn;obtain⟨⟨m,hm⟩,IX,lt,k⟩:=LN I2 f2 hC I5;show wpAny _ X.A (assign (.Name y py) X.env (.ref s2.heap.objs.size)) _ _ s4;refine wpAny_assign_Name (EY IX hN hi hx (v:=.ref s2.heap.objs.size) rfl (λs5 I6 ⟨a,sb,ha⟩=>?_) hfn);let aC:a≠C:=by
  rcases ha with ha | ha
  .rw[ha];exact lt _ I2.lt
  .obtain⟨v,hv⟩:=I2.cell y a ha;exact lt _ hv.lt
 exact{m,hm.sameBut sb (Ne.symm aC),λh' sb'=>{_,H3,k _ _ I6 h' (λb o hb e=>sb'.extBut b o hb e),qn}}
theorem wG{own:Nat}{idx:List Nat}{N:List Str}{scope:Scope}{cl:List (Str×Addr)}(M:CmpH X own idx N scope cl)(hc:X.calm=true){e target iter:Expr}{gs:List Comprehension}{ifs:List Expr}{pos:Pos}{T:String}{data:Data}{u0:HO}{wi:TI}{G:It->Addr->Hp->Prop}
  {B:Env->Addr->(Result->Shared->Prop)->Value->(Shared->Prop)->Shared->Prop} {use:Option (Value->Sem Unit)} {Qc:Value->Shared->Prop} {Qn:Addr->Hp->Prop} {ae:List #[13]} {s:Shared} {O:L2.St} {H:Hp} (I:Inv X ae O H s) (hi:PI X target iter wi)
  (h:wi O H λJ H1=>∀p H',H1 p=none->Same H1 H'->H' p=some u0->G J p H') (hcl:clausesOf e={target,iter,ifs,(0)}::gs) (hs:∀x,foldedSetIterable iter X.env x=pure x) (hd:sizeOk data) (hfr:({ cls:=.type T,dict:=none,data:=data } :Obj).isFreed=false)
  (hnew:∀s2 H1 h,Inv X ae O H1 s2->h.get? s2.heap.objs.size=some { cls:=.type T,dict:=none,data:=data }->ObjOk X.prog X.w (upd H1 s2.heap.objs.size u0) h s2.heap.objs.size u0)
  (hloop:∀{it:Value} {a:Addr} {env:Env} {R:Result->Shared->Prop} {s:Shared} (V:Nat->Shared->Prop),(∀n s,V n s->wpAny #[1] X.A (pyNext it) (λr s₁=>match r with
   | none=>R (.ok .next) s₁
   | some v=>wpAny #[1] X.A (letOwnedTupleGo target it v) (λ_ s₁'=>B env a R v (λs₄=>∃m,m<n/\V m s₄) s₁') (notedBy #[1] X.A env λe s'=>R (.error e) s') s₁) (notedBy #[1] X.A env λe s'=>R (.error e) s') s)->
   ∀n,V n s->codeAny #[1] X.A (.compLoop e 0 it (.ref a) env) R s)
  (hstart:∀{it acc:Value} {env:Env} {R:Result->Shared->Prop} {s:Shared},codeAny #[1] X.A (.compLoop e 0 it acc env) R s->wpAny #[1] X.A (pyIter it) (λit' s'=>codeAny #[1] X.A (.compLoop e 0 it' acc env) R s') (notedBy #[1] X.A env λx s'=>R (.error x) s') s->codeAny #[1] X.A (.compStart e 0 it acc env) R s)
  (hG:∀C fp s2 H2 J p H' R,G J p H'->CGo #[7] #[48] J (B (compEnvC scope cl C X.env) p R) (Qn p) H')
  (hL:LeaveOk X ae O use Qc Qn):wpAny #[1] X.A (comprehension e scope X.env pos (newObj (.type T) data) false (eval iter X.env) use) Qc X.xe s:=by
 refine wpAny_comprehension_free hcl hs M.clos M.k M.names (thn (hi ae s O H _ I h) λv s1 h1=>thn h1 λitv s2 h2=>?_);obtain⟨it,fp,tn,J,H1,e,I2,T,st2,f2,hR⟩:=h2;subst e;let hlt:∀b∈fp,b<s2.heap.objs.size:=λb hb=>by
  obtain⟨o,ho,_⟩:=T.obj 0 _ st2 b hb;exact nP ho
 refine wpAny_newObj_type (wpAny_newFunctionEnv M.cell (by intro y hy;simp at hy) (λh₁ hns₁ hsb₁=>?_) M.k) hd;dsimp only at hns₁ hsb₁ ⊢;generalize hHH:s2.heap.push _=HH at hns₁ hsb₁ ⊢;let hCe:HH.objs.size=s2.heap.objs.size+1:=by rw[<-hHH,nG]
 let hDC:s2.heap.objs.size≠HH.objs.size:=by rw[hCe];exact nS (mQ _)
 let hCle:s2.heap.objs.size<=HH.objs.size:=by rw[hCe];exact Nat.le_succ _
 let old:∀b o,s2.heap.get? b=some o->h₁.get? b=some o:=λb o e=>hsb₁.extBut b o (by rw[hCe];exact nS (Nat.lt_succ_of_lt (nP e))) (gC _ (hHH▸gC _ e));let hD:=hsb₁.extBut _ _ hDC (gC _ (hHH▸gU _ hfr));let nD:H1 s2.heap.objs.size=none:=I2.hok.fresh uP ;obtain⟨W,⟨m0,w0⟩,turn⟩:=hG HH.objs.size fp s2 H1 J _ _ (compPost #[1] X.A X.xe use Qc (.ref s2.heap.objs.size) HH.objs.size) (hR s2.heap.objs.size _ nD (jO u0 nD) jE);generalize hO:(List.replicate own none++idx.map λj=>(O[j]?).getD none:L2.St)=O0 at turn;let lO:O0.length=N.length:=by rw[<-hO,List.length_append,gI,mS,M.len]
 let ok:=NQ (N:=N) (cl:=cl) (C:=HH.objs.size) I2 M.k M.sub M.has hCle f2 hlt;let oldC:∀c v,s2.heap.IsCell c v->h₁.IsCell c v:=λc v ⟨o,ho,hd⟩=>{o,old c o ho,hd};let I4:Inv #[64] [] O0 (upd H1 s2.heap.objs.size u0) { s2 with heap:=h₁,toks:=s2.toks+([]:List (Str×Value)).length } :=by
  refine{ok,rfl,I2.bare,Un.laid old uP nD,{_,hns₁,λi x v e1 e2 _=>?_},(λx c z=>?_), ?_,(λx c z=>?_),(λp hp=>nomatch hp),I2.hok.laid old uP (hnew _ _ _ I2 hD),lO}
  .
   rw[<-hO]at e2;by_cases hi':i<own
   .rw[uX (by rw[gI];exact hi'),List.getElem?_replicate]at e2;split at e2<;>cases e2
   .obtain⟨k,rfl⟩:∃k,i=own+k:={i-own,∎};rw[uU (by rw[gI];∎),gI,Nat.add_sub_cancel_left,mB]at e2;cases ej:idx[k]? with
    | none=>rw[ej]at e2;cases e2
    | some j=>
     rw[ej,Option.map_some]at e2;let e2:=Option.some.inj e2;obtain⟨n1,n2,n3,n4⟩:=M.at' k j x ej e1;let e3:O[j]? = some (some v):=by
      cases q:O[j]? with
      | none=>rw[q]at e2;cases e2
      | some y=>rw[q,Option.getD_some]at e2;rw[e2]
     obtain⟨m,hm,hl⟩:=I2.loc;obtain⟨u,ru,lk⟩:=hl j x v n1 e3 (.inr (.inl n4));refine{u,ru, ?_};rcases lk with⟨kl,_⟩ | ⟨_,c,hcl,hic⟩
     .rw[n2]at kl;cases kl
     .obtain⟨c',hc'⟩:=M.has x (.inl n3);let:c'=c:=Option.some.inj ((M.sub x c' hc').symm.trans hcl);subst this;exact .inr {.inl n3,c',hc',oldC _ _ hic}
  .obtain⟨v,hv⟩:=I2.cell x c (M.sub x c z);exact{v,oldC _ _ hv}
  .show(upd H1 s2.heap.objs.size u0) HH.objs.size=none;rw[jG (Ne.symm hDC)];exact I2.hok.fresh hCle
  .obtain⟨v,hv⟩:=I2.cell x c (M.sub x c z);show(upd H1 s2.heap.objs.size u0) c=none;rw[jG (nS hv.lt)];exact I2.freeC x c (M.sub x c z)
 let stat:∀{H':Hp},(∀b∈fp,H' b=none)->∀b∈fp,FpOk #[64] [] H' b:=λhn b hb=>
  {hn b hb,(ok.exf b hb).1,ok.exfs b hb,.inl hb,(ok.exf b hb).2,λp hp=>nomatch hp}
 have st4:tn 0 h₁:=T.keep _ _ _ st2 λb _ o e=>old b o e;have fr4:∀b∈fp,(upd H1 s2.heap.objs.size u0) b=none:=λb hb=>by
  rw[jG (nS (hlt b hb))];exact(f2 b hb).1
 let loop:=hloop (it:=.ref it) (a:=s2.heap.objs.size) (env:=compEnvC scope cl HH.objs.size X.env) (R:=compPost #[1] X.A X.xe use Qc (.ref s2.heap.objs.size) HH.objs.size) (s:={ s2 with heap:=h₁,toks:=s2.toks+([]:List (Str×Value)).length })
  (λn s'=>∃i H',Inv #[64] [] O0 H' s'/\tn i s'.heap/\(∀b∈fp,H' b=none)/\W i n H') (by
  rintro n s3 ⟨i,H3,I3,st3,fr3,w3⟩;rcases turn i n H3 w3 with⟨stop,qn⟩ | ⟨go,step⟩
  .refine thn (T.done #[64] rfl rfl rfl hc i [] s3 _ H3 _ I3 (stat fr3) st3 stop) λr s4 ⟨hr,I5⟩=>?_;subst hr;exact hL _ _ _ _ _ _ _ _ _ _ I2 f2 hCe I5 qn
  .refine tM (T.item #[64] rfl rfl rfl hc i [] s3 _ H3 (λ_ _=>False) I3 (stat fr3) st3 go) (λr s4 ⟨u,hr,h4⟩=>?_) λ_ _ z=>z.elim;subst hr;refine tM h4 (λ_ s5 ⟨x,H5,I5,r5,y5,st5,fr5⟩=>?_) λ_ _ z=>z.elim;refine step x H5 y5 _ u s5 _ (I5.pinned (stat fr5) (T.obj _ _ st5)) r5 λs8 O6 H8 m' I8 kp6 hm' w7=>?_;refine{m',hm',i+1,_,(I8.unpinned).weak (by rw[lO,I8.len];rfl) kp6,T.keep _ _ _ st5 λb hb o e=>(I8.pin (b,o) (gH _ (gH _ (yY hb e)))).1,λb hb=>?_,w7};obtain⟨o,e,d⟩:=T.obj _ _ st5 b hb;exact(I8.pin (b,o) (gH _ (gH _ (yY hb e)))).2.1) m0 {0,_,I4,st4,fr4,w0}
 exact hstart loop (T.self _ 0 _ _ _ st4 loop)
theorem HY(s2:Shared)(H1:Hp)(h:Heap)(_:Inv X ae O H1 s2)(hD:h.get? s2.heap.objs.size=some { cls:=.type "list",dict:=none,data:=.seq ([]:List Value).toArray }):ObjOk X.prog X.w (upd H1 s2.heap.objs.size (.lst [])) h s2.heap.objs.size (.lst []):=
 {by show 0<=sizeLine;decide,[],0,.nil,hD}
abbrev BF(X:Cx)(target elt:Expr)(env:Env)(a:Addr)(R:Result->Shared->Prop)(v:Value)(K:Shared->Prop)(s:Shared):Prop:=
 wpAny #[1] X.A (assign target env v) (λ_ s₂=>wpAny #[1] X.A (eval elt env) (λx s₃=>
  wpAny #[1] X.A (call (.builtin "list.append") [.ref a,x]) (λ_ s₄=>K s₄) (notedBy #[1] X.A env λe s'=>R (.error e) s') s₃)
  (notedBy #[1] X.A env λe s'=>R (.error e) s') s₂) (notedBy #[1] X.A env λe s'=>R (.error e) s') s
theorem cgoF(hg:∀C fp s2 H2,PG #[7] target g)(he:∀C fp s2 H2,PE #[7] elt te)(C:Addr)(fp:List Addr)(s2:Shared)(H2:Hp)(J:It)(p:Addr)(H':Hp)(R:Result->Shared->Prop)
  (h:CompGoF O0 J g te Q p H'):CGo #[7] O0 J (BF X target elt (compEnvC scope cl C X.env) p R) (λH=>Q (.ref p) H) H':=by
 obtain⟨W,⟨m0,w0⟩,turn⟩:=h;refine{λi m H=>∃ys,W i m ys H,{m0,[],w0}, ?_};rintro i m H3 ⟨ys,w⟩;obtain⟨hp3,hz3,hw⟩:=turn i m ys H3 w;refine hw.imp id λ⟨go,step⟩=>{go,λx H5 y5 pns u s5 K I5 r5 hK=>?_};refine tM (hg _ _ _ _ _ s5 _ H5 x u _ I5 r5 (step x H5 y5)) (λ_ s6 ⟨O6,H6,I6,kp6,q6⟩=>?_) λ_ _ z=>z.elim;refine tM (he _ _ _ _ _ s6 O6 H6 _ I6 q6) (λy s7 ⟨yv,H7,I7,r7,e7,m',hm',w7⟩=>?_) λ_ _ z=>z.elim;refine tM #[44] (λ_ s8 ⟨_,H8,I8,_,q8⟩=>?_) λ_ _ z=>z.elim;subst q8;exact hK _ _ _ m' I8 kp6 hm' {_,w7}
theorem xV{own:Nat}{idx:List Nat}{N:List Str}{scope:Scope}{cl:List (Str×Addr)}(hc:X.calm=true)
  (hk:scope.kind=.function) (hclos:closureFor scope X.env=pure cl) (hcell:∀x∈scope.names,x.2≠.cell) (hnames:∀x∈scope.names,x.2=.local->scope.names.lookup x.1=some .local)
  (hsub:∀x c,cl.lookup x=some c->X.env.cells.lookup x=some c) (hhas:∀x,(#[12].names.lookup x=some .cell∨#[12].names.lookup x=some .free)->∃c,cl.lookup x=some c)
  (hlen:N.length=own+idx.length)
  (hidx:∀(k j:Nat) (x:Str),idx[k]? = some j->N[own+k]? = some x->X.N[j]? = some x/\X.env.kindOf x=some .cell/\#[12].names.lookup x=some .cell/\X.env.scope.names.lookup x=some .cell)
  (hi:PI X target iter wi) (hg:∀C fp s2 H2,PG #[7] target g) (he:∀C fp s2 H2,PE #[7] elt te)
  (hs:∀x,foldedSetIterable iter X.env x=pure x:=by intro _;rfl):PE X (.ListComp elt [{target,iter,[],0}] scope pos) (MM own idx wi g te):=by
 intro ae s O H Q I h;rw[eval_ListComp];exact wG {hk,hclos,hcell,hnames,hsub,hhas,hlen,(hidx)} hc I hi h rfl hs (data:=.seq ([]:List Value).toArray) (tF _) rfl HY (B:=BF X target elt) (λV=>AG V) codeAny_compStart_list (cgoF hg he) YN
def hasB(names:List (Str×NameKind))(cl:List (Str×Addr)):Bool:=names.all λy=>match y.2 with
 | .cell=>(cl.lookup y.1).isSome
 | .free=>(cl.lookup y.1).isSome
 | _=>true
theorem vG{names:List (Str×NameKind)}{cl:List (Str×Addr)}(h:hasB names cl=true):∀x,(names.lookup x=some .cell∨names.lookup x=some .free)->∃c,cl.lookup x=some c:=by
 intro x hx;let all:=List.all_eq_true.mp h;rcases hx with hx | hx
 .have:=all _ (PySem.mem_of_lookup hx);exact Option.isSome_iff_exists.mp this
 .have:=all _ (PySem.mem_of_lookup hx);exact Option.isSome_iff_exists.mp this
theorem CD{X:Cx}{scope:Scope}{own j0:Nat}{N:List Str}{x0:Str}(h0:N[own]? = some x0)(h:X.N[j0]? = some x0/\X.env.kindOf x0=some .cell/\#[12].names.lookup x0=some .cell/\X.env.scope.names.lookup x0=some .cell) :
  ∀(k j:Nat) (x:Str),[j0][k]? = some j->N[own+k]? = some x->X.N[j]? = some x/\X.env.kindOf x=some .cell/\#[12].names.lookup x=some .cell/\X.env.scope.names.lookup x=some .cell:=by
 intro k j x e1 e2
 match k,e1 with
 | 0,e1=>
  cases e1;rw[nZ,h0]at e2;cases e2;exact h
 | k+1,e1=>cases e1
end
theorem IL{J:It}{xs:List V}(Pv:Nat->List V->Hp->Prop)(hz:xs.length<sizeLine)(h0:Pv 0 [] H')
  (hgo:∀i ys H2,Pv i ys H2->i<xs.length->J.go i H2/\∀x H3,J.yld i H2 x H3->H3=H2/\xs[i]? = some x) (hst:∀ys H2,Pv xs.length ys H2->J.stop xs.length H2) (hl:∀i ys H2,Pv i ys H2->H2 p=some (.lst ys))
  (hs:∀i m ys x H2,xs[i]? = some x->m=xs.length-i->ys.length=i->Pv i ys H2->g x O0 H2 fun O4 H4=>Keep O0 O4/\te O4 H4 λy H5=>H5 p=some (.lst ys)/\∃m',m'<m/\CompW xs Pv (i+1) m' (ys++[y]) #[42])
  (hd:∀ys H2,ys.length=xs.length->Pv xs.length ys H2->Q (.ref p) H2):CompGoF O0 J g te Q p H':=by
 unfold CompGoF;refine{CompW xs Pv,{_,rfl,tF _,rfl,h0}, ?_};rintro i m ys H2 ⟨hm,hi,hy,hp⟩;refine{hl i ys H2 hp,∎, ?_};by_cases hlt:i<xs.length
 .obtain⟨g1,g2⟩:=hgo i ys H2 hp hlt;refine .inr {g1,λx H3 y=>?_};obtain⟨e3,z⟩:=g2 x H3 y;subst e3;exact hs i m ys x _ z hm hy hp
 .have ei:i=xs.length:=∎
  subst ei;exact .inl {hst ys H2 hp,hd ys H2 hy hp}
theorem xY{K:tP}{a:Addr}{xs:List V}{O0:L2.St}{g:TG}{te:TE}{Q:VK}{p:Addr}{H':Hp}(Pv:Nat->List V->Hp->Prop)(hz:xs.length<sizeLine)(h0:Pv 0 [] H')
  (hl:∀i ys H2,Pv i ys H2->SqL K H2 a xs/\H2 p=some (.lst ys))
  (hs:∀i m ys x H2,xs[i]? = some x->m=xs.length-i->ys.length=i->Pv i ys H2->g x O0 H2 fun O4 H4=>Keep O0 O4/\te O4 H4 λy H5=>H5 p=some (.lst ys)/\∃m',m'<m/\CompW xs Pv (i+1) m' (ys++[y]) #[42])
  (hd:∀ys H2,ys.length=xs.length->Pv xs.length ys H2->Q (.ref p) H2):CompGoF O0 (Itl K a) g te Q p H':=
 IL Pv hz h0 (λi ys H2 h hi=>{{xs,xs[i],(hl i ys H2 h).1,by simp [hi]},λx H3 y=>{y.1,y.2 xs (hl i ys H2 h).1}}) (λys H2 h=>{xs,(hl _ ys H2 h).1,tE _}) (λi ys H2 h=>(hl i ys H2 h).2) hs hd
theorem US{K:tP}{a:Addr}{xs:List V}{O0:L2.St}{g:TG}{te:TE}{Q:VK}{p:Addr}{H':Hp}(Pv:Nat->List V->Hp->Prop)(hz:xs.length<sizeLine)(h0:Pv 0 [] H')
  (hl:∀i ys H2,Pv i ys H2->SqT K H2 a xs/\H2 p=some (.lst ys))
  (hs:∀i m ys x H2,xs[i]? = some x->m=xs.length-i->ys.length=i->Pv i ys H2->g x O0 H2 fun O4 H4=>Keep O0 O4/\te O4 H4 λy H5=>H5 p=some (.lst ys)/\∃m',m'<m/\CompW xs Pv (i+1) m' (ys++[y]) #[42])
  (hd:∀ys H2,ys.length=xs.length->Pv xs.length ys H2->Q (.ref p) H2):CompGoF O0 (Itt K a) g te Q p H':=
 IL Pv hz h0 (λi ys H2 h hi=>{{xs,xs[i],(hl i ys H2 h).1,by simp [hi]},λx H3 y=>{y.1,y.2 xs (hl i ys H2 h).1}}) (λys H2 h=>{xs,(hl _ ys H2 h).1,tE _}) (λi ys H2 h=>(hl i ys H2 h).2) hs hd
section
theorem yD(ns:List Int):∀j,j<=ns.length->preSum (λi=>ns.getD i 0) j=(ns.take j).sum
 | 0,_=>by simp [preSum]
 | j+1,h=>by
  let hj:j<ns.length:=h;show preSum (λi=>ns.getD i 0) j+ns.getD j 0=_;rw[yD ns j ∎,List.take_succ_eq_append_getElem hj,List.sum_append,uT,uY hj];simp
theorem EX{M:Int} :∀(ns:List Int),(∀n∈ns,0<=n/\n<=M)->0<=ns.sum/\ns.sum<=ns.length*M
 | [],_=>by simp
 | n::r,h=>by
  let h1:=h n #[14];let h2:=EX r λm hm=>h m (by simp [hm]);rw[nM,mN,Int.natCast_succ,Int.add_mul]
  ∎
def WM(K:tP):List V->Hp->VK->Prop:=λxs H Q=>∃(a:Addr) (ns:List Int),xs=[.ref a]/\SqT K H a #[16]/\(∀n∈ns,0<=n/\n<=2^40)/\ns.length<=1000/\Q (.int ns.sum) H
theorem FS(hc:X.calm=true):CallR X (.builtin "sum") (WM X.K):=by
 intro ae s O H xs us Q I r h;obtain⟨a,ns,rfl,hq,hb,hn,q⟩:=h;obtain⟨u,rfl,ru⟩:=vV r;cases ru;obtain⟨its,rv,p,hz⟩:=I.tuple hq;let i1:IntsAre its ns:=qW rv;let hl:=vD i1;let ha:a<s.heap.objs.size:=by
  obtain⟨o,e,_⟩:=p;exact nP e
 refine PySem.call_sum_walk (wpAny_pyIter_tuple (t:=a) (items:=its.toArray) p ?_);refine{s.heap.objs.size,_,_,_,_,_,λi=>ns.getD i 0,rfl,Walks.tuple #[51] s.heap.objs.size a (nS ha) its.toArray,{{_,gU _ rfl,rfl,rfl},p.keeps λb o e=>gC _ e}, ?_, ?_, ?_, ?_}
 .intro b hb;show b<(s.heap.push _).objs.size;rw[nG];simp only[nI,mK,or_false]at hb;rcases hb with rfl | rfl
  .exact mQ _
  .exact Nat.lt_succ_of_lt ha
 .intro i v hv;let hv':its[i]? = some v:=by simpa using hv
  obtain⟨hi,e⟩:=uW.mp hv';obtain⟨n,t,e1,e2⟩:=vL i1 hi;exact{t,by dsimp only;rw[<-e,e2,uT,e1];rfl}
 .intro j hj;let hj':j<ns.length:=by rw[<-hl];simpa using hj
  let b1:=hb ns[j] (mO hj');let b2:=EX (ns.take (j+1)) λn hn'=>hb n (gT hn');let e1:ns.getD j 0=ns[j]:=by rw[uT,uY hj'];rfl
  let l1:(ns.take (j+1)).length<=1000:=by rw[mJ];∎
  dsimp only;rw[yD ns (j+1) hj',e1];unfold InLong;refine{{∎,∎},{∎, ?_}};let:((ns.take (j+1)).length:Int)*2^40<=1000*2^40:=Int.mul_le_mul_of_nonneg_right ∎ #[0]
  ∎
 .intro h' tk t' k;let e:preSum (λi=>ns.getD i 0) its.toArray.size=ns.sum:=by
   rw[mC,hl,yD ns _ uP,mL]
  rw[e];refine{.int ns.sum,H,I.kept (t':=tk) (λb o q=>?_),{t',(rfl)},q};exact k b o (by simp;exact nS (nP q)) (gC _ q)
end
end Lw
namespace LwE
open PySem PySem.W PySem.Calls PySem.Spec PyProof.Rows
structure XCls(K:Frag)(C fI:Addr)(bl:List Value)(newId:String):Prop where
 obj:∃nm q N bs hd sn sub ab col dd a0 a1 a2 a3 a5,K.lookup C=some #[18]
 isB:bl.contains (.type "ValueError")=true
 isBase:bl.contains (.type "BaseException")=true
 noAt:bl.contains (.type "AttributeError")=false
 noNm:bl.contains (.type "NameError")=false
 init:findIn K (.ref C) "__init__" = some (some (.ref fI))
 fn:typeIn K (.ref fI)=some (.type "function")
 kp:keepIn K (.ref C)=true
 ga:findIn K (.ref C) "__getattribute__" = some (some (.builtin "BaseException.__getattribute__"))
 gn:findIn K (.ref C) "__getattr__" = some none
 cl:findIn K (.ref C) "__class__" = some (some (.builtin "object.__class__"))
 obj':mroIn K C (.type "object")=some true
section
variable{prog:Program}{w:World}{A:Around}{E:Value->Shared->Prop}{R:Result->Shared->Prop}{hp:Heap}{g:Array GenState}{d:Drawn}{tk:Nat}{os:OsState}
variable{nm q:Str}{C N:Addr}{bs bl bb:List Value}{hd:Bool}{sn:List Str}{sub:List Value}{ab:Bool}{col:Option Bool}{dd:Option Addr}{a0 a1 a2 a3 a5:Option Value}{B newId initId:String}
theorem new_ok(F:ExcBaseFacts B newId initId bb)(zB:bl.contains (.type B)=true){Q:Unit->Shared->Prop}(o:hp.get? C=some #[18])
  (k:Q () {hp,g,d,tk,(os)}):wpAny #[3] A (checkBuiltinCall newId {.ref C::us,[]}) Q E {hp,g,d,tk,(os)}:=by
 let z:(Value.ref C::bl).contains (.type B)=true:=by rw[List.contains_cons,zB,Bool.or_true]
 let nostar:=F.noStar;simp only[checkBuiltinCall,F.newKind,F.newSplit,F.newRow]
 repeat (first | refine wpAny_loadPart_at o ?_ | (refine wpAny_isSubtype_exc o ?_;rw[z]) | refine wpAny_staticBase_exc o ?_ | refine wpAny_madeBy_exc o ?_ | simp only[bne_self_eq_false,Bool.false_eq_true,if_false] | wp_step)
 exact k
theorem new_run(F:ExcBaseFacts B newId initId bb)(zB:bl.contains (.type B)=true)(zA:bl.contains (.type "AttributeError")=false)(zN:bl.contains (.type "NameError")=false)
  {us:List Value} (o:hp.get? C=some #[18])
  (k:R (.ok (.ret (.ref (hp.objs.size+1)))) ⟨(hp.push { cls:=.type "tuple",data:=.seq us.toArray }).push
   { cls:=.ref C,data:=.fields #[.ref hp.objs.size,.none,.none,.none,.bool false,.none] },g,d,tk,os⟩) (fits:us.length<=sizeLine) :
  codeAny #[3] A (.builtin newId {.ref C::us,[]}) R {hp,g,d,tk,(os)}:=by
 let ends:=F.ends;let y1:(Value.ref C::bl).contains (.type B)=true:=by rw[List.contains_cons,zB,Bool.or_true]
 let y2:(Value.ref C::bl).contains (.type "AttributeError")=false:=by rw[List.contains_cons,zA];rfl
 let y3:(Value.ref C::bl).contains (.type "NameError")=false:=by rw[List.contains_cons,zN];rfl
 refine codeAny_builtinAt F.entry ?_;unfold Builtin.«BaseException.__new__»;refine PySem.wpAt_bind ?_;show PySem.wpAt _ _ _ (stack >>= _) _ _ _;refine PySem.wpAt_bind (PySem.wpAt_stack λp below=>PySem.wpAt_of_wpAny ?_)
 wp_walk
 refine PySem.wpAt_of_wpAny ?_;rw[F.owner]
 repeat (first | with_reducible refine wpAny_madeHere_exc F.canon o ?_ | with_reducible refine wpAny_loadPart_at o ?_ | (with_reducible refine wpAny_isSubtype_exc o ?_;first | rw[y1] | rw[y2] | rw[y3]) | wp_step)
 show R _ _;rw[nG];exact k
theorem XY(F:ExcBaseFacts B newId initId bb){K:Frag}(KI:K.In hp)(zB:bl.contains (.type B)=true)(zA:bl.contains (.type "AttributeError")=false)(zN:bl.contains (.type "NameError")=false)
  (zi:findIn K (.ref C) "__init__" = some (some (.ref fI))) (zf:typeIn K (.ref fI)=some (.type "function"))
  {us:List Value} {Q:Fin->Shared->Prop} (o:hp.get? C=some #[18])
  (k:∀h' e,hp.objs.size<=e->Heap.MadeExcOf hp h' e (.ref C) us->
   wpAny #[3] A (call (.ref fI) (.ref e::us)) (λr s'=>r=.none/\Q (.done (.ret (.ref e))) s') E {h',g,d,tk,(os)}) (fits:us.length<=sizeLine) :
  wpAny #[3] A (Builtin.«type.__call__» {.ref C::us,[]}) Q E {hp,g,d,tk,(os)}:=by
 repeat (first | with_reducible refine wpAny_loadPart_at o ?_ | with_reducible refine wpAny_madeBy_exc o ?_ | wp_step)
 refine codeAny_call_builtin_code (Code.quiet_builtin _ F.quiet) (new_ok F zB o ?_);refine new_run F zB zA zN o ?_ fits;show wpAny _ _ _ _ _ _;let kp:∀b ob,hp.get? b=some ob->((hp.push { cls:=.type "tuple",data:=.seq us.toArray }).push { cls:=.ref C,data:=.fields #[.ref hp.objs.size,.none,.none,.none,.bool false,.none] }).get? b=some ob:=
  λb ob e=>gC _ (gC _ e)
 let o1:=kp _ _ o;let oe:((hp.push { cls:=.type "tuple",data:=.seq us.toArray }).push { cls:=.ref C,data:=.fields #[.ref hp.objs.size,.none,.none,.none,.bool false,.none] }).get? (hp.objs.size+1)
   = some { cls:=.ref C,data:=.fields #[.ref hp.objs.size,.none,.none,.none,.bool false,.none] } :=by heap_get
 let y:(Value.ref C::bl).contains (.ref C)=true:=by simp
 let K1:=KI.keeps kp;unfold isInstance
 repeat (first | with_reducible refine wpAny_loadPart_at oe ?_ | (with_reducible refine wpAny_isSubtype_exc o1 ?_;rw[y]) | wp_step)
 show wpAny _ _ (typeLookup (.ref C) _) _ _ _;refine(looks_findIn K1 zi).at ?_;refine wpAny_holding (tK ((bind_fn K1 (.ref (hp.objs.size+1)) zf).at ?_));refine tK (tM (k _ (hp.objs.size+1) (Nat.le_succ _) {kp,Heap.get?_none_of_le (Nat.le_succ _),hp.objs.size,oe,Heap.get?_none_of_le uP, ?_}) (λr s' hr=>?_) λ_ _ x=>x)
 .exact gC _ (Heap.get?_push_at rfl rfl)
 .obtain⟨rfl,hQ⟩:=hr
  wp_walk
  exact hQ
theorem ZQ(F:ExcBaseFacts B newId initId bb){K:Frag}(KI:K.In hp)(zB:bl.contains (.type B)=true)(zA:bl.contains (.type "AttributeError")=false)(zN:bl.contains (.type "NameError")=false)
  (zi:findIn K (.ref C) "__init__" = some (some (.ref fI))) (zf:typeIn K (.ref fI)=some (.type "function"))
  {us:List Value} {Q:Value->Shared->Prop} (o:hp.get? C=some #[18])
  (k:∀h' e,hp.objs.size<=e->Heap.MadeExcOf hp h' e (.ref C) us->
   wpAny #[3] (A.under (.builtin "type.__call__" {.ref C::us,[]})) (call (.ref fI) (.ref e::us)) (λr s'=>r=.none/\Q (.ref e) s') E {h',g,d,tk,(os)}) (fits:us.length<=sizeLine) :
  wpAny #[3] A (call (.ref C) us) Q E {hp,g,d,tk,(os)}:=by
 let u1:=tc_lookup;let u2:=tc_bind (.ref C);let ty:(⟨hp,g,d,tk,os⟩:Shared).TypeIs (.ref C) "type":={_,o,rfl};refine wpAny_call (codeAny_of_tree ?_);show wpAny _ _ (callAny (.ref C) _) _ _ _
 repeat (any_goals (first | assumption | with_reducible refine wpAny_loadPart_at o ?_ | wp_step))
 refine{rfl, ?_};refine codeAny_call_builtin_at (Code.quiet_builtin _ #[2]) entry_typeCall (wpAny_check_type_call_sub o (XY F KI zB zA zN zi zf o (λh' e hl hm=>?_) fits));exact k h' e hl hm
end
end LwE
namespace LwE
open PySem PySem.W PySem.Spec PyProof.Rows L2
def yU(e C:Addr):HO:=.ext λh=>∃t,h.get? e=some { cls:=.ref C,data:=.fields #[.ref t,.none,.none,.none,.bool false,.none] }
theorem RQ{h:Heap}(q:h.get? e=some { cls:=.ref C,data:=.fields #[.ref t,.none,.none,.none,.bool false,.none] }):ObjOk P w H h e (yU e C):=
 {{t,(q)},{_,q},λ_ _ ⟨t,z⟩ k=>{t,k _ z}}
theorem VG(e:H a=some o):upd H a o=H:=by
 funext b
 unfold upd;by_cases h:b=a
 .rw[tO h,h,e]
 .rw[tN h]
def tInit(K:Frag)(t:TA):TE:=fun O H Q=>t O H λvs H1=>∃e C fI bl nid v,vs=[.ref e,v]/\H1 e=some (yU e C)/\XCls K C fI bl nid/\Q .non H1
theorem VD{M:Model}{A:Around}{E:Value->Shared->Prop}{hp:Heap}{g:Array GenState}{d:Drawn}{tk:Nat}{os:OsState}{K:Frag}{C fI e:Addr}{bl:List Value}{nid:String}{oe:Obj}{us:List Value}{Q:Unit->Shared->Prop}
  (KI:K.In hp) (c:XCls K C fI bl nid) (he:hp.get? e=some oe) (hc:oe.cls=.ref C) (q:Q () {hp,g,d,tk,(os)}):wpAny M A (checkBuiltinCall "ValueError.__init__" {.ref e::us,[]}) Q E {hp,g,d,tk,(os)}:=by
 obtain⟨nm,qn,N,bs,hd,sn,sub,ab,col,dd,a0,a1,a2,a3,a5,lk⟩:=c.obj;let o:=KI _ _ lk;let y:(Value.ref C::bl).contains (.type "ValueError")=true:=by rw[List.contains_cons,c.isB,Bool.or_true]
 let nostar:=PySem.F.excBase_ValueError.noStar;simp only[checkBuiltinCall,PySem.F.excBase_ValueError.initKind,PySem.F.excBase_ValueError.initSplit,PySem.F.excBase_ValueError.initRow]
 repeat (first | (with_reducible refine wpAny_loadPart_at he ?_;rw[hc]) | with_reducible refine wpAny_loadPart_at o ?_ | (with_reducible refine wpAny_isSubtype_exc o ?_;rw[y]) | wp_step)
 refine wpAny_onRaise ?_;rw[show ∀(a b:String) (n:Nat),Bind.check {.positional,"*","ValueError",.self,[{"args",.varPos,false}]} a b n (List.map (λx=>x.fst) ({ pos:=.ref e::us } :Args).kw)=pure ()from λ_ _ _=>check_star_args _ _ _ _ _ _];exact tL q
theorem ve_type:typeOf (.type "ValueError")=pure (.type "type"):=kitMeta_of #[2]
section
variable{X:Cx}{e1 e2:Expr}{t:TA}{np apos pos:Pos}{pl:Sem Bool}
theorem WJ(I:Inv X ae O H s)(he:H e=some (yU e C))(hs:XCls X.K C fI bl nid)(q:Q .non H) :
  wpAny #[1] X.A (call (.builtin "ValueError.__init__") [.ref e,u]) #[60] X.xe s:=by
 obtain⟨⟨tt,hx⟩,_⟩:=(show ObjOk X.prog X.w H s.heap e (yU e C)from I.hok e _ he);let I':=I;obtain⟨hp,g,d,tk,os⟩:=s;refine wpAny_call (codeAny_call_builtin PySem.F.excBase_ValueError.init.plain PySem.F.excBase_ValueError.initEntry (VD I.kIn hs hx rfl ?_))
 wp_walk
 refine{.non,H, ?_,rfl,q};let w:=I'.write (x:=e) (e:=e) (o:=yU e C) (t':=tk) (h':=(hp.push { cls:=.type "tuple",data:=.seq #[u] }).update e (Obj.mapFields (·.setIfInBounds 0 (.ref hp.objs.size)))) (by rw[he];trivial) (.inl rfl) (λb ob hb z=>by
  rw[Heap.get?_update_other _ _ (Ne.symm hb)];exact gC _ z) {_,Heap.get?_update_self _ (gC _ hx) rfl} (RQ (t:=hp.objs.size) (Heap.get?_update_self _ (gC _ hx) rfl))
 rw[VG he]at w;exact w
theorem pe_baseInit(ha:PA X [e1,e2] t)(hg:Gl X "ValueError":=by rfl)(hm:X.mg "ValueError" = none)
  (hs:starEach [e1,e2] X.env=(false,eval e1 X.env)::starEach [e2] X.env:=by rfl) (hpl:(backTo pos (starEach [e2] X.env)).any (·.1)=false:=by rfl)
  (ht:eval (.Call (.Attribute (.Name "ValueError" np) "__init__" apos) [e1,e2] [] pos) X.env=(do
   let ov<-eval (.Name "ValueError" np) X.env
   standAt apos.atName
   let (f,first)<-holding [ov] (getMethod ov "__init__" pl)
   callWith pos f first (backTo pos (starEach [e1,e2] X.env)) (backToKw pos (keywordEach [] X.env))):=by rfl) :
  PE X (.Call (.Attribute (.Name "ValueError" np) "__init__" apos) [e1,e2] [] pos) (tInit X.K t):=by
 intro ae s O H Q I h;refine methodCall_KW (pl:=pl) (yH I hg hm PyProof.Rows.Boot.«ValueError» ?_ #[0] #[0]) ht;obtain⟨m,fr⟩:=I.fr;refine method_type (K:=X.K) (v:=.builtin "ValueError.__init__") fr I.ok.mod.kin ve_type #[2] (by rfl) #[2] ?_;let J:=I.tok (s.toks+1);let hA:=ha pos ae _ O H _ J h;rw[hs]at hA ⊢;refine Calls.callWith_builtin (by show(false||(backTo pos (starEach [e2] X.env)).any (·.1))=false;rw[hpl]<;>rfl) (Calls.evalArgs_plain ?_);refine thn hA λus s2 ⟨vs,H2,I2,r2,e,C,fI,bl,nid,v,ev,he,hc,q⟩=>?_;subst ev;obtain⟨u1,u2,rfl,r3,r4⟩:=Vals.two r2;cases r3;exact WJ I2 he hc q
end
def spInit(K:Frag):Sp:=λvs H Q _=>∃e C fI bl nid v,vs=[.ref e,v]/\H e=some (yU e C)/\XCls K C fI bl nid/\Q .non H
def CXF(P:Program)(w:World):CXT:=λouter H s E v s'=>∃(e C:Addr) (a0:Value) (H':Hp) (B:Heap),v=.ref e/\s.heap.objs.size<=e/\s'.os=s.os/\AllBare s'.gens/\Un (frs outer) [] H H' s.heap s'.heap/\HOk P w H' B/\H' e=none/\
 Heap.FlyingW B outer e (.ref C) a0 s'.heap/\(∀b o,s.heap.get? b=some o->b∉frs outer->(∃o',B.get? b=some o')/\(H b=none->B.get? b=some o))/\E (.ref C) none H'
section
variable{X:Cx}{ae:List #[13]}{O:L2.St}{H H':Hp}{s:Shared}{B h':Heap}
theorem VI(hx:X.ex=[])(I:Inv X ae O H s)(st:B.StaysIn h')(up:s.heap.UpToSlots h')(cover:∀b o,X.s₀.heap.get? b=some o->b∉X.fs->(∃o',B.get? b=some o')/\(X.H₀ b=none->B.get? b=some o))
  (fr:∀b o,X.s₀.heap.get? b=some o->H b=none->H' b=none) (tu:∀b xs,H b=some (.tup xs)->H' b=some (.tup xs)) (fz:∀b o u,H b=some (.frz o u)->H' b=some (.frz o u)) (tb:∀b ps,H b=some (.tbl ps)->H' b=some (.tbl ps)) :
  Un X.fs [] X.H₀ H' X.s₀.heap h':=by
 let nex:∀b:Addr,b∉X.ex:=λb z=>by rw[hx]at z;exact absurd z #[14]
 let nf:∀b o,b∈X.fs->s.heap.get? b=some o->∃sl,h'.get? b=some { o with slots:=sl } :=λb o hb e=>by
  obtain⟨_,o',e',hd⟩:=I.funs.mem hb;rw[e]at e';cases e';exact up b o e hd
 refine⟨λb o e n hb _=>st b o ((cover b o e hb).2 n),λb o e n hb _=>?_,λb o e n _=>fr b o e (I.base.free b o e n (nex b)),λb o e _=>?_,
  λb xs e=>tu b xs (I.base.tups b xs e),λb o u e=>fz b o u (I.base.frzs b o u e),λb ps e=>?_⟩
 .obtain⟨sl,e1⟩:=I.base.slot b o e n hb (nex b);obtain⟨sl',e2⟩:=nf b _ hb e1;exact{sl',(e2)}
 .by_cases hb:b∈X.fs
  .obtain⟨o',e1⟩:=I.base.there b o e (nex b);obtain⟨sl',e2⟩:=nf b _ hb e1;exact{_,e2}
  .obtain⟨⟨o',e1⟩,_⟩:=cover b o e hb;exact{o',st b o' e1}
 .obtain⟨m,e1⟩:=I.base.tbls b ps e;exact{m,tb b _ e1}
variable{P:Program}{w:World}{K:Frag}{mg:Str->Option Value}{base:Heap}{N:List Str}{qual:Str}{scope:Scope}{f:Addr}{cd:Value}{A:Around}{outer:List Env}{s0:Shared}{H0:Hp}{E:XK}
theorem UC(I:Inv #[6] ae O (upd H e (yU e C)) s)(hn:H e=none)(he:s0.heap.objs.size<=e)(q:E (.ref C) none H) :
  #[6].xe (.ref e) s:=by
 obtain⟨⟨t,hx⟩,_⟩:=(show ObjOk P w (upd H e (yU e C)) s.heap e (yU e C)from I.hok e _ jE);let hfr:∀b∈frs (envOfC qual scope s0.heap.objs.size f cd::outer),upd H e (yU e C) b=none:=I.stkFree;let nfr:∀b o,upd H e (yU e C) b=some o->b∉frs (envOfC qual scope s0.heap.objs.size f cd::outer):=λb o z hb=>by rw[hfr b hb]at z;cases z
 let hB:∀b o,s.heap.get? b=some o->b≠e->b∉frs (envOfC qual scope s0.heap.objs.size f cd::outer)->#[25].get? b=some o:=λb o z h1 h2=>
  hideAll_get _ z λhm=>(nI.mp hm).elim h1 h2
 have cover:∀b o,s0.heap.get? b=some o->b∉frs outer->(∃o',#[25].get? b=some o')/\(H0 b=none->#[25].get? b=some o):=λb o z hb=>by
  let lt:=nP z;let b1:b≠e:=nS (gZ lt he);let b2:b∉frs (envOfC qual scope s0.heap.objs.size f cd::outer):=λhm=>(nI.mp hm).elim (λy=>nJ s0.heap.objs.size (by let y':b=s0.heap.objs.size:=y;rw[y']at lt;exact lt)) hb;obtain⟨o',e1⟩:=I.base.there b o z (by show b∉[];simp);exact{{o',hB b o' e1 b1 b2},λn=>hB b o (I.base.keep b o z n hb (by show b∉[];simp)) b1 b2}
 let ne_e:∀b (u:HO),upd H e (yU e C) b=some u->(∀φ,u≠.ext φ)->H b=some u:=λb u z hu=>by
  by_cases hb:b=e
  .subst hb;rw[jE]at z;cases z;exact absurd rfl (hu _)
  .rw[jG hb]at z;exact z
 let hok:HOk P w H #[25]:=λa o z=>by
  let ha:a≠e:=jS z hn;let z':upd H e (yU e C) a=some o:=by rw[jG ha];exact z
  refine(I.hok a o z').stay (λb u hb e1=>?_) (λb e1=>ne_e b _ e1 (fun φ y=>by cases y)) λb xs e1=>ne_e b _ e1 (fun φ y=>by cases y);rcases hb with rfl | hb
  .exact hB _ u e1 ha (nfr _ _ z')
  .exact hB _ u e1 (jS (ne_e b _ hb fun φ y=>by cases y) hn) (nfr _ _ hb)
 show wpAny (model P w) (A.deeper (envOfC qual scope s0.heap.objs.size f cd)) (leaving (envOfC qual scope s0.heap.objs.size f cd) (.ref e)) _ _ s;refine wpAny_leaving_firstW (base:=hideAll s.heap (e::frs (envOfC qual scope s0.heap.objs.size f cd::outer))) (L:=s0.heap.objs.size) (a0:=.ref t) I.ok.frames
  (funFrames_hide I.stack λenv hm b hb=>gM _ (List.mem_filterMap.mpr {env,hm,(hb)})) rfl hx (λb o z=>of_hideAll _ z) (hideAll_none _ (hU ..)) rfl rfl rfl λh' ⟨k1,k2,k3,k4⟩=>?_
 refine{e,C,.ref t,H,_,rfl,he,I.os,I.bare, ?_,hok,hn,{k1,hideAll_none _ (hU ..),k2.2.2,k3},cover,q};refine VI (X:=xO (CXF P w) P w K mg base N qual scope f cd A outer s0 H0 E) rfl I k1 k4 cover (λb o z n=>?_) (λb xs z=>ne_e b _ z (fun φ y=>by cases y)) (λb o u z=>ne_e b _ z (fun φ y=>by cases y)) (λb ps z=>ne_e b _ z (fun φ y=>by cases y));let lt:=nP z;rw[jG (nS (gZ lt he))]at n;exact n
theorem pass_fly:Passes (CXF P w) #[6] E:=by
 rintro ae O H s v s' I ⟨e,C,a0,H',B,rfl,he,ho,bare,un,hok,hn,fly,cover,q⟩;let I':Inv #[6] ae O H' s':=I.call' ho un (hok.kept fly.1) bare λ_ z=>nomatch z;let cov:∀b o,s0.heap.get? b=some o->b∉frs outer->(∃o',B.get? b=some o')/\(H0 b=none->B.get? b=some o):=λb o z hb=>by
  let lt:=nP z;let nb:b∉frs (envOfC qual scope s0.heap.objs.size f cd::outer):=λhm=>(nI.mp hm).elim (λy=>nJ s0.heap.objs.size (by let y':b=s0.heap.objs.size:=y;rw[y']at lt;exact lt)) hb;obtain⟨o',e1⟩:=I.base.there b o z (by show b∉[];simp);refine{(cover b o' e1 nb).1,λn=>?_};exact(cover b o (I.base.keep b o z n hb (by show b∉[];simp)) nb).2 (I.base.free b o z n (by show b∉[];simp))
 show wpAny (model P w) (A.deeper (envOfC qual scope s0.heap.objs.size f cd)) (leaving (envOfC qual scope s0.heap.objs.size f cd) (.ref e)) _ _ s';refine wpAny_leaves_onW (L:=s0.heap.objs.size) I.ok.frames rfl fly λh' k1 k4=>?_;refine{e,C,a0,H',B,rfl,nQ I.sz he,I'.os,I'.bare, ?_,hok,hn,k1,cov,q};exact VI (X:=xO (CXF P w) P w K mg base N qual scope f cd A outer s0 H0 E) rfl I' k1.1 k4 cov (λ_ _ _ n=>n) (λ_ _ z=>z) (λ_ _ _ z=>z) (λ_ _ z=>z)
end
section
variable{ae:List #[13]}{O:L2.St}{H H':Hp}{s:Shared}
variable{P:Program}{w:World}{K:Frag}{mg:Str->Option Value}{base:Heap}{N:List Str}{qual:Str}{scope:Scope}{f:Addr}{cd:Value}{A:Around}{outer:List Env}{s0:Shared}{H0:Hp}{E:XK}
variable{C fI:Addr}{fdI:FuncData}{bl:List Value}{k:Nat}{x:Str}{np cpos pos:Pos}{e1:Expr}{te:TE}
theorem run_exc{X:Cx}(c:XCls X.K C fI bl "ValueError.__new__")(G:FnOk X.prog X.w X.K X.mg X.base CX0 k fI fdI ["self","text"] (spInit X.K))(hr:Room (k+1) X.A)(b:Binds X.K fdI ["self","text"] [])
  (I:Inv X ae O H s) (r:Vals [v] us) (h:∀e,H e=none->X.s₀.heap.objs.size<=e->Q (.ref e) (upd H e (yU e C))):wpAny #[1] X.A (call (.ref C) us) #[60] X.xe s:=by
 obtain⟨nm,qn,N',bs,hd,sn,sub,ab,col,dd,a0,a1,a2,a3,a5,lk⟩:=c.obj;let o:=I.kIn _ _ lk;let lim:us.length<=sizeLine:=by rw[<-r.length];show 1<=sizeLine;decide
 let I0:=I;let sz:=I.sz;obtain⟨hp,g,d,tk,os⟩:=s;refine ZQ PySem.F.excBase_ValueError I.kIn c.isB c.noAt c.noNm c.init c.fn o (λh' e hle hm=>?_) lim;obtain⟨t,ht,_,_⟩:=hm.there;let hn:H e=none:=I0.hok.fresh hle;let I2:Inv X ae O (upd H e (yU e C)) ⟨h',g,d,tk,os⟩:=I0.laid (t':=tk) hm.keeps hle (RQ ht);let r2:Vals [V.ref e,v] (.ref e::us):=.cons rfl r;refine wpAny_call (codeAny_mono (G.run _ X.stack _ (upd H e (yU e C)) {.ref e::us,[]} (.ref e::us) [.ref e,v] (λy H2=>y=.non/\H2=upd H e (yU e C)) E0 (hr.make C us []) (I2.env0.make C us []) ?_ r2
  {e,C,fI,bl,_,v,rfl,jE,c,rfl,rfl}) λr s' hq=>?_)
 .have z:=b {h',g,d,tk,(os)} (.ref e::us) I2.kIn (by rw[List.append_nil,<-r2.length];rfl);rw[List.append_nil]at z;exact z
 .cases r with
  | error y=>exact False.elim hq
  | ok fl=>
   cases fl with
   | ret u=>
    obtain⟨y,H3,I3,ry,ey,e3⟩:=I2.after hq;subst ey e3;exact{ry,{.ref e,_,I3,rfl,h e hn (nQ sz hle)}}
   | next=>exact False.elim hq
   | brk=>exact False.elim hq
   | cont=>exact False.elim hq
def tRaise(C:Addr)(E:XK)(te:TE):TS:=λ_ O H=>vY te tNil O H λvs H1=>∃v,vs=[v]/\E (.ref C) none H1
theorem ps_raise(c:XCls K C fI bl "ValueError.__new__")(G:FnOk P w K mg base CX0 k fI fdI ["self","text"] (spInit K))(b:Binds K fdI ["self","text"] [])
  (hr:Room (k+1) #[6].A) (hg:Gl #[6] x) (hm:mg x=some (.ref C))
  (he:PE #[6] e1 te) (hdb:#[20]=false:=by decide)
  (hs:starEach [e1] #[6].env=(false,eval e1 #[6].env)::starEach [] #[6].env:=by rfl) :
  PS #[6] (.Raise (some (.Call (.Name x np) [e1] [] cpos)) none pos) (tRaise C E te):=by
 intro ae s O H D I h;obtain⟨nm,qn,N',bs,hd,sn,sub,ab,col,dd,a0,a1,a2,a3,a5,lk⟩:=id c.obj;rw[arm_exec_Raise];refine tK (wpAny_standAt (wpAny_raiseStmt_made_sub (C:=C) (nm:=nm) (q:=qn) (N:=N') (bs:=bs) (bm:=bl) (hdct:=hd) (sn:=sn) (sub:=sub) (ab:=ab) (col:=col) (dd:=dd) (k0:=a0) (k1:=a1) (k2:=a2) (k3:=a3) (k5:=a5) (newId:="ValueError.__new__") c.isBase (I.ok.hd rfl) ?_));let go:wpAny (model P w) #[6].A (eval (.Call (.Name x np) [e1] [] cpos) #[6].env)
   (EP #[6] ae O λv H2=>∃e H1,v=.ref e/\H1 e=none/\s0.heap.objs.size<=e/\H2=upd H1 e (yU e C)/\E (.ref C) none H1) #[6].xe s:=by
  refine wpAny_Call_Name_kw (uK I hg hm ?_ hdb);refine PySem.W.callWith_K (h₀:=base) I.ok.mod.kin c.kp (thn ((jA he jD hs) cpos ae s O H _ I h) λus s1 ⟨vs,H1,I1,r,v,ev,q⟩=>{I1.kIn, ?_}) hs rfl;subst ev;exact run_exc (X:=xO (CXF P w) P w K mg base N qual scope f cd A outer s0 H0 E) c G hr b I1 r λe hn hle=>{e,H1,rfl,hn,hle,rfl,(q)}
 refine tK (tM go (λv s1 h1=>tK (wpAny_standAt (tL ?_))) λ_ _ z=>z);obtain⟨v',H2,I2,rv,e,H1,rfl,hn,hle,rfl,q⟩:=h1;cases rv;obtain⟨⟨t,hx⟩,_⟩:=(show ObjOk P w (upd H1 e (yU e C)) s1.heap e (yU e C)from I2.hok e _ jE);exact{e,t,rfl,I2.kIn _ _ lk,hx,UC I2 hn hle q}
end
def excH(e C:Addr):HO:=.ext λh=>∃o,h.get? e=some o/\o.cls=.ref C
theorem excH_ok{h:Heap}{o:Obj}(q:h.get? e=some o)(c:o.cls=.ref C):ObjOk P w H h e (excH e C):=
 {{o,q,(c)},{o,(q)},λ_ _ ⟨o,z,c⟩ k=>{o,k _ z,c}}
abbrev hdl(X:Cx)(e:Addr):Cx:={ X with A:=X.A.mark (some (.ref e)),calm:=false,xe:=λ_ _=>False }
section
variable{X:Cx}{ae:List #[13]}{O:L2.St}{H H' H1:Hp}{s:Shared}
theorem YX(I:Inv X ae O H s):Inv (hdl X e) ae O H s:=
 ⟨{I.ok.mod,I.ok.kind,I.ok.glob,I.ok.blt,I.ok.above,I.ok.inj,I.ok.has,I.ok.cab,λz=>Bool.noConfusion z,I.ok.frames,I.ok.stk,I.ok.exf,I.ok.bs,I.ok.bsz,I.ok.noex,I.ok.exfs,I.ok.funs,I.ok.frf},
  I.os,I.bare,I.base,I.loc,I.cell,I.free,I.freeC,I.pin,I.hok,I.len⟩
theorem CJ(ok:X.Ok)(I:Inv (hdl X e) ae O H s):Inv X ae O H s:={ok,I.os,I.bare,I.base,I.loc,I.cell,I.free,I.freeC,I.pin,I.hok,(I.len)}
def XP(X:Cx)(ae:List #[13])(O:L2.St)(E:XK)(v:Value)(s':Shared):Prop:=∃H1 s1,Inv X ae O H1 s1/\CXF X.prog X.w X.stack H1 s1 E v s'
theorem un_up{h0 h1 h2 B:Heap}(un:Un fs [] H1 H' h0 h1)(nf:∀b o,b∈fs->h1.get? b=some o->∀vs,o.data≠.fields vs)(st:B.StaysIn h2)(up:h1.UpToSlots h2)
  (cover:∀b o,h0.get? b=some o->b∉fs->(∃o',B.get? b=some o')/\(H1 b=none->B.get? b=some o)):Un fs [] H1 H' h0 h2:=by
 refine{λb o e n hb _=>st b o ((cover b o e hb).2 n),λb o e n hb hx=>?_,un.free,λb o e hx=>?_,un.tups,un.frzs,un.tbls}
 .obtain⟨sl,e1⟩:=un.slot b o e n hb hx;obtain⟨sl',e2⟩:=up b _ e1 (nf b _ hb e1);exact{sl',(e2)}
 .by_cases hb:b∈fs
  .obtain⟨o',e1⟩:=un.there b o e hx;obtain⟨sl',e2⟩:=up b _ e1 (nf b _ hb e1);exact{_,e2}
  .obtain⟨⟨o',e1⟩,_⟩:=cover b o e hb;exact{o',st b o' e1}
theorem track(hx:X.ex=[])(I:Inv X ae O H s)(hn:H a=none)(hle:X.s₀.heap.objs.size<=a)(hL:a≠X.env.locals)(hc:∀x c,X.env.cells.lookup x=some c->c≠a)(hp:∀p∈X.pn++ae,p.1≠a)
  (new:∀H,ObjOk X.prog X.w H s.heap a o):Inv X ae O (upd H a o) s:=by
 let nb:∀b q,X.s₀.heap.get? b=some q->b≠a:=λb q z=>nS (gZ (nP z) hle);refine{I.ok,I.os,I.bare,{I.base.keep,I.base.slot,λb q e n hb=>?_,I.base.there,λb xs e=>?_,λb q u e=>?_,λb ps e=>?_},I.loc,I.cell, ?_,λx c e=>?_,λp z=>?_,λb u e=>?_,I.len}
 .rw[jG (nb b q e)];exact I.base.free b q e n hb
 .have z:=I.base.tups b xs e;rw[jG (jS z hn)];exact z
 .have z:=I.base.frzs b q u e;rw[jG (jS z hn)];exact z
 .obtain⟨m,z⟩:=I.base.tbls b ps e;exact{m,by rw[jG (jS z hn)];exact z}
 .rw[jG (Ne.symm hL)];exact I.free
 .rw[jG (hc x c e)];exact I.freeC x c e
 .obtain⟨z1,z2,z3,z4,z5⟩:=I.pin p z;exact{z1,by rw[jG (hp p z)];exact z2,z3,z4,z5}
 .by_cases hb:b=a
  .subst hb;rw[jE]at e;cases e;exact new _
  .rw[jG hb]at e;refine(I.hok b u e).stay (λ_ _ _ z=>z) (λc z=>?_) λc xs z=>?_
   .rw[jG (jS z hn)];exact z
   .rw[jG (jS z hn)];exact z
theorem zZ{E:Value->Shared->Prop}{j:Nat}{Q:Unit->Shared->Prop}(I:Inv X ae O H s)(hN:X.N.Nodup)(hj:X.N[j]? = some n)(hk:X.env.kindOf n=some .local)
  (h:∀s',Inv X ae (O.set j none) H s'->Q () s'):wpAny M A (do bindName X.env n .none;unbindBehindTheSuite X.env n pos) Q E s:=by
 obtain⟨m,hn,hl⟩:=id I.loc;let cne:=I.cne;let hcls:(X.env.scope.kind==.class||(X.env.scope.kind==.module&&X.env.locals != X.env.globals))=false:=by rw[I.ok.kind];rfl
 let hjO:j<O.length:=by rw[I.len];exact(uW.mp hj).1
 refine wpAny_nameGoes_keeps hk hn hcls λh' v hn' hs=>?_;let ab:∀b q,X.s₀.heap.get? b=some q->b≠X.env.locals:=λb q e=>nS (gZ (nP e) I.ok.above);refine h _ {I.ok,I.os,I.bare,{λb o e n hb hx=>(hs.2 b (ab b o e)).trans (I.base.keep b o e n hb hx),λb o e n hb hx=>?_,I.base.free,λb o e hx=>?_,I.base.tups,I.base.frzs,I.base.tbls},{_,hn',λi y v' e1 e2 e3=>?_},λy c e=>?_,I.free,I.freeC,λp hp=>?_,λb ob e=>?_,by simpa using I.len}
 .obtain⟨sl,e1⟩:=I.base.slot b o e n hb hx;exact{sl,(hs.2 b (ab b o e)).trans e1}
 .obtain⟨o',e1⟩:=I.base.there b o e hx;exact{o',(hs.2 b (ab b o e)).trans e1}
 .by_cases hi:i=j
  .subst hi;rw[List.getElem?_set_self hjO]at e2;cases e2
  .rw[List.getElem?_set_ne (Ne.symm hi)]at e2;obtain⟨u',r',q⟩:=hl i y v' e1 e2 e3;refine{u',r', ?_};rcases q with⟨k,e⟩ | ⟨k,c,e,z⟩
   .refine .inl {k, ?_};by_cases hy:y=n
    .subst hy;exact absurd (DQ hN e1 hj) hi
    .simp [hy,e]
   .exact .inr {k,c,e,z.sameBut hs (cne y c e)}
 .obtain⟨w',z⟩:=I.cell y c e;exact{w',z.sameBut hs (cne y c e)}
 .obtain⟨e,n,ne,nf,d⟩:=I.pin p hp;exact{(hs.2 p.1 ne).trans e,n,ne,nf,d}
 .refine(I.hok b ob e).stay (λc w' hc q=>(hs.2 c ?_).trans q) (λ_ q=>q) λ_ _ q=>q;rintro rfl;rcases hc with rfl | hc
  .rw[I.free]at e;cases e
  .rw[I.free]at hc;cases hc
end
theorem UL{M:Model}{A:Around}{E:Value->Shared->Prop}{hp:Heap}{g:Array GenState}{d:Drawn}{tk:Nat}{os:OsState}{K:Frag}{C D fC fD e:Addr}{bl bd:List Value}{n1 n2:String}{oe:Obj}{Q:Bool->Shared->Prop}
  (KI:K.In hp) (c:XCls K C fC bl n1) (cd:XCls K D fD bd n2) (up:bl.contains (.ref D)=true) (he:hp.get? e=some oe) (hc:oe.cls=.ref C) (q:Q true {hp,g,d,tk,(os)}):wpAny M A (excMatches (.ref e) (.ref D)) Q E {hp,g,d,tk,(os)}:=by
 obtain⟨nm,qn,N,bs,hd,sn,sub,ab,col,dd,a0,a1,a2,a3,a5,lk⟩:=c.obj;obtain⟨nm',qn',N',bs',hd',sn',sub',ab',col',dd',b0,b1,b2,b3,b5,lk'⟩:=cd.obj;let o:=KI _ _ lk;let o':=KI _ _ lk';let y1:(Value.ref D::bd).contains (.type "BaseException")=true:=by rw[List.contains_cons,cd.isBase,Bool.or_true]
 let y2:(Value.ref C::bl).contains (.ref D)=true:=by rw[List.contains_cons,up,Bool.or_true]
 let f:=tc_notTuple;unfold excMatches
 repeat (first | (with_reducible refine wpAny_loadPart_at he ?_;rw[hc]) | with_reducible refine wpAny_loadPart_at o' ?_ | (with_reducible refine wpAny_isSubtype_exc o' ?_;rw[y1]) | (with_reducible refine wpAny_isSubtype_exc o ?_;rw[y2]) | wp_step)
 exact q
section
variable{X:Cx}{k:Nat}{f:Addr}{fd:FuncData}{ps:List Str}{sp:Sp}{x:Str}{p pos:Pos}{e:Expr}{es:List Expr}{t:TA}
theorem ex_call(hxe:X.xe=λ_ _=>False)(F:FnOk X.prog X.w X.K X.mg X.base (CXF X.prog X.w) k f fd ps sp)(hr:Room k X.A)(hg:Gl X x)(hm:X.mg x=some (.ref f))(hk:PySem.W.keepIn X.K (.ref f)=true)(hb:Binds X.K fd ps [])
  (ha:PA X (e::es) t)       (I:Inv X ae O H s) (h:IW sp [] E t O H Q)
  (hdb:#[20]=false:=by decide) (he:starEach (e::es) X.env=(false,eval e X.env)::starEach es X.env:=by rfl) (hpl:#[47].any (·.1)=false:=by rfl) :
  wpAny #[1] X.A (eval (.Call (.Name x p) (e::es) [] pos) X.env) #[60] (XP X ae O E) s:=by
 refine wpAny_Call_Name_kw (uK I hg hm ?_ hdb);refine PySem.W.callWith_K (h₀:=X.base) I.ok.mod.kin hk (tM #[46] (λus s1 ⟨vs,H1,I1,r,q⟩=>{I1.kIn, ?_}) λ_ _ z=>?_) he hpl
 .have q:sp (vs++[]) H1 Q E:=q;rw[List.append_nil]at q;let hl:us.length=ps.length:=by rw[<-r.length];exact F.len _ _ _ _ q
  let z:=hb s1 us I1.kIn (by rw[List.append_nil];exact hl);rw[List.append_nil]at z;refine wpAny_call (codeAny_mono (F.run X.A X.stack s1 H1 {us,[]} us vs Q E hr I1.env0 z r q) λr s' hq=>?_);cases r with
  | error y=>exact{H1,s1,I1,(hq)}
  | ok fl=>
   cases fl with
   | ret u=>exact I1.after hq
   | next=>exact False.elim hq
   | brk=>exact False.elim hq
   | cont=>exact False.elim hq
 .rw[hxe]at z;exact z.elim
def PBx(X:Cx)(b:List Stmt)(t:XK->TS):Prop:=
 ∀(ae:List #[13]) (s:Shared) (O:L2.St) (H:Hp) (D:Ends) (E:XK),Inv X ae O H s->t E D O H->wpAny #[1] X.A (execs b X.env) (SP X ae D) (XP X ae O E) s
def tCatch(K:Frag)(D j:Nat)(tb:XK->TS)(ts:TS):TS:=λEd O H=>∃E:XK,tb E Ed O H/\∀(c:Value) (H':Hp),E c none H'->∃(C fC:Addr) (bl:List Value) (n1:String),c=.ref C/\XCls K C fC bl n1/\bl.contains (.ref D)=true/\
 ∀e,H' e=none->ts { nx:=fun O2 H2=>Ed.nx (O2.set j none) H2,bk:=fun O2 H2=>Ed.bk (O2.set j none) H2,ct:=fun O2 H2=>Ed.ct (O2.set j none) H2,rt:=Ed.rt } (O.set j (some (.ref e))) (upd H' e (excH e C))
theorem ps_catch{j:Nat}{tb:XK->TS}(hex:X.ex=[])(hxe:X.xe=λ_ _=>False)
  (stk:X.stack=X.env::X.outer) (frm:X.env.frame=some X.env.locals) (cd:XCls X.K D fD bd n2) (hg:Gl X cl) (hm:X.mg cl=some (.ref D)) (hN:X.N.Nodup) (hj:X.N[j]? = some n) (hk:X.env.kindOf n=some .local)
  (hb:PBx X body tb) (hs:∀e,PSs (hdl X e) (b0::suite) ts) (hdb:(cl==("__debug__" :Str))=false:=by decide) :
  PS X (.Try body [.ExceptHandler (some (.Name cl np)) (some n) (b0::suite) hpos] [] [] tpos) (tCatch X.K D j tb ts):=by
 intro ae s O H Ed I ⟨E,hbody,hcont⟩;refine wpAny_Try_except (tM (hb ae s O H Ed E I hbody) (λfl s1 h1=>?_) λv s1 h1=>?_)
 .cases fl with
  | next=>exact wpAny_execs_nil h1
  | brk=>exact h1
  | cont=>exact h1
  | ret u=>exact h1
 .obtain⟨H1,sc,I1,e,C,a0,H',B,rfl,hle,ho,bare,un,hok,hn,fly,cover,q⟩:=h1;obtain⟨C',fC,bl,n1,ec,c,up,hts⟩:=hcont _ _ q;cases ec;let nf:∀b o,b∈frs X.stack->s1.heap.get? b=some o->∀vs,o.data≠.fields vs:=λb o hb z=>by
   obtain⟨_,o',z',hd⟩:=fly.2.2.1.mem hb;rw[z]at z';cases z';exact hd
  let inv:∀h2:Heap,B.StaysIn h2->s1.heap.UpToSlots h2->Inv X ae O H' { s1 with heap:=h2 } :=λh2 st u2=>
   I1.call' (s':={ s1 with heap:=h2 }) ho (un_up un nf st u2 cover) (hok.kept st) bare λ_ z=>nomatch z
  have hfr:X.A.frames=some (X.env::X.outer):=by rw[<-stk];exact I.ok.frames
  rw[stk]at fly;refine wpAny_looks_onW hfr frm fly λh4 held4 up4=>?_;refine wpAny_landsW held4 λh5 fly5 up5=>?_;let I5:=inv h5 fly5.1 (up4.trans up5);obtain⟨oe,hoe,hoc⟩:=fly5.there;refine wpAny_handleBy_cons (codeAny_handlers_test (uK (X:=hdl X e) (YX I5) hg hm ?_ hdb)) (by intro z;cases z);let KI:=I5.kIn;obtain⟨hp1,g1,d1,tk1,os1⟩:=s1;refine UL KI c cd up hoe hoc ?_;refine codeAny_handlers_suite_as (lands_againW fly5 λh6 fly6 up6=>?_);let I6:=inv h6 fly6.1 ((up4.trans up5).trans up6);obtain⟨o6,h6e,h6c⟩:=fly6.there;let hsz:X.s₀.heap.objs.size<=e:=nQ I1.sz hle;let hL:e≠X.env.locals:=λz=>nJ e (gZ (by rw[z];exact I1.lt) hle);let I7:Inv X ae O (upd H' e (excH e C)) { (⟨hp1,g1,d1,tk1,os1⟩:Shared)with heap:=h6 } :=track hex I6 hn hsz hL (λx c z=>by obtain⟨_,o,ho,_⟩:=I1.cell x c z;exact nS (gZ (nP ho) hle)) (λp z=>nS (gZ (nP (I1.pin p z).1) hle)) λH=>excH_ok h6e h6c;refine yK I7 hN hj (Or.inl hk) (v:=.ref e) rfl (λs8 I8=>?_) (.inr hk);refine tM (hs e ae s8 _ _ _ (YX I8) (hts e hn)) (λfl s9 h9=>?_) λ_ _ z=>z.elim;cases fl with
  | next=>
   obtain⟨O2,H2,I9,q9⟩:=h9;exact zZ (CJ I.ok I9) hN hj hk λs' I'=>{_,H2,I',q9}
  | brk=>
   obtain⟨O2,H2,I9,q9⟩:=h9;exact zZ (CJ I.ok I9) hN hj hk λs' I'=>{_,H2,I',q9}
  | cont=>
   obtain⟨O2,H2,I9,q9⟩:=h9;exact zZ (CJ I.ok I9) hN hj hk λs' I'=>{_,H2,I',q9}
  | ret u=>
   obtain⟨v,O2,H2,I9,rv,q9⟩:=h9;exact zZ (CJ I.ok I9) hN hj hk λs' I'=>{v,_,H2,I',rv,q9}
theorem pbx_set{pos' pos2:Pos}{i:Nat}(hxe:X.xe=λ_ _=>False)(hN:X.N.Nodup)(hi:X.N[i]? = some y)(hy:X.env.scope.names.lookup y=some .local)(F:FnOk X.prog X.w X.K X.mg X.base (CXF X.prog X.w) k f fd ps sp)(hr:Room k X.A)(hg:Gl X x)(hm:X.mg x=some (.ref f))
  (hk:PySem.W.keepIn X.K (.ref f)=true) (hb:Binds X.K fd ps []) (ha:PA X (e::es) t) (hdb:#[20]=false:=by decide) (he:starEach (e::es) X.env=(false,eval e X.env)::starEach es X.env:=by rfl)
  (hpl:#[47].any (·.1)=false:=by rfl) (hs:swapsWith (.Call (.Name x p) (e::es) [] pos) (some (.Name y pos2)) pos'.line X.env=pure false:=by rfl) :
  PBx X [.Assign [.Name y pos2] (.Call (.Name x p) (e::es) [] pos) pos'] (λE=>xS (IW sp [] E t) (jP i)):=by
 intro ae s O H D E I h;refine wpAny_execs_cons (wpAny_Assign_Name (tM (ex_call hxe F hr hg hm hk hb ha I h hdb he hpl) (λv s1 ⟨z,H1,I1,r1,q1⟩=>?_) λ_ _ z=>z) hs);exact yK I1 hN hi (Or.inl hy) r1 (λs2 I2=>wpAny_execs_nil {_,H1,I2,q1}) (.inr hy)
end
open PySem.Calls
section
variable{prog:Program}{w:World}{A:Around}{E:Value->Shared->Prop}{hp:Heap}{g:Array GenState}{d:Drawn}{tk:Nat}{os:OsState}{K:Frag}{C fC a:Addr}{bl:List Value}{n1:String}{o:Obj}
theorem ga_slot:Slot "BaseException" "__getattribute__" "BaseException.__getattribute__":=
 .of (owner:="BaseException") (n:="__getattribute__") (by rw[typeLookup_type,builtinLookup_eq_fast];kernel_rfl) #[2] #[2] #[2]
  (by first | exact .inl #[2] | exact .inr #[2]) (by rw[isSubtype_type];kernel_rfl)
theorem ga_kind:builtinKind "BaseException.__getattribute__" = some .slot:=by decide +kernel
theorem ZD:splitId "BaseException.__getattribute__" = some ("BaseException","__getattribute__"):=by decide +kernel
theorem cls_get{R:Result->Shared->Prop}(KI:K.In hp)(c:XCls K C fC bl n1)(hx:hp.get? a=some o)(hc:o.cls=.ref C)(q:R (.ok (.ret (.ref C))) {hp,g,d,tk,(os)}) :
  codeAny #[3] A (.call (.builtin "getset_descriptor.__get__") {[.builtin "object.__class__",.ref a,.ref C],[]}) R {hp,g,d,tk,(os)}:=by
 let t5:(⟨hp,g,d,tk,os⟩:Shared).TypeIs (.builtin "object.__class__") "getset_descriptor":=PySem.F.typeOf_object_class;let LS:Looks #[3] hp (isSubtype (.ref C) (.type (".".intercalate ("object.__class__".cutAt '.').dropLast))) true:=by
  rw[PySem.F.owner_object_class];exact looks_mroIn KI c.obj'
 refine codeAny_call_builtin PySem.F.slot_gs_get.plain PySem.F.entry_gs_get (PySem.F.slot_gs_get.check _ _ _ _ _ _ _ _ t5 (PySem.F.args_gs_get _ _ _) ?_)
 repeat (any_goals (first | assumption | (with_reducible refine wpAny_loadPart_at hx ?_;rw[hc]) | with_reducible refine LS.at ?_ | wp_step))
 refine{Code.quiet_builtin _ #[2],codeAny_builtin PySem.F.entry_object_class ?_}
 repeat (any_goals (first | assumption | (with_reducible refine wpAny_loadPart_at hx ?_;rw[hc]) | wp_step))
theorem UT{Q:Fin->Shared->Prop}(KI:K.In hp)(c:XCls K C fC bl n1)(hx:hp.get? a=some o)(hc:o.cls=.ref C)(q:Q (.done (.ret (.ref C))) {hp,g,d,tk,(os)}) :
  wpAny #[3] A (Builtin.«object.__getattribute__» {[.ref a,.str "__class__" u],[]}) Q E {hp,g,d,tk,(os)}:=by
 let t5:(⟨hp,g,d,tk,os⟩:Shared).TypeIs (.builtin "object.__class__") "getset_descriptor":=PySem.F.typeOf_object_class;let t6:=PySem.F.typeOf_object_class;let t7:=PySem.F.slot_gs_get.lookup;let t8:=PySem.F.slot_gs_set.lookup;let L3:=looks_findIn (M:=model prog w) KI c.cl
 repeat (any_goals (first | assumption | (with_reducible refine wpAny_loadPart_at hx ?_;rw[hc]) | with_reducible refine L3.at ?_ | wp_step))
 refine cls_get KI c hx hc ?_
 repeat (any_goals (first | assumption | wp_step))
theorem ZE{Q:Unit->Shared->Prop}(LI:Looks M hp (isInstance (.ref a) (.type "BaseException")) true)(q:Q () {hp,g,d,tk,(os)}) :
  wpAny M A (checkBuiltinCall "BaseException.__getattribute__" {[.ref a,v],[]}) Q E {hp,g,d,tk,(os)}:=by
 let z3:=PySem.F.args_bexc_ga (.ref a) v;simp only[checkBuiltinCall,ga_kind,ZD];refine tK (LI.at ?_)
 repeat (first | assumption | wp_step)
theorem cls_call{R:Result->Shared->Prop}(KI:K.In hp)(c:XCls K C fC bl n1)(hx:hp.get? a=some o)(hc:o.cls=.ref C)(q:R (.ok (.ret (.ref C))) {hp,g,d,tk,(os)}) :
  codeAny #[3] A (.call (.builtin "BaseException.__getattribute__") {[.ref a,.str "__class__" u],[]}) R {hp,g,d,tk,(os)}:=by
 obtain⟨nm,qn,N,bs,hd,sn,sub,ab,col,dd,a0,a1,a2,a3,a5,lk'⟩:=c.obj;let oc:=KI _ _ lk';let y:(Value.ref C::bl).contains (.type "BaseException")=true:=by rw[List.contains_cons,c.isBase,Bool.or_true]
 let T0:Looks #[3] hp (typeOf (.ref a)) (.ref C):=by
  let z:Looks #[3] hp (typeOf (.ref a)) o.cls:=(Looks.ld hx).andThen .now;rw[hc]at z;exact z
 let LI:Looks #[3] hp (isInstance (.ref a) (.type "BaseException")) true:=by
  refine T0.andThen ?_;intro A' Q' E' s' k q';obtain⟨hp',g',d',tk',os'⟩:=s';refine wpAny_isSubtype_exc (k _ _ oc) ?_;rw[y];exact q'
 exact codeAny_call_builtin ga_slot.plain PySem.F.entry_bexc_ga (ZE LI (UT KI c hx hc q))
theorem cls_by{Q:Value->Shared->Prop}(KI:K.In hp)(c:XCls K C fC bl n1)(hx:hp.get? a=some o)(hc:o.cls=.ref C)(q:Q (.ref C) {hp,g,d,tk,(os)}) :
  wpAny #[3] A (getAttrBy (.ref a) (.str "__class__" u) false) Q E {hp,g,d,tk,(os)}:=by
 let t3:=ga_slot.bind (.ref a);let x0:(false&&onTheHeap (Value.builtin "BaseException.__getattribute__"))=false:=rfl;let x2:(Value.builtin "BaseException.__getattribute__"==Value.builtin "object.__getattribute__")=false:=by decide +kernel
 let x1:(onTheHeap (Value.ref C)&&Value.builtin "BaseException.__getattribute__"==Value.builtin "object.__getattribute__")=false:=by rw[x2];rfl
 let L1:=looks_findIn (M:=model prog w) KI c.ga;let L2:=looks_findIn (M:=model prog w) KI c.gn
 repeat (any_goals (first | assumption | (with_reducible refine wpAny_loadPart_at hx ?_;rw[hc]) | with_reducible refine L1.at ?_ | with_reducible refine L2.at ?_ | wp_step))
 refine cls_call KI c hx hc ?_
 repeat (any_goals (first | assumption | wp_step))
theorem UM{Q:Option Value->Shared->Prop}(KI:K.In hp)(c:XCls K C fC bl n1)(hx:hp.get? a=some o)(hc:o.cls=.ref C)(q:Q (some (.ref C)) {hp,g,d,tk+1,os}) :
  wpAny #[3] A (getAttr? (.ref a) "__class__") Q E {hp,g,d,tk,(os)}:=by
 unfold getAttr? getAttrBy?
 repeat (any_goals (first | assumption | with_reducible apply cls_by KI c hx hc | wp_step))
end
theorem KP{K:Frag}{C fC a:Addr}{bl:List Value}{n1:String}(c:XCls K C fC bl n1):KitX K (.ref a) (.ref C) (λh=>∃o,h.get? a=some o/\o.cls=.ref C) where
 ty:=λM h _ ⟨o,h1,h2⟩=>by
  let z:Looks M h (typeOf (.ref a)) o.cls:=(Looks.ld h1).andThen .now;rw[h2]at z;exact z
 it:=λM h KI _=>by
  obtain⟨nm,qn,N,bs,hd,sn,sub,ab,col,dd,a0,a1,a2,a3,a5,lk'⟩:=c.obj;intro A' Q' E' s' k q;unfold isType loadHead;exact tK (wpAny_loadPart (k _ _ (KI _ _ lk')) (tL q))
 ne:=λh tp dd its n sl KI htp=>by
  obtain⟨nm,qn,N,bs,hd,sn,sub,ab,col,dd,a0,a1,a2,a3,a5,lk'⟩:=c.obj;refine Bool.eq_false_iff.mpr λq=>?_;let z:C=tp:=Value.ref.inj (beq_iff_eq.mp q);subst z;let y:=congrArg Obj.data (Option.some.inj ((KI _ _ lk').symm.trans htp));cases y
 ca:=fun {prog w A E Q s} KI p k=>by
  obtain⟨o,h1,h2⟩:=p;obtain⟨hp,g,d,tk,os⟩:=s;exact UM KI c h1 h2 k
def VCls:V->Value->Prop
 | .ref D,v=>v=.ref D
 | .ty T,v=>v=.type T
 | _,_=>False
theorem VCls.rel(h:VCls x v)(r:RelV x u):u=v:=by
 cases x with
 | ref D=>exact(show u=.ref D from r).trans (show v=.ref D from h).symm
 | ty T=>exact(show u=.type T from r).trans (show v=.type T from h).symm
 | _=>exact h.elim
theorem CP:∀{xs:List V} {us vs:List Value},Paired VCls xs vs->Vals xs us->us=vs
 | _,_,_,.nil,.nil=>rfl
 | _,_,_,.cons c t,.cons r s=>by rw[c.rel r,CP t s]
section
variable{X:Cx}
def rIsX(K:Frag):List V->Hp->VK->Prop:=λxs H Q=>∃(a C fC:Addr) (bl:List Value) (n1:String) (y:V) (c:Value) (b:Bool),xs=[.ref a,y]/\H a=some (excH a C)/\XCls K C fC bl n1/\VCls y c/\kitOne K (.ref C) c=some b/\Q (.bl b) H
theorem call_isX:CallR X (.builtin "isinstance") (rIsX X.K):=by
 intro ae s O H xs us Q I r h;obtain⟨a,C,fC,bl,n1,y,c,b,rfl,ha,cc,hy,hb,q⟩:=h;obtain⟨u1,u2,rfl,r1,r2⟩:=OA r;cases r1;rw[hy.rel r2];obtain⟨p,_⟩:=(show ObjOk X.prog X.w H s.heap a (excH a C)from I.hok a _ ha);exact kia_one (KP cc) I.kIn p hb #[27] λtk=>{.bl b,H,I.tok tk,rfl,q}
def rIsXT(K:Frag):List V->Hp->VK->Prop:=λxs H Q=>∃(a C fC tp:Addr) (bl:List Value) (n1:String) (ys:List V) (cs:List Value) (b:Bool),xs=[.ref a,.ref tp]/\H a=some (excH a C)/\XCls K C fC bl n1/\H tp=some (.tup ys)/\Paired VCls ys cs/\kitAny K (.ref C) cs=some b/\Q (.bl b) H
theorem UY:CallR X (.builtin "isinstance") (rIsXT X.K):=by
 intro ae s O H xs us Q I r h;obtain⟨a,C,fC,tp,bl,n1,ys,cs,b,rfl,ha,cc,ht,hy,hb,q⟩:=h;obtain⟨u1,u2,rfl,r1,r2⟩:=OA r;cases r1;cases r2;obtain⟨p,_⟩:=(show ObjOk X.prog X.w H s.heap a (excH a C)from I.hok a _ ha);obtain⟨_,its,rv,it,_⟩:=(show ObjOk X.prog X.w H s.heap tp (.tup ys)from I.hok tp _ ht);let e:=CP hy rv;subst e;obtain⟨o,h1,h2,n,h3⟩:=it;obtain⟨oc,od,odt,osl⟩:=o;cases h2;cases h3;exact kia_tup (KP cc) I.kIn p h1 hb #[27] λtk=>{.bl b,H,I.tok tk,rfl,q}
end
end LwE
namespace Lw
open PySem PySem.Spec PyProof.Rows L2
section
variable{X:Cx}{CX1 CX2:CXT}{k1 k2:Nat}{f1 f2:Addr}{fd1 fd2:FuncData}{ps1 ps2:List Str}{sp1 sp2:Sp}{E:XK}{q pos:Pos}{o i e:Expr}{es:List Expr}{tf:TE}{t:TA}
end
end Lw
namespace LwT
open PySem PySem.Spec PyProof.Rows L2 Lw
def qF(f:Int->Int->Bool)(g:Nat->Nat->Bool):List Int->List Int->Bool
 | x::xs,y::ys=>if x=y then qF f g xs ys else f x y
 | xs,ys=>g xs.length ys.length
abbrev FI:List Int->List Int->Bool:=qF (λi j=>decide (i<j)) (λm n=>decide (m<n))
abbrev lexNe:List Int->List Int->Bool:=qF (λ_ _=>true) (λm n=>m != n)
abbrev lexGe:List Int->List Int->Bool:=qF (λi j=>decide (j<=i)) (λm n=>decide (n<=m))
theorem xI{f g}{ys:List Int} :qF f g [] ys=g 0 ys.length:=by cases ys<;>rfl
theorem xB{f g}{xs:List Int} :qF f g xs []=g xs.length 0:=by cases xs<;>rfl
theorem YL:∀(xs ys:List Int),lexGe xs ys = !FI xs ys
 | [],ys=>by
  show qF _ _ _ _ = !qF _ _ _ _;rw[xI,xI];cases ys<;>simp
 | x::xs,[]=>by
  show qF _ _ _ _ = !qF _ _ _ _;rw[xB,xB];simp
 | x::xs,y::ys=>by
  show(if x=y then lexGe xs ys else _) = !(if x=y then FI xs ys else _);by_cases h:x=y
  .rw[tO h,tO h];exact YL xs ys
  .rw[tN h,tN h];by_cases h2:x<y
   .simp [h2,show ¬y<=x by omega]
   .simp [h2,show y<=x by omega]
theorem lexNe_eq:∀(xs ys:List Int),qF (λ_ _=>true) (λm n=>m != n) xs ys = !decide (xs=ys)
 | [],ys=>by
  rw[xI];cases ys<;>simp
 | x::xs,[]=>by
  rw[xB];simp
 | x::xs,y::ys=>by
  show(if x=y then qF _ _ xs ys else true)=_;by_cases h:x=y
  .rw[tO h,lexNe_eq xs ys];simp [h]
  .rw[tN h];simp [h]
theorem QW{f:Int->Int->Bool}{g:Nat->Nat->Bool}{xs ys:List Int}{i:Nat}(h:min xs.length ys.length<=i):qF f g (xs.drop i) (ys.drop i)=g (xs.length-i) (ys.length-i):=by
 by_cases hx:xs.length<=i
 .rw[gF hx,xI,List.length_drop];rw[show xs.length-i=0 by omega]
 .have hy:ys.length<=i:=by omega
  rw[gF hy,xB,List.length_drop];rw[show ys.length-i=0 by omega]
theorem wF{vs:List Value}{ns:List Int}(r:IntsAre vs ns){i:Nat}(h:i<vs.length):∃n t,vs[i]=.int n t/\ns.drop i=n::ns.drop (i+1):=by
 obtain⟨n,t,e1,e2⟩:=vL r h;refine{n,t,e2, ?_};obtain⟨hi,e⟩:=uW.mp e1;rw[List.drop_eq_getElem_cons hi,e]
section
variable{l b:Addr}{as bs:List Value}{xs ys:List Int}{n n2:Nat}{dd dd2:Option Addr}{sl sl2:Array (Option Value)}
theorem tuple_lt(ra:IntsAre as xs)(rb:IntsAre bs ys) :
  Meets (Builtin.«tuple.__lt__» {[.ref l,.ref b],[]})
   (λ_ R s=>s.heap.get? l=some { cls:=.type "tuple",dict:=dd,data:=.seq as.toArray n,slots:=sl }/\s.heap.get? b=some { cls:=.type "tuple",dict:=dd2,data:=.seq bs.toArray n2,slots:=sl2 }/\
    R (.ok (.ret (.bool (FI xs ys)))) s):=
 .of_wp λprog w A R s h=>by
  obtain⟨hp,g,d,tk,os⟩:=s;obtain⟨hl,hb,h⟩:=h;let f2:=AutoSeq1.sub_tuple_tuple;let la:=vD ra;let lb:=vD rb;let hZ:(as.zip bs).length=min as.length bs.length:=by simp
  wp_walk using wpAny_loadPart' hl,wpAny_loadPart' hb,wpAny_forIn_list _ (λrest b s'=>b.1=none/\s'={hp,g,d,tk,(os)}/\∃i,i<=(as.zip bs).length/\rest=(as.zip bs).drop i/\
   R (.ok (.ret (.bool (FI (xs.drop i) (ys.drop i))))) {hp,g,d,tk,(os)}) _
  case turn=>
   rintro⟨y,x⟩ rest b s' ⟨hb',rfl,i,hi,hz,hR⟩;let hlt:i<(as.zip bs).length:=by
    rcases Nat.lt_or_ge i (as.zip bs).length with h' | h'
    .exact h'
    .rw[gF h']at hz;cases hz
   let h1:i<as.length:=by omega
   let h2:i<bs.length:=by omega
   rw[List.drop_eq_getElem_cons hlt]at hz;injection hz with hyx hrest
   obtain⟨p,t1,e1,d1⟩:=wF ra h1;obtain⟨q,t2,e2,d2⟩:=wF rb h2;let hy:y=.int p t1:=by let:=congrArg Prod.fst hyx;rw[<-e1];simpa using this
   let hx:x=.int q t2:=by let:=congrArg Prod.snd hyx;rw[<-e2];simpa using this
   subst hy hx;rw[d1,d2]at hR;let hR:R (.ok (.ret (.bool (if p=q then FI (xs.drop (i+1)) (ys.drop (i+1))else decide (p<q))))) ⟨hp,g,d,tk,os⟩:=hR;refine tK (SeqAt.EqAt.int_int _ _ _ _ prog w _ _ ?_);by_cases hpq:p=q
   .rw[tO hpq]at hR;let e:(p==q)=true:=by simp [hpq]
    rw[e]
    wp_walk
    exact{rfl,rfl,i+1,hlt,hrest,hR}
   .rw[tN hpq]at hR;let e:(p==q)=false:=by simp [hpq]
    rw[e];simp only[Bool.not_false,if_true];refine tK (wpAny_rule ?_);refine tK (lt_int (a:=p) (b:=q) ?_)
    wp_walk
    exact{_,rfl,hR}
  case fin=>
   rintro⟨b1,b2⟩ s' ⟨hb',rfl,i,hi,hz,hR⟩;simp only at hb';subst hb';let hge:min as.length bs.length<=i:=by
    rcases Nat.lt_or_ge i (as.zip bs).length with h' | h'
    .rw[List.drop_eq_getElem_cons h']at hz;cases hz
    .exact hZ▸h'
   let e:FI (xs.drop i) (ys.drop i)=decide (xs.length-i<ys.length-i):=QW (by rw[la,lb]at hge;exact hge);let e2:decide (xs.length-i<ys.length-i)=decide (as.length<bs.length):=by
    rw[hZ]at hi;by_cases q:as.length<bs.length
    .rw[mW q,mW (by omega)]
    .rw[mU q,mU (by omega)]
   rw[e,e2]at hR
   wp_walk
   exact{_,rfl,by simpa [Builtin.Tuple.tupleCompareSizes]using hR}
  case h=>
   exact{rfl,rfl,0,tF _,rfl,by simpa using h}
theorem VN(ra:IntsAre as xs)(rb:IntsAre bs ys) :
  Meets (Builtin.«tuple.__ne__» {[.ref l,.ref b],[]})
   (λ_ R s=>s.heap.get? l=some { cls:=.type "tuple",dict:=dd,data:=.seq as.toArray n,slots:=sl }/\s.heap.get? b=some { cls:=.type "tuple",dict:=dd2,data:=.seq bs.toArray n2,slots:=sl2 }/\
    R (.ok (.ret (.bool (lexNe xs ys)))) s):=
 .of_wp λprog w A R s h=>by
  obtain⟨hp,g,d,tk,os⟩:=s;obtain⟨hl,hb,h⟩:=h;let f2:=AutoSeq1.sub_tuple_tuple;let la:=vD ra;let lb:=vD rb;let hZ:(as.zip bs).length=min as.length bs.length:=by simp
  wp_walk using wpAny_loadPart' hl,wpAny_loadPart' hb,wpAny_forIn_list _ (λrest b s'=>b.1=none/\s'={hp,g,d,tk,(os)}/\∃i,i<=(as.zip bs).length/\rest=(as.zip bs).drop i/\
   R (.ok (.ret (.bool (lexNe (xs.drop i) (ys.drop i))))) {hp,g,d,tk,(os)}) _
  case turn=>
   rintro⟨y,x⟩ rest b s' ⟨hb',rfl,i,hi,hz,hR⟩;let hlt:i<(as.zip bs).length:=by
    rcases Nat.lt_or_ge i (as.zip bs).length with h' | h'
    .exact h'
    .rw[gF h']at hz;cases hz
   let h1:i<as.length:=by omega
   let h2:i<bs.length:=by omega
   rw[List.drop_eq_getElem_cons hlt]at hz;injection hz with hyx hrest
   obtain⟨p,t1,e1,d1⟩:=wF ra h1;obtain⟨q,t2,e2,d2⟩:=wF rb h2;let hy:y=.int p t1:=by let:=congrArg Prod.fst hyx;rw[<-e1];simpa using this
   let hx:x=.int q t2:=by let:=congrArg Prod.snd hyx;rw[<-e2];simpa using this
   subst hy hx;rw[d1,d2]at hR;let hR:R (.ok (.ret (.bool (if p=q then lexNe (xs.drop (i+1)) (ys.drop (i+1))else true)))) ⟨hp,g,d,tk,os⟩:=hR;refine tK (SeqAt.EqAt.int_int _ _ _ _ prog w _ _ ?_);by_cases hpq:p=q
   .rw[tO hpq]at hR;let e:(p==q)=true:=by simp [hpq]
    rw[e]
    wp_walk
    exact{rfl,rfl,i+1,hlt,hrest,hR}
   .rw[tN hpq]at hR;let e:(p==q)=false:=by simp [hpq]
    rw[e]
    wp_walk
    exact{_,rfl,hR}
  case fin=>
   rintro⟨b1,b2⟩ s' ⟨hb',rfl,i,hi,hz,hR⟩;simp only at hb';subst hb';let hge:min as.length bs.length<=i:=by
    rcases Nat.lt_or_ge i (as.zip bs).length with h' | h'
    .rw[List.drop_eq_getElem_cons h']at hz;cases hz
    .exact hZ▸h'
   let e:lexNe (xs.drop i) (ys.drop i)=(xs.length-i != ys.length-i):=QW (by rw[la,lb]at hge;exact hge);let e2:(xs.length-i != ys.length-i)=(as.length != bs.length):=by
    rw[hZ]at hi;by_cases q:as.length=bs.length
    .have q2:xs.length-i=ys.length-i:=by omega
     rw[bne,bne,q2,q,beq_self_eq_true,beq_self_eq_true]
    .have q2:¬xs.length-i=ys.length-i:=by omega
     rw[bne,bne,beq_eq_false_iff_ne.mpr q2,beq_eq_false_iff_ne.mpr q]
   rw[e,e2]at hR
   wp_walk
   exact{_,rfl,by simpa [Builtin.Tuple.tupleCompareSizes]using hR}
  case h=>
   exact{rfl,rfl,0,tF _,rfl,by simpa using h}
end
section
variable{X:Cx}
def rOrdT(K:tP)(f:List Int->List Int->Bool):R2:=λx y H Q=>∃(a b:Addr) (ns ms:List Int),x=.ref a/\y=.ref b/\SqT K H a #[16]/\SqT K H b (ms.map V.int)/\Q (.bl (f ns ms)) H
theorem op_neT(hu:X.A.units<cLine):OpR X (compareOp .NotEq) (rOrdT X.K lexNe):=by
 intro ae s O H x y v u Q I rx ry h;obtain⟨a,b,ns,ms,rfl,rfl,ha,hb,q⟩:=h;cases rx;cases ry;obtain⟨its,r1,p1,_⟩:=I.tuple ha;obtain⟨its2,r2,p2,_⟩:=I.tuple hb;obtain⟨⟨cls,dd,data,sl⟩,ho,hc,n,hd⟩:=id p1;obtain⟨⟨cls2,dd2,data2,sl2⟩,ho2,hc2,n2,hd2⟩:=id p2;simp only at hc hd hc2 hd2;subst hc hd hc2 hd2;exact richCompare_meets_room (op:=.NotEq) {_,ho,rfl} {_,ho2,rfl} PySem.F.slot_tuple_ne PySem.F.entry_tuple_ne (PySem.F.args_tuple_ne_2 _ _) (VN (qW r1) (qW r2)) {ho,ho2,show Value.bool _≠Value.notImplemented/\_ from{#[27],{.bl _,H,I,rfl,q}}} hu
end
end LwT
namespace L2
open PySem PySem.Spec PyProof.Rows
section
variable{Y:Type} [DecidableEq Y]
def kK(aj:List (Y×V))(k:Y):Option V:=(aj.find? λkv=>decide (kv.1=k)).map (·.2)
def qB(aj:List (Y×V))(k:Y)(v:V):List (Y×V):=
 if #[53]=true then aj.map (λkv=>if kv.1=k then(kv.1,v)else kv)else aj++[(k,v)]
def BH(aj:List (Y×V))(k:Y):List (Y×V):=aj.filter λkv=>decide (kv.1≠k)
theorem qN{p:Y×V}{r:List (Y×V)}{k:Y}(e:p.1=k):kK (p::r) k=some p.2:=by simp [kK,List.find?_cons,e]
theorem qZ{p:Y×V}{r:List (Y×V)}{k:Y}(e:¬p.1=k):kK (p::r) k=kK r k:=by simp [kK,List.find?_cons,e]
theorem xR(k:Y):∀aj:List (Y×V),#[53]=(kK aj k).isSome
 | []=>rfl
 | p::r=>by
  rw[List.any_cons];by_cases e:p.1=k
  .simp only[qN e,mW e,Bool.true_or,Option.isSome_some]
  .rw[qZ e,mU e,Bool.false_or];exact xR k r
theorem IS(k j:Y)(y:V):∀aj:List (Y×V),kK (aj.map λkv=>if kv.1=k then(kv.1,y)else kv) j=(kK aj j).map λx=>if j=k then y else x
 | []=>rfl
 | p::r=>by
  let ih:=IS k j y r;rw[nH];by_cases h:p.1=k
  .rw[tO h];by_cases e:p.1=j
   .rw[qN (p:=(p.1,y)) e,qN e,Option.map_some,tO (e.symm.trans h)]
   .rw[qZ (p:=(p.1,y)) e,qZ e,ih]
  .rw[tN h];by_cases e:p.1=j
   .rw[qN (p:=p) e,qN e,Option.map_some,tN (λz=>h (e.trans z))]
   .rw[qZ (p:=p) e,qZ e,ih]
theorem EV(k j:Y)(y:V):∀aj:List (Y×V),kK aj k=none->kK (aj++[(k,y)]) j=if j=k then some y else kK aj j
 | [],_=>by
  by_cases e:k=j
  .rw[tO e.symm];exact qN (p:=(k,y)) e
  .rw[tN (λz=>e z.symm)];exact qZ (p:=(k,y)) e
 | p::r,hn=>by
  rw[List.cons_append];let hk:¬p.1=k:=λz=>by rw[qN z]at hn;cases hn
  rw[qZ hk]at hn;let ih:=EV k j y r hn;by_cases e:p.1=j
  .rw[qN e,qN e,tN (λz=>hk (e.trans z))]
  .rw[qZ e,qZ e,ih]
theorem VE(aj:List (Y×V))(k j:Y)(y:V):kK (qB aj k y) j=if j=k then some y else kK aj j:=by
 unfold qB;by_cases a:#[53]=true
 .rw[tO a,IS];rw[xR]at a;by_cases e:j=k
  .obtain⟨x,hx⟩:=Option.isSome_iff_exists.mp a;rw[tO e,e,hx,Option.map_some,tO rfl]
  .rw[tN e];cases kK aj j with
   | none=>rfl
   | some x=>rw[Option.map_some,tN e]
 .rw[tN a];refine EV k j y aj ?_;rw[xR]at a;cases q:kK aj k with
  | none=>rfl
  | some x=>rw[q]at a;exact(a rfl).elim
theorem vW(aj:List (Y×V))(k:Y)(v:V):(qB aj k v).length<=aj.length+1:=by
 unfold qB;split
 .rw[mS];∎
 .rw[List.length_append,mN,List.length_nil];∎
theorem WR{aj:List (Y×V)}{k:Y}(v:V)(h:kK aj k=none):qB aj k v=aj++[(k,v)]:=by
 unfold qB;rw[xR,h];exact tN #[0]
theorem RelO.isSome_eq{o:Option V}{u:Option Value}(r:RelO o u):o.isSome=u.isSome:=by
 cases o with
 | none=>cases u with
  | none=>rfl
  | some _=>exact(show False from r).elim
 | some _=>cases u with
  | none=>exact(show False from r).elim
  | some _=>rfl
theorem RelO.getD{o:Option V}{u:Option Value}(r:RelO o u)(rd:RelV d d'):RelV (o.getD d) (u.getD d'):=by
 cases o with
 | none=>cases u with
  | none=>exact rd
  | some _=>exact(show False from r).elim
 | some _=>cases u with
  | none=>exact(show False from r).elim
  | some _=>exact r
theorem KV.val{aj:List (Y×V)}{vs:List (Y×Value)}(r:KV aj vs)(k:Y):RelO (kK aj k) (valueAt vs k):=by
 unfold KV at r;induction r with
 | nil=>exact True.intro
 | @cons p q ps qs h t ih=>
  obtain⟨h1,h2⟩:=h;by_cases e:p.1=k
  .have e':q.1=k:=h1.symm.trans e;let b:valueAt (q::qs) k=some q.2:=by simp [valueAt,List.find?_cons,e']
   rw[qN e,b];exact h2
  .have e':¬q.1=k:=λz=>e (h1.trans z);let b:valueAt (q::qs) k=valueAt qs k:=by simp [valueAt,List.find?_cons,e']
   rw[qZ e,b];exact ih
theorem KV.any{aj:List (Y×V)}{vs:List (Y×Value)}(r:KV aj vs)(k:Y):#[53]=vs.any λkv=>decide (kv.1=k):=by
 unfold KV at r;induction r with
 | nil=>rfl
 | cons h t ih=>rw[List.any_cons,List.any_cons,ih,h.1]
theorem KV.repl{aj:List (Y×V)}{vs:List (Y×Value)}(r:KV aj vs)(k:Y)(ry:RelV y u) :
  KV (aj.map λkv=>if kv.1=k then(kv.1,y)else kv) (vs.map λkv=>if kv.1=k then(kv.1,u)else kv):=by
 unfold KV at r ⊢;induction r with
 | nil=>exact .nil
 | @cons p q ps qs h t ih=>
  rw[nH,nH];refine .cons ?_ ih;obtain⟨h1,h2⟩:=h;by_cases e:p.1=k
  .rw[tO e,tO (h1.symm.trans e)];exact{h1,(ry)}
  .rw[tN e,tN (λz=>e (h1.trans z))];exact{h1,(h2)}
theorem KV.put{aj:List (Y×V)}{vs:List (Y×Value)}(r:KV aj vs)(k:Y)(ry:RelV y u):KV (qB aj k y) (stored vs k u):=by
 unfold qB stored;rw[r.any k];by_cases e:(vs.any λkv=>decide (kv.1=k))=true
 .rw[tO e,tO e];exact r.repl k ry
 .rw[tN e,tN e];exact Paired.snoc r {rfl,(ry)}
theorem KV.length{aj:List (Y×V)}{vs:List (Y×Value)}(r:KV aj vs):aj.length=vs.length:=Paired.length r
theorem ZU(aj:List (Y×V))(k:Y):(BH aj k).length<=aj.length:=List.length_filter_le _ _
end
theorem BG(r:RelV (kV k) u):(jU P w).is k u=true:=by
 cases k with
 | inl i=>obtain⟨t,e⟩:=(show ∃t,u=Value.int i t from r);subst e;exact KG P w i t
 | inr x=>obtain⟨t,e⟩:=(show ∃t,u=Value.str x t from r);subst e;exact KF P w x t
theorem FL :∀{ks:List Key} {us:List Value},Vals (ks.map kV) us->ItemsAre (jU P w) ks us
 | [],_,r=>by rw[List.map_nil]at r;cases r;exact .nil
 | k::ks,_,r=>by
  rw[nH]at r;cases r with
  | cons h t=>exact .cons (BG h) (FL t)
abbrev KT(H:Hp):List #[57]->List #[17]->Prop:=Paired λp q=>p.1=q.1/\H q.2.1=some (.tup (p.1.map kV))/\RelV p.2 q.2.2
theorem KT.val(r:KT H aj xs)(k:List Key):RelO (kK aj k) ((atKey xs k).map (·.2)):=by
 induction r with
 | nil=>exact True.intro
 | @cons p q ps qs h t ih=>
  obtain⟨h1,_,h2⟩:=h;by_cases e:p.1=k
  .have e':q.1=k:=h1.symm.trans e;let b:atKey (q::qs) k=some q.2:=by simp [atKey,List.find?_cons,e']
   rw[qN e,b];exact h2
  .have e':¬q.1=k:=λz=>e (h1.trans z);let b:atKey (q::qs) k=atKey qs k:=by simp [atKey,List.find?_cons,e']
   rw[qZ e,b];exact ih
theorem KT.repl{aj:List #[57]}{xs:List #[17]}(r:KT H aj xs)(k:List Key)(ry:RelV y u) :
  KT H (aj.map λkv=>if kv.1=k then(kv.1,y)else kv) (xs.map (putAt k u)):=by
 induction r with
 | nil=>exact .nil
 | @cons p q ps qs h t ih=>
  rw[nH,nH];refine .cons ?_ ih;obtain⟨h1,h2,h3⟩:=h;unfold putAt;by_cases e:p.1=k
  .rw[tO e,tO (h1.symm.trans e)];exact{h1,h2,(ry)}
  .rw[tN e,tN (λz=>e (h1.trans z))];exact{h1,h2,(h3)}
theorem KT.put(r:KT H aj xs)(k:List Key)(hb:H b=some (.tup (k.map kV)))(ry:RelV y u) :
  KT H (qB aj k y) (storedH xs k b u):=by
 let e:#[53]=(atKey xs k).isSome:=by
  rw[xR,(r.val k).isSome_eq,Option.isSome_map]
 unfold qB storedH;rw[e];by_cases q:(atKey xs k).isSome=true
 .rw[tO q,tO q];exact r.repl k ry
 .rw[tN q,tN q];exact Paired.snoc r {rfl,hb,(ry)}
theorem KT.keeps(r:KT H aj xs)(ht:∀b ys,H b=some (.tup ys)->H' b=some (.tup ys)):KT H' aj xs:=
 Paired.mapP r λ_ _ z=>{z.1,ht _ _ z.2.1,z.2.2}
section
variable{P:Program}{w:World}{H:Hp}{h:Heap}{a:Addr}
theorem rd_of(ok:HOk P w H h)(e:Rd H a u):ObjOk P w H h a u:=e.ok ok
theorem AE{aj:List (Key×V)}(ok:HOk P w H h)(e:Rd H a (.dK aj)):aj.length<=sizeLine/\(a==sysModules)=false/\∃vs,KV aj vs/\h.DictOf (jU P w) a vs:=
 show ObjOk P w H h a (.dK aj)from rd_of ok e
theorem RX{aj:List (Key×V)}(ok:HOk P w H h)(e:H a=some (.dK aj)):aj.length<=sizeLine/\(a==sysModules)=false/\∃vs,KV aj vs/\h.DictOf (jU P w) a vs:=AE ok (.inl e)
theorem yI{ks:List Key}(ok:HOk P w H h)(e:H a=some (.tup (ks.map kV))):(tupleKind (jU P w)).is h ks a:=by
 obtain⟨_,its,r,⟨o,h1,h2,n,h3⟩,_⟩:=(show ObjOk P w H h a (.tup (ks.map kV))from ok a _ e);exact{o,its.toArray,n,h1,h2,h3,by simpa using FL r}
theorem AC{aj:List #[57]}(ok:HOk P w H h)(e:Rd H a (.dT aj)):aj.length<=sizeLine/\(a==sysModules)=false/\
  ∃xs,KT H aj xs/\h.DictOfH (tupleKind (jU P w)) a xs:=by
 obtain⟨z,y,xs,r,o,es,ep,h1,h2,h3,h4,h5⟩:=(show ObjOk P w H h a (.dT aj)from rd_of ok e);refine{z,y,xs,r,o,es,ep,h1,h2,h3,h4,λx hx=>?_,h5};let all:∀{l:List #[57]} {m:List #[17]},KT H l m->∀x∈m,(tupleKind (jU P w)).is h x.1 x.2.1:=by
  intro l m q;induction q with
  | nil=>intro x hx;exact nomatch hx
  | @cons p q ps qs hq t ih=>
   intro x hx;rcases nI.mp hx with e | hx
   .subst e;exact yI ok (by rw[<-hq.1];exact hq.2.1)
   .exact ih x hx
 exact all r x hx
theorem RW{aj:List #[57]}(ok:HOk P w H h)(e:H a=some (.dT aj)):aj.length<=sizeLine/\(a==sysModules)=false/\
  ∃xs,KT H aj xs/\h.DictOfH (tupleKind (jU P w)) a xs:=AC ok (.inl e)
end
def DGet(H:Hp)(a:Addr)(y:V)(r:Option V):Prop:=
 (∃aj k,Rd H a (.dK aj)/\y=kV k/\r=kK aj k)∨∃aj k b,Rd H a (.dT aj)/\y=.ref b/\H b=some (.tup (k.map kV))/\r=kK aj k
def DPut(H:Hp)(a:Addr)(y v:V)(H':Hp):Prop:=
 (∃aj k,H a=some (.dK aj)/\y=kV k/\aj.length<sizeLine/\H'=upd H a (.dK (qB aj k v)))∨
 ∃aj k b,H a=some (.dT aj)/\y=.ref b/\H b=some (.tup (k.map kV))/\aj.length<sizeLine/\H'=upd H a (.dT (qB aj k v))
theorem DGet.k{H:Hp}{a:Addr}{aj:List (Key×V)}{k:Key}(e:H a=some (.dK aj)):DGet H a (kV k) (kK aj k):=.inl {aj,k,.inl e,rfl,rfl}
theorem DGet.t{k:List Key}(e:H a=some (.dT aj))(eb:H b=some (.tup (k.map kV))):DGet H a (.ref b) (kK aj k):=.inr {aj,k,b,.inl e,rfl,eb,rfl}
theorem DPut.k{H:Hp}{a:Addr}{aj:List (Key×V)}{k:Key}{v:V}(e:H a=some (.dK aj))(hl:aj.length<sizeLine):DPut H a (kV k) v (upd H a (.dK (qB aj k v))):=.inl {aj,k,e,rfl,hl,(rfl)}
theorem DPut.t{aj:List #[57]}{k:List Key}(e:H a=some (.dT aj))(eb:H b=some (.tup (k.map kV)))(hl:aj.length<sizeLine) :
  DPut H a (.ref b) v (upd H a (.dT (qB aj k v))):=.inr {aj,k,b,e,rfl,eb,hl,(rfl)}
section
variable{X:Cx}{ae:List #[13]}{O:St}{H:Hp}{s:Shared}{a:Addr}{y v:V}{u r:Value}{o:Option V}{A:Around}{E:Value->Shared->Prop}
theorem Inv.big(I:Inv X ae O H s):sysModules<s.heap.objs.size:=by
 let h:mainGlobals<s.heap.objs.size:=(I.mod.glob.keeps I.bk).lt;exact Nat.lt_trans #[0] h
theorem UQ{Q:Value->Shared->Prop}(hu:A.units+1<cLine)(I:Inv X ae O H s)(g:DGet H a y (some v))(ry:RelV y u)(h:∀w' s',Inv X ae O H s'->RelV v w'->Q w' s') :
  wpAny #[1] A (getItem (.ref a) u) Q E s:=by
 rcases g with⟨aj,k,e,ey,l⟩ | ⟨aj,k,b,e,ey,eb,l⟩
 .subst ey;obtain⟨z,hd,vs,rel,dd⟩:=AE I.hok e;obtain⟨w',hw,rw'⟩:=RelO.some_of (v:=v) (o:=valueAt vs k) (by rw[l];exact rel.val k);exact wpAny_getItem_of (BG ry) dd.mapOf hw (h w' _ (I.tok _) rw')
 .subst ey;cases (show u=Value.ref b from ry);obtain⟨z,hd,xs,rel,dd⟩:=AC I.hok e;obtain⟨w',hw,rw'⟩:=RelO.some_of (v:=v) (o:=(atKey xs k).map (·.2)) (by rw[l];exact rel.val k);obtain⟨p,hp,hp2⟩:=Option.map_eq_some_iff.mp hw;refine wpAny_getItem_heap (tupleKind_room_in1 hu) (yI I.hok eb) dd hp ?_;rw[hp2];exact h w' _ (I.tok _) rw'
theorem d_in{Q:Value->Shared->Prop}(hu:A.units+1<cLine)(I:Inv X ae O H s)(g:DGet H a y o)(ry:RelV y u)(h:∀s',Inv X ae O H s'->Q (.bool o.isSome) s') :
  wpAny #[1] A (compareOp .In u (.ref a)) Q E s:=by
 rcases g with⟨aj,k,e,ey,l⟩ | ⟨aj,k,b,e,ey,eb,l⟩
 .subst ey;obtain⟨z,hd,vs,rel,dd⟩:=AE I.hok e;refine wpAny_in_of (BG ry) hd dd.mapOf ?_;rw[<-(rel.val k).isSome_eq,<-l];exact h _ (I.tok _)
 .subst ey;cases (show u=Value.ref b from ry);obtain⟨z,hd,xs,rel,dd⟩:=AC I.hok e;refine wpAny_in_heap (tupleKind_room_in1 hu) (yI I.hok eb) hd dd ?_;let q:=(rel.val k).isSome_eq;rw[Option.isSome_map]at q;rw[<-q,<-l];exact h _ (I.tok _)
theorem yG{h':Heap}{t':Nat}(I:Inv X ae O H s)(mu:Mut (H a))(hs:Heap.SameBut a s.heap h')(he:∃q,h'.get? a=some q)(new:ObjOk X.prog X.w (upd H a ob) h' a ob) :
  Inv X ae O (upd H a ob) { s with heap:=h',toks:=t' } :=
 I.write (x:=a) (e:=a) mu (.inl rfl) (λb q hb z=>(hs.2 b hb).trans z) he new
theorem EH{h':Heap}{aj:List (Key×V)}(z:aj.length<=sizeLine)(hd:(a==sysModules)=false)(rel:KV aj vs)(dd:h'.DictOf (jU P w) a vs) :
  ObjOk P w H' h' a (.dK aj):={z,hd,vs,rel,(dd)}
theorem UP{Q:Unit->Shared->Prop}(hu:A.units+1<cLine)(I:Inv X ae O H s)(g:DPut H a y v H')(ry:RelV y u)(rv:RelV v r)(h:∀s',Inv X ae O H' s'->Q () s') :
  wpAny #[1] A (setItem (.ref a) u r) Q E s:=by
 rcases g with⟨aj,k,e,ey,l,eH⟩ | ⟨aj,k,b,e,ey,eb,l,eH⟩
 .subst ey eH;obtain⟨z,hd,vs,rel,dd⟩:=RX I.hok e;let hz:vs.length<=sizeLine:=by rw[<-rel.length];exact z
  let hl:(qB aj k v).length<=sizeLine:=by let:=vW aj k v;∎
  refine wpAny_setItem_pairs (hsz:=hz) (BG ry) dd λh' dd' hs=>h _ ?_;let he:∃q,h'.get? a=some q:=let ⟨q,_,_,hq,_⟩:=dd';{q,(hq)};exact yG I #[69] hs he (EH hl hd (rel.put k rv) dd')
 .subst ey eH;cases (show u=Value.ref b from ry);obtain⟨z,hd,xs,rel,dd⟩:=RW I.hok e;let hz:xs.length<=sizeLine:=by rw[<-Paired.length rel];exact z
  let hl:(qB aj k v).length<=sizeLine:=by let:=vW aj k v;∎
  refine wpAny_setItem_heap (hsz:=hz) (tupleKind_room_in1 hu) (yI I.hok eb) dd λh' dd' hs=>h _ ?_;obtain⟨q,es,ep,hq,h2,h3,h4,_,h5⟩:=dd';refine yG I #[69] hs {q,(hq)} {hl,hd,_,(rel.put k eb rv).keeps λc ys ec=>?_,q,es,ep,hq,h2,h3,h4,h5};rw[jG (KD ec e #[27])];exact ec
end
section
variable{X:Cx}{ae:List #[13]}{O:St}{H:Hp}{s:Shared}{a:Addr}{aj:List (Key×V)}{k:Key}{u:Value}{A:Around}{E:Value->Shared->Prop}
end
def NoSl(i:Expr):Prop:=∀ov iv,subscripted i false ov iv=operate [ov,iv] (getItem ov iv)
theorem subD_of{prog:Program}{w:World}{A:Around}{E:Value->Shared->Prop}{s:Shared}{env:Env}{value slice:Expr}{pos:Pos}{T id:String}{Q:Value->Shared->Prop}
  (hl:typeLookup (.type T) "__getitem__" = pure (some (.builtin id))) (hs:NoSl slice)
  (h:wpAny #[3] A (eval value env) (λo s₁=>wpAny #[3] A (eval slice env) (λi s₂=>s₂.TypeIs o T/\wpAny #[3] A (getItem o i) Q E s₂) E s₁) E s) :
  wpAny #[3] A (eval (.Subscript value slice pos) env) Q E s:=by
 refine Subscript_ (tM h (λo s₁ h₁=>tM h₁ (λi s₂ h₂=>?_) λ_ _ x=>x) λ_ _ x=>x);obtain⟨hT,h₂⟩:=h₂;unfold subscriptTail;refine tK ?_;rw[getitemInPython_of_ne hT.not_modules];refine tK (wpAny_specialOf hT hl ?_);let fin:wpAny #[3] A (subscripted slice false o i) (λr s₃=>wpAny #[3] A (letTemporaryGo value o r >>= λ_=>pure r) Q E s₃) E s₂:=by
  rw[hs o i];exact wpAny_operating (tM h₂ (λr s₃ h₃=>tK (wpAny_letTemporaryGo (tL h₃))) λ_ _ x=>x)
 first
  | exact tL (tK fin)
  | exact tK (tL (tK fin))
  | exact tK fin
theorem LJ{s:Shared}(I:Inv X ae O H s)(g:DGet H a y o):s.TypeIs (.ref a) "dict":=by
 rcases g with⟨aj,k,e,_,_⟩ | ⟨aj,k,b,e,_,_,_⟩
 .obtain⟨_,_,vs,_,dd⟩:=AE I.hok e;exact dd.typeIs
 .obtain⟨_,_,xs,_,dd⟩:=AC I.hok e;exact dd.typeIs
def tDGet(td ty:TE):TE:=fun O H Q=>td O H λx H1=>ty O H1 λy H2=>∃a v,x=.ref a/\DGet H2 a y (some v)/\Q v H2
def tDIn(ty td:TE):TE:=fun O H Q=>ty O H λy H1=>td O H1 λx H2=>∃a o,x=.ref a/\DGet H2 a y o/\Q (.bl o.isSome) H2
def sDPut(td ty tv:TE):TS:=λD O H=>tv O H λv H1=>td O H1 λx H2=>ty O H2 λy H3=>∃a H4,x=.ref a/\DPut H3 a y v H4/\D.nx O H4
section
variable{X:Cx}{o i e value:Expr}{pos pos' tpos:Pos}{td ty tv:TE}
theorem vO(hu:X.A.units+1<cLine)(ho:PE X o td)(hi:PE X i ty)(hs:NoSl i):PE X (.Subscript o i pos) (tDGet td ty):=by
 intro ae s O H Q I h;refine subD_of PySem.F.slot_dict_getitem.lookup hs (thn (ho ae s O H _ I h) λu s1 ⟨x,H1,I1,rx,q1⟩=>thn (hi ae s1 O H1 _ I1 q1) λiv s2 ⟨y,H2,I2,ry,a,v,ex,g,q2⟩=>?_);subst ex;obtain rfl:u=Value.ref a:=rx;exact{LJ I2 g,UQ hu I2 g ry λw' s3 I3 rw'=>{v,H2,I3,rw',(q2)}}
theorem XD(hu:X.A.units+1<cLine)(hi:PE X i ty)(ho:PE X o td):PC X .In i o (tDIn ty td):=by
 intro ae s O H Q I h;refine thn (hi ae s O H _ I h) λiv s1 ⟨y,H1,I1,ry,q1⟩=>thn (ho ae s1 O H1 _ I1 q1) λu s2 ⟨x,H2,I2,rx,a,ov,ex,g,q2⟩=>?_;subst ex;obtain rfl:u=Value.ref a:=rx;exact d_in hu I2 g ry λs3 I3=>{.bl ov.isSome,H2,I3,rfl,q2}
theorem BZ(hu:X.A.units+1<cLine)(ho:PE X o td)(hi:PE X i ty)(hv:PE X value tv)(hs:swapsWith value (some (.Subscript o i pos')) pos.line X.env=pure false) :
  PS X (.Assign [.Subscript o i pos'] value pos) (sDPut td ty tv):=by
 intro ae s O H D I h;refine wpAny_Assign_Subscript (thn (hv ae s O H _ I h) λr s1 ⟨v,H1,I1,rv,q1⟩=>thn (ho ae s1 O H1 _ I1 q1) λu s2 ⟨x,H2,I2,rx,q2⟩=>thn (hi ae s2 O H2 _ I2 q2) λiv s3 ⟨y,H3,I3,ry,a,H4,ex,g,q3⟩=>?_) hs;subst ex;obtain rfl:u=Value.ref a:=rx;exact UP hu I3 g ry rv λs4 I4=>{O,H4,I4,(q3)}
end
theorem LH(h:Heap)(hb:sysModules<h.objs.size):ObjOk P w H (h.push { cls:=.type "dict",data:=.dict #[] }) h.objs.size (.dK []):=
 {tF _,beq_eq_false_iff_ne.mpr (Ne.symm (nS hb)),[],.nil,Heap.DictOf.new h}
theorem EG(h:Heap)(hb:sysModules<h.objs.size):ObjOk P w H (h.push { cls:=.type "dict",data:=.dict #[] }) h.objs.size (.dT []):=
 {tF _,beq_eq_false_iff_ne.mpr (Ne.symm (nS hb)),[],.nil,_,#[],0,gU _ rfl,{rfl,rfl,(rfl)},rfl,rfl,mZ}
def tDNewK:TE:=λ_ H Q=>∀p,H p=none->Q (.ref p) (upd H p (.dK []))
def tDNewT:TE:=λ_ H Q=>∀p,H p=none->Q (.ref p) (upd H p (.dT []))
section
variable{X:Cx}{pos:Pos}
theorem uE:PE X (.Dict [] [] pos) tDNewK:=λae s O H Q I h=>
 wpAny_Dict_empty {.ref s.heap.objs.size,_,I.laid (a:=s.heap.objs.size) (o:=.dK []) (t':=s.toks) (λ_ _ q=>gC _ q) uP (LH s.heap I.big),rfl,h _ (I.hok.fresh uP)}
theorem uD:PE X (.Dict [] [] pos) tDNewT:=λae s O H Q I h=>
 wpAny_Dict_empty {.ref s.heap.objs.size,_,I.laid (a:=s.heap.objs.size) (o:=.dT []) (t':=s.toks) (λ_ _ q=>gC _ q) uP (EG s.heap I.big),rfl,h _ (I.hok.fresh uP)}
end
def MH:List (TE×TE)->St->Hp->(List (V×V)->Hp->Prop)->Prop
 | [],_,H,Q=>Q [] H
 | (tk,tv)::r,O,H,Q=>tk O H λx H1=>tv O H1 λy H2=>MH r O H2 λps H3=>Q ((x,y)::ps) H3
abbrev VV:List (V×V)->List (Value×Value)->Prop:=Paired λp q=>RelV p.1 q.1/\RelV p.2 q.2
def PPs(X:Cx)(pos:Pos)(keys:List (Option Expr))(values:List Expr)(trs:List (TE×TE)):Prop:=
 ∀(ae:List #[13]) (s:Shared) (O:St) (H:Hp) (Q:List (V×V)->Hp->Prop),Inv X ae O H s->MH trs O H Q->
  wpAny #[1] X.A (evalPairs (pairTrees keys values X.env pos)) (λvs s'=>∃ps H',Inv X ae O H' s'/\VV ps vs/\Q ps H') X.xe s
theorem pps_nil :PPs X pos [] [] []:=λae s O H Q I h=>pairTrees_nil_walk {[],H,I,.nil,h}
theorem WT(hk:PE X k tk)(hv:PE X v tv)(hr:PPs X pos ks vs trs) :
  PPs X pos (some k::ks) (v::vs) ((tk,tv)::trs):=λae s O H Q I h=>
 pairTrees_cons_walk (thn (hk ae s O H _ I h) λu s1 ⟨x,H1,I1,rx,q1⟩=>thn (hv ae s1 O H1 _ I1 q1) λw2 s2 ⟨y,H2,I2,ry,q2⟩=>
  thn (hr ae s2 O H2 _ I2 q2) λws s3 ⟨ps,H3,I3,rel,q3⟩=>{(x,y)::ps,H3,I3,.cons {rx,(ry)} rel,q3})
def DT(aj more:List (Key×V)):List (Key×V):=more.foldl (λacc kv=>qB acc kv.1 kv.2) aj
theorem KV.merge:∀{more:List (Key×V)} {rs:List (Key×Value)} {aj:List (Key×V)} {vs:List (Key×Value)},KV more rs->KV aj vs->KV (DT aj more) (merged vs rs):=by
 intro more rs aj vs r;unfold KV at r;induction r generalizing aj vs with
 | nil=>intro q;exact q
 | @cons p q ps qs h t ih=>
  intro r0;let e:KV (qB aj p.1 p.2) (stored vs q.1 q.2):=by
   let:=r0.put p.1 h.2;rw[<-h.1];exact this
  exact ih e
theorem wL:∀(more aj:List (Key×V)),(DT aj more).length<=aj.length+more.length
 | [],aj=>by show aj.length<=aj.length+0;∎
 | p::r,aj=>by
  let h1:=wL r (qB aj p.1 p.2);let h2:=vW aj p.1 p.2;show(DT (qB aj p.1 p.2) r).length<=_;rw[mN];∎
theorem EJ :∀{aj:List (Key×V)} {ws:List (Value×Value)},VV (aj.map λkv=>(kV kv.1,kv.2)) ws->∃rs,Carries (jU P w) ws rs/\KV aj rs
 | [],_,r=>by rw[List.map_nil]at r;cases r;exact{[],True.intro,.nil}
 | p::aj,_,r=>by
  rw[nH]at r;cases r with
  | @cons a b as bs h t=>
   obtain⟨rs,c,q⟩:=EJ (P:=P) (w:=w) t;obtain⟨b1,b2⟩:=b;exact{(p.1,b2)::rs,{BG h.1,rfl,c},.cons {rfl,(h.2)} q}
def tDisp(trs:List (TE×TE)):TE:=fun O H Q=>∀p,H p=none->MH trs O (upd H p (.dK [])) λps H2=>H2 p=some (.dK [])/\∃aj:List (Key×V),ps=aj.map (λkv=>(kV kv.1,kv.2))/\aj.length<=15/\Q (.ref p) (upd H2 p (.dK (DT [] aj)))
theorem pe_disp{keys:List (Option Expr)}{values:List Expr}(h:PPs X pos keys values trs)(hall:keys.all (·.isSome)=true)(hl:keys.length=values.length)(h0:keys≠[])
  (h15:keys.length<=15):PE X (.Dict keys values pos) (tDisp trs):=by
 intro ae s O H Q I q;let hn:=I.hok.fresh (tE s.heap.objs.size);let I1:=I.laid (a:=s.heap.objs.size) (o:=.dK []) (h':=s.heap.push { cls:=.type "dict",data:=.dict #[] }) (t':=s.toks) (λ_ _ q=>gC _ q) uP (LH s.heap I.big);refine wpAny_Dict_walk (knd:=jU X.prog X.w) hall hl h0 h15 (thn (h ae _ O _ _ I1 (q _ hn)) λws s2 ⟨ps,H2,I2,rel,e,aj,ep,lk,q2⟩=>?_);subst ep;obtain⟨rs,c,rk⟩:=EJ (P:=X.prog) (w:=X.w) rel;obtain⟨z,hd,vs0,r0,dd⟩:=RX I2.hok e;cases r0;refine{rs,c,dd,λh' dd' hs=>{.ref s.heap.objs.size,_, ?_,rfl,q2}};let hz:(DT [] aj).length<=sizeLine:=by
  let h1:=wL aj [];rw[List.length_nil]at h1;rw[sizeLine_eq];∎
 let he:∃q,h'.get? s.heap.objs.size=some q:=let ⟨q,_,_,hq,_⟩:=dd';{q,(hq)};exact yG I2 #[69] hs he (EH hz hd (rk.merge .nil) dd')
structure M1(X:Cx)(o:Expr)(m:Str)(apos:Pos)(e:Expr)(cpos:Pos):Prop where
 base:attributeBase o m X.env (eval o X.env)=eval o X.env
 few:((backTo cpos (starEach [e] X.env)).all (λx=>!x.1)&&(backToKw cpos (keywordEach [] X.env)).all (λx=>x.1.isSome)
  &&decide (([e]:List Expr).length+([]:List Keyword).length+(if ([]:List Keyword).isEmpty then 0 else 1)<30))=true
 line:(apos.endLine==cpos.line)=true
 trees:backTo cpos (starEach [e] X.env)=[(false,eval e X.env)]
structure M2(X:Cx)(o:Expr)(m:Str)(apos:Pos)(e f:Expr)(cpos:Pos):Prop where
 base:attributeBase o m X.env (eval o X.env)=eval o X.env
 few:((backTo cpos (starEach [e,f] X.env)).all (λx=>!x.1)&&(backToKw cpos (keywordEach [] X.env)).all (λx=>x.1.isSome)
  &&decide (([e,f]:List Expr).length+([]:List Keyword).length+(if ([]:List Keyword).isEmpty then 0 else 1)<30))=true
 line:(apos.endLine==cpos.line)=true
 trees:backTo cpos (starEach [e,f] X.env)=[(false,eval e X.env),(false,eval f X.env)]
def IsD(H:Hp)(a:Addr):Prop:=(∃aj,Rd H a (.dK aj))∨∃aj,Rd H a (.dT aj)
theorem NK{s:Shared}(I:Inv X ae O H s)(d:IsD H a) :
  s.TypeIs (.ref a) "dict"/\(∀b,Value.ref a=.ref b->∃ob,s.heap.get? b=some ob/\ob.dict=none)/\(a==sysModules)=false:=by
 rcases d with⟨aj,e⟩ | ⟨aj,e⟩
 .obtain⟨_,hd,vs,_,dd⟩:=AE I.hok e;refine{dd.typeIs,λb q=>?_,hd};cases q;obtain⟨ob,_,_,h1,h2,_⟩:=dd;exact{ob,h1,(h2.2.1)}
 .obtain⟨_,hd,xs,_,dd⟩:=AC I.hok e;refine{dd.typeIs,λb q=>?_,hd};cases q;obtain⟨ob,_,_,h1,h2,_⟩:=dd;exact{ob,h1,(h2.2.1)}
section
variable{X:Cx}{ae:List #[13]}{O:St}{H:Hp}{s:Shared}{a:Addr}{y d:V}{u r:Value}{o:Option V}{A:Around}{E:Value->Shared->Prop}
theorem d_get2{Q:Value->Shared->Prop}(hu:A.units+1<cLine)(I:Inv X ae O H s)(g:DGet H a y o)(ry:RelV y u)(rd:RelV d r)(h:∀w' s',Inv X ae O H s'->RelV (o.getD d) w'->Q w' s') :
  wpAny #[1] A (call (.builtin "dict.get") [.ref a,u,r]) Q E s:=by
 rcases g with⟨aj,k,e,ey,l⟩ | ⟨aj,k,b,e,ey,eb,l⟩
 .subst ey;obtain⟨z,hd,vs,rel,dd⟩:=AE I.hok e;refine call_meetsIn PySem.F.slot_dict_get dd.typeIs PySem.F.entry_dict_get (PySem.F.args_dict_get_3 _ _ _) (meets_dict_get_default (jU X.prog X.w) a (BG ry) hd r) {_,dd.mapOf,h _ _ (I.tok _) ?_};rw[l];exact(rel.val k).getD rd
 .subst ey;cases (show u=Value.ref b from ry);obtain⟨z,hd,xs,rel,dd⟩:=AC I.hok e;refine call_meetsIn PySem.F.slot_dict_get dd.typeIs PySem.F.entry_dict_get (PySem.F.args_dict_get_3 _ _ _) (meetsH_dict_get_default (tupleKind (jU X.prog X.w)) a b hd r) {tupleKind_room_in1 hu,k,xs,yI I.hok eb,dd,h _ _ (I.tok _) ?_};rw[l];exact(rel.val k).getD rd
end
def tDGet2(td ty tx:TE):TE:=fun O H Q=>td O H λx H1=>∃a,x=.ref a/\IsD H1 a/\ty O H1 λy H2=>tx O H2 λz H3=>∃o,DGet H3 a y o/\Q (o.getD z) H3
section
variable{X:Cx}{o e f:Expr}{apos cpos:Pos}{td ty tx:TE}
theorem DI(hu:X.A.units+1<cLine)(ho:PE X o td)(he:PE X e ty)(hf:PE X f tx)(m:M2 X o "get" apos e f cpos):PE X (.Call (.Attribute o "get" apos) [e,f] [] cpos) (tDGet2 td ty tx):=by
 intro ae s O H Q I h;refine wpAny_Call_method m.base m.few m.line PySem.F.plainAttrs_dict PySem.F.slot_dict_get PySem.F.type_dict_get (thn (ho ae s O H _ I h) λu s1 ⟨x,H1,I1,rx,a,ex,d,q1⟩=>?_);subst ex;obtain rfl:u=Value.ref a:=rx;obtain⟨t1,t2,_⟩:=NK I1 d;refine{t1,t2, ?_};rw[m.trees];refine Calls.callWith_builtin rfl (Calls.evalArgs_plain (Calls.spliced_cons (thn (he ae s1 O H1 _ I1 q1) λiv s2 ⟨y,H2,I2,ry,q2⟩=>
  Calls.spliced_cons (thn (hf ae s2 O H2 _ I2 q2) λfv s3 ⟨z,H3,I3,rz,ov,g,q3⟩=>Calls.spliced_nil ?_))))
 exact d_get2 hu I3 g ry rz λw' s4 I4 rw'=>{_,H3,I4,rw',q3}
end
section
variable{X:Cx}{ae:List #[13]}{O:St}{H:Hp}{s:Shared}{a:Addr}{aj:List (Key×V)}{A:Around}{E:Value->Shared->Prop}
theorem d_copyOf{Q:Value->Shared->Prop}(I:Inv X ae O H s)(e:Rd H a (.dK aj))(h:∀p s',H p=none->Inv X ae O (upd H p (.dK aj)) s'->Q (.ref p) s'):wpAny #[1] A (call (.type "dict") [.ref a]) Q E s:=by
 obtain⟨z,hd,vs,rel,dd⟩:=AE I.hok e;refine kt_call_dict hd dd (by rw[<-rel.length];exact z) λh' dd' hs=>?_;refine h _ _ (I.hok.fresh uP) (I.laid (a:=s.heap.objs.size) (o:=.dK aj) (t':=s.toks) (λb q hq=>?_) uP (EH z (beq_eq_false_iff_ne.mpr (Ne.symm (nS I.big))) rel dd'));exact(hs.2 b (nS (nP hq))).trans (gC _ hq)
end
section
variable{X:Cx}{ae:List #[13]}{O:St}{H:Hp}{s:Shared}{a:Addr}{y:V}{u:Value}{A:Around}{E:Value->Shared->Prop}
end
section
variable{X:Cx}
end
end L2
namespace L2
section
variable{Y:Type} [DecidableEq Y]
theorem VF{aj:List (Y×V)}{k:Y}(h:kK aj k=none):¬k∈aj.map (·.1):=by
 intro m;obtain⟨p,hp,e⟩:=nT.mp m;let q:#[53]=true:=List.any_eq_true.mpr {p,hp,mW e};rw[xR,h]at q;exact absurd q #[14]
theorem valV_in{aj:List (Y×V)}{k:Y}(h:kK aj k=some v):k∈aj.map (·.1):=by
 let q:#[53]=true:=by
  rw[xR,h];all_goals rfl
 obtain⟨p,hp,e⟩:=List.any_eq_true.mp q;exact nT.mpr {p,hp,mG e}
end
end L2
namespace LwD
open PySem PySem.Spec PyProof.Rows L2
theorem KTdrop{xs:List #[17]}(r:KT H aj xs)(k:List Key):KT H (BH aj k) (xs.filter λx=>decide (x.1≠k)):=by
 induction r with
 | nil=>exact .nil
 | @cons p q ps qs h t ih=>
  unfold BH at ih ⊢;rw[mR,mR];by_cases e:p.1=k
  .rw[tN (by simp [e]),tN (by rw[h.1]at e;simp [e])];exact ih
  .rw[tO (by simp [e]),tO (by rw[h.1]at e;simp [e])];exact .cons h ih
theorem FH{α β:Type}(f:α->β):∀(xs:List α) (j:Nat),(xs.map f).eraseIdx j=(xs.eraseIdx j).map f
 | [],_=>rfl
 | _::_,0=>rfl
 | x::r,j+1=>by rw[nH,List.eraseIdx_cons_succ,List.eraseIdx_cons_succ,nH,FH f r j]
theorem uN{K:Type} [DecidableEq K]{k:K} :∀{xs:List (K×Addr×Value)} {j:Nat} {p:Addr×Value},(xs.map (·.1)).Nodup->xs[j]? = some (k,p)->xs.eraseIdx j=xs.filter λx=>decide (x.1≠k)
 | [],_,_,_,e=>by simp at e
 | x::r,0,p,hn,e=>by
  simp only[List.getElem?_cons_zero,Option.some.injEq]at e;subst e;rw[nH,List.nodup_cons]at hn;rw[List.eraseIdx_zero,List.tail_cons,mR,tN #[14]]
  symm
  rw[List.filter_eq_self];intro y hy;let:y.1≠k:=λz=>hn.1 (nT.mpr {y,hy,(z)});simp [this]
 | x::r,j+1,p,hn,e=>by
  rw[nH,List.nodup_cons]at hn;let e':r[j]? = some (k,p):=by simpa using e
  let hx:x.1≠k:=λz=>hn.1 (z▸nT.mpr {(k,p),gL e',rfl});rw[List.eraseIdx_cons_succ,mR,tO (by simp [hx]),uN hn.2 e']
section
variable{prog:Program}{w:World}{K:Type} [DecidableEq K]{knd:HeapKind prog w K}{A:Around}{E:Value->Shared->Prop}{s:Shared}
theorem GJ{xs:List (K×Addr×Value)}{Q:Option DictEntry->Shared->Prop}(hu:knd.room A)(hkey:knd.is s.heap k a)(hm:s.heap.DictOfH knd d xs)(hz:xs.length<=sizeLine)(hp:atKey xs k=some p)
  (hs:∀h',h'.DictOfH knd d (xs.filter λx=>decide (x.1≠k))->Heap.SameBut d s.heap h'->Q (some (entryOfKey knd (k,p))) { s with heap:=h',toks:=s.toks+knd.draws k }) :
  wpAny #[3] A (Builtin.Dict.takeOut d (.ref a)) Q E s:=by
 obtain⟨o,es,ep,ho,hc,hd,he,his,hn⟩:=hm;let hes:es.size<=sizeLine:=by rw[size_of_entries he];exact hz
 unfold Builtin.Dict.takeOut;try with_reducible refine wpAny_holding ?_
 refine tK (knd.pyHash hu hkey (tK (wpAny_dictFind_heap (s:={ s with toks:=s.toks+knd.draws k }) hu hkey ho hd he his hn ?_ ?_)))
 .intro hno;rw[atKey_none_of_get hno]at hp;cases hp
 .intro j p' hj;rw[atKey_of_get hn hj]at hp;cases hp;refine tK (wpAny_dictEntries (s:={ s with toks:=s.toks+knd.draws k }) ho hd ?_);rw[entry_at he j,hj];refine tK (wpAny_updateDictKeys (hz:=hes) (s:={ s with toks:=s.toks+knd.draws k }) ho hd (tL (hs _ {_,_,ep+1,Heap.get?_update_self _ ho (Obj.isFreed_of_dict (Obj.data_mapDictKeys hd _)),hc.mapDictKeys _,Obj.data_mapDictKeys hd _, ?_, ?_, ?_} #[70])))
  .rw[<-uN hn hj];obtain⟨l⟩:=es;simp only at he;subst he;show((List.map (entryOfKey knd) xs).toArray.eraseIdxIfInBounds j).toList=_;rw[List.eraseIdxIfInBounds_toArray];exact FH _ xs j
  .intro x hx;exact knd.keeps (his x (List.mem_filter.mp hx).1) ho hd #[70]
  .exact hn.sublist (List.filter_sublist.map _)
theorem NB :
  MeetsIn prog w (Builtin.«dict.pop» {[.ref d,.ref a],[]}) (λA R s=>∃xs p,knd.room A.in1/\knd.is s.heap k a/\s.heap.DictOfH knd d xs/\xs.length<=sizeLine/\atKey xs k=some p/\
   ∀h',h'.DictOfH knd d (xs.filter λx=>decide (x.1≠k))->Heap.SameBut d s.heap h'->R (.ok (.ret p.2)) { s with heap:=h',toks:=s.toks+knd.draws k }):=
 .of_wp λA R s ⟨xs,p,hu,hkey,hm,hz,hp,h⟩=>by
  unfold Builtin.«dict.pop»;refine tK ?_;unfold Builtin.Dict.keyAndDefault;refine tK (wpAny_notOrdered_dict hm.typeIs ?_);show wpAny _ _ (pure (d,Value.ref a,none)) _ _ s;refine tL ?_;obtain⟨o,es,ep,ho,hc,hd,he,his,hn⟩:=id hm;let ne:es.isEmpty=false:=by
   let e1:=size_of_entries he;let e2:xs≠[]:=λz=>by subst z;cases hp
   let e3:0<xs.length:=List.length_pos_iff.mpr e2;rw[Array.isEmpty_eq_false_iff_exists_mem];exact{es[0]' ∎,Array.getElem_mem _}
  let go:wpAny #[3] A.in1 (Builtin.Dict.takeOut d (.ref a)) (λold s'=>old=some (entryOfKey knd (k,p))/\R (.ok (.ret p.2)) s') (λ_ _=>False) s:=
   GJ hu hkey hm hz hp λh' hm' hs'=>{rfl,h h' hm' hs'}
  let kp:(keyPart (Value.ref a)).isSome=false:=rfl;simp only[kp,Bool.false_eq_true,if_false];refine tK (wpAny_dictEntries ho hd ?_);rw[ne];refine tK (tL ?_);simp only[Bool.false_eq_true,if_false];refine tK (tM go (λold s' ⟨e1,hR⟩=>?_) λ_ _ z=>z.elim);subst e1;simp only[Option.isNone_some,Bool.false_eq_true,if_false];exact tK (wpAny_letGo (tL {p.2,rfl,(hR)}))
end
section
variable{X:Cx}{ae:List #[13]}{O:L2.St}{H:Hp}{s:Shared}{a b:Addr}{aj:List #[57]}{k:List Key}{E:Value->Shared->Prop}
theorem d_popT{Q:Value->Shared->Prop}(hu:X.A.units+1<cLine)(I:Inv X ae O H s)(e:H a=some (.dT aj))(eb:H b=some (.tup (k.map kV)))(l:kK aj k=some v)
  (h:∀w' s',Inv X ae O (upd H a (.dT (BH aj k))) s'->RelV v w'->Q w' s'):wpAny #[1] X.A (call (.builtin "dict.pop") [.ref a,.ref b]) Q E s:=by
 obtain⟨z,hd,xs,rel,dd⟩:=RW I.hok e;let hz:xs.length<=sizeLine:=by rw[<-Paired.length rel];exact z
 let rv:=rel.val k;rw[l]at rv;cases hp:atKey xs k with
 | none=>rw[hp]at rv;exact rv.elim
 | some p=>
  rw[hp]at rv;refine call_meetsIn PySem.F.slot_dict_pop dd.typeIs PySem.F.entry_dict_pop (PySem.F.args_dict_pop_2 _ _) (NB (knd:=tupleKind (jU X.prog X.w)) (k:=k)) {xs,p,tupleKind_room_in1 hu,yI I.hok eb,dd,hz,hp,λh' dd' hs=>h p.2 _ ?_ rv};obtain⟨q,es,ep,hq,h2,h3,h4,_,h5⟩:=dd';let hl:(BH aj k).length<=sizeLine:=nQ (ZU aj k) z;refine yG I #[69] hs {q,(hq)} {hl,hd,_,(KTdrop rel k).keeps λc ys ec=>?_,q,es,ep,hq,h2,h3,h4,h5};rw[jG (KD ec e #[27])];exact ec
variable{o e:Expr}{td ty:TE}{apos cpos:Pos}
def tDPopT(td ty:TE):TE:=fun O H Q=>td O H λx H1=>∃a,x=.ref a/\IsD H1 a/\ty O H1 λy H2=>∃aj k v b,H2 a=some (.dT aj)/\y=.ref b/\H2 b=some (.tup (k.map kV))/\kK aj k=some v/\Q v (upd H2 a (.dT (BH aj k)))
theorem WX(hu:X.A.units+1<cLine)(ho:PE X o td)(he:PE X e ty)(m:M1 X o "pop" apos e cpos):PE X (.Call (.Attribute o "pop" apos) [e] [] cpos) (tDPopT td ty):=by
 intro ae s O H Q I h;refine wpAny_Call_method m.base m.few m.line PySem.F.plainAttrs_dict PySem.F.slot_dict_pop PySem.F.type_dict_pop (thn (ho ae s O H _ I h) λu s1 ⟨x,H1,I1,rx,a,ex,d,q1⟩=>?_);subst ex;obtain rfl:u=Value.ref a:=rx;obtain⟨t1,t2,_⟩:=NK I1 d;refine{t1,t2, ?_};rw[m.trees];refine Calls.callWith_builtin rfl (Calls.evalArgs_plain (Calls.spliced_cons (thn (he ae s1 O H1 _ I1 q1) λiv s2 ⟨y,H2,I2,ry,aj,k,v,b,ea,ey,eb,l,q2⟩=>Calls.spliced_nil ?_)));subst ey;cases ry;exact d_popT hu I2 ea eb l λw' s3 I3 rw'=>{v,_,I3,rw',q2}
end
def Raw(h:Heap)(d:Addr)(es:Array DictEntry)(ep:Nat):Prop:=∃o,h.get? d=some o/\o.ExactDict/\o.data=.dict es ep
theorem Raw.lt{h:Heap}{ep:Nat}(r:Raw h d es ep):d<h.objs.size:=let ⟨_,e,_⟩:=r;nP e
theorem Raw.keep{h h':Heap}{ep:Nat}(r:Raw h d es ep)(k:∀o,h.get? d=some o->h'.get? d=some o):Raw h' d es ep:=let ⟨o,e,x⟩:=r;{o,k o e,x}
theorem Raw.ty{s:Shared}{ep:Nat}(r:Raw s.heap d es ep):s.TypeIs (.ref d) "dict":=let ⟨o,e,c,_⟩:=r;{o,e,(c.1)}
section
variable{prog:Program}{w:World}{A:Around}{E:Value->Shared->Prop}{s:Shared}{d it:Addr}{es:Array DictEntry}{ep i:Nat}
theorem DC{Q:Value->Shared->Prop}(lo:(d==sysModules)=false)(r:Raw s.heap d es ep)
  (q:Q (.ref s.heap.objs.size) { s with heap:=s.heap.push { cls:=.type "dict_keyiterator",data:=.fields #[.ref d,.int 0 0,.int es.size 0,.int ep 0] } }):wpAny #[3] A (pyIter (.ref d)) Q E s:=by
 let ty:=r.ty;obtain⟨o,ho,hc,hdat⟩:=r;refine wpAny_pyIter_slot ty PySem.F.slot_dict_iter (wpAny_call_entry PySem.F.slot_dict_iter ty PySem.F.entry_dict_iter ?_ (PySem.F.args_dict_iter_1 _));unfold Builtin.«dict.__iter__»;refine tK (show wpAny _ _ (Builtin.Dict.dictSlotNone _ _) _ _ s from ?_);unfold Builtin.Dict.dictSlotNone;refine tK (wpAny_notOrdered_dict ty (show wpAny _ _ (pure (Value.ref d)) _ _ s from tL ?_));show wpAny _ _ (Builtin.Dict.showsAll d >>= _) _ _ s;unfold Builtin.Dict.showsAll;rw[tN (by rw[lo];exact gY)];refine tK (tL (tK (wpAny_dictEntries ho hdat (tK (wpAny_dictEpoch ho hdat ?_)))));refine tK (wpAny_newObj_type (tL {_,rfl,"dict_keyiterator",_,{_,gU _ rfl,rfl},PySem.F.slot_dict_keyiterator_next.lookup, ?_}));simpa [rawInt]using q
theorem JM{Q:Option Value->Shared->Prop}(k:s.heap.IsKeyIter it d i es.size ep)(r:Raw s.heap d es ep)(hi:i<es.size)
  (q:∀h',h'.IsKeyIter it d (i+1) es.size ep->Heap.SameBut it s.heap h'->Q (some es[i].key) { s with heap:=h' }):wpAny #[3] A (pyNext (.ref it)) Q E s:=by
 let ty:=k.typeIs;obtain⟨o,ho,hc,hd⟩:=id k;obtain⟨od,hod,hcd,hdd⟩:=id r;let own:Builtin.Dict_items.ownsTuple "dict_keyiterator" = false:=by decide
 unfold pyNext;refine tK #[19];refine tK (tL (tK (tK ?_)));first | refine tK (wpAny_typeNameOfWhole_keyiter ty (tL (tK (wpAny_fieldsOf ho hd ?_)))) | refine tK (wpAny_typeNameOf_keyiter ty (tL (tK (wpAny_fieldsOf ho hd ?_))))
 simp only[own,Bool.false_eq_true,if_false];show wpAny _ _ (if (Value.ref d==Value.none)=true then _ else _) _ _ s;rw[tN (show ¬((Value.ref d==Value.none)=true)from gY)];refine tK (tL (tK (wpAny_dictEntries hod hdd ?_)));rw[tN #[14]];refine tK (tL (tK (wpAny_dictEpoch hod hdd ?_)));rw[tN #[14]];refine tL ?_;simp only[show ¬((i:Int)<0)from by ∎,if_false,Int.toNat_natCast,Array.getElem?_eq_getElem hi];refine tK ?_;first | refine tK (wpAny_typeNameOfWhole_keyiter ty (tL (tK (wpAny_isOneOf_keyiter ty ?_)))) | refine tK (wpAny_typeNameOf_keyiter ty (tL (tK (wpAny_isOneOf_keyiter ty ?_))))
 show wpAny _ _ (setField (.ref it) 1 (rawInt ((i:Int)+1)) >>= _) _ _ s;let k':(s.heap.update it (Obj.mapFields (·.setIfInBounds 1 (rawInt ((i:Int)+1))))).IsKeyIter it d (i+1) es.size ep:=
  {_,Heap.get?_update_self _ ho (Obj.isFreed_of_fields (Obj.data_mapFields hd _)),(Obj.cls_mapFields ..).trans hc,by rw[Obj.data_mapFields hd];simp [rawInt]}
 refine tK (wpAny_setField ho hd #[14] (tK (wpAny_holding ?_)));refine tK (wpAny_isOneOf_keyiter (s:={ s with heap:=s.heap.update it (Obj.mapFields (·.setIfInBounds 1 (rawInt ((i:Int)+1)))) }) k'.typeIs ?_);show wpAny _ _ (pure es[i].key) _ _ _;exact tL (tL {_,rfl,tL (q _ k' #[70])})
theorem OZ{Q:Option Value->Shared->Prop}(hh:A.handled=none)(k:s.heap.IsKeyIter it d es.size es.size ep)(r:Raw s.heap d es ep)(q:∀h',Heap.ExtBut it s.heap h'->Q none { s with heap:=h' }):wpAny #[3] A (pyNext (.ref it)) Q E s:=by
 let ty:=k.typeIs;obtain⟨o,ho,hc,hd⟩:=id k;obtain⟨od,hod,hcd,hdd⟩:=id r;let own:Builtin.Dict_items.ownsTuple "dict_keyiterator" = false:=by decide
 unfold pyNext;refine tK #[19];refine tK (tL (tK (tK ?_)));first | refine tK (wpAny_typeNameOfWhole_keyiter ty (tL (tK (wpAny_fieldsOf ho hd ?_)))) | refine tK (wpAny_typeNameOf_keyiter ty (tL (tK (wpAny_fieldsOf ho hd ?_))))
 simp only[own,Bool.false_eq_true,if_false];show wpAny _ _ (if (Value.ref d==Value.none)=true then _ else _) _ _ s;rw[tN (show ¬((Value.ref d==Value.none)=true)from gY)];refine tK (tL (tK (wpAny_dictEntries hod hdd ?_)));rw[tN #[14]];refine tK (tL (tK (wpAny_dictEpoch hod hdd ?_)));rw[tN #[14]];refine tL ?_;simp only[show ¬((es.size:Int)<0)from by ∎,if_false,Int.toNat_natCast,Array.getElem?_eq_none (tE es.size)];refine tK ?_;first | refine tK (wpAny_typeNameOfWhole_keyiter ty (tL ?_)) | refine tK (wpAny_typeNameOf_keyiter ty (tL ?_))
 show wpAny _ _ (setField (.ref it) 0 .none >>= _) _ _ s;refine tK (wpAny_setField ho hd #[14] (show wpAny _ _ (newExc (.type "StopIteration") [] >>= _) _ _ _ from tK ?_));simp only[newExc,newTuple];refine tK (wpAny_newObj_type (tK (m:=firstArgMember _ _) (wpAny_of_eq (a:=Value.none) (by first | rfl | (simp only[firstArgMember];rfl)) (wpAny_newObj_type ?_ (by size_fits)))) (by size_fits));simp only[raiseNew];refine tK (wpAny_handled ?_);rw[show A.in1.handled=none from hh];refine tK (tL (wpAny_throw ?_));refine tK (wpAny_isInstance (b:=true) (T:="StopIteration") {_,gU _ rfl,rfl} isSubtype_stop ?_);exact tL (q _ ((#[70].extBut.push _).push _))
theorem FB(hh:A.handled=none)(hne:d≠it):Walks prog w A it [it,d] [it] es.size (λi v=>∃h:i<es.size,v=es[i].key) (λi h=>h.IsKeyIter it d i es.size ep/\Raw h d es ep) where
 sub:=λb hb=>by simp at hb;simp [hb]
 frame:=λ_ _ _ st hk=>{st.1.at λo e=>hk it #[14] o e,st.2.keep λo e=>hk d #[14] o e}
 item:=λi s Q E hi st hQ=>JM st.1 st.2 hi λh' k' hs'=>hQ _ h' s.toks {hi,(rfl)} {k',st.2.keep λo e=>hs'.extBut d o hne e} λb o hb e=>hs'.extBut b o (λh=>hb (by simp [h])) e
 done:=λs Q E st hQ=>OZ hh st.1 st.2 λh' he'=>hQ h' s.toks λb o hb e=>he' b o (λh=>hb (by simp [h])) e
 self:=λ_ _ _ _ st hQ=>wpAny_pyIter_keyiter st.1 hQ
theorem OY(lo:(d==sysModules)=false):PySem.W.KdlSrc prog w "dict" d d es.size (λi v=>∃h:i<es.size,v=es[i].key) (λh=>Raw h d es ep) where
 type:=λ_ hm=>hm.ty
 there:=λ_ hm=>{hm.lt,(hm.lt)}
 keep:=λ_ _ hm hk=>hm.keep λo e=>hk d (.inl rfl) o e
 notList:=by decide
 notTuple:=by decide
 hint:=λ_ _ _ _ hm hq=>PySem.W.kdl_hint_dict hm.ty hq
 iter:=λ_ _ hh hm=>{_,_,(λ_ _ hq=>DC lo hm hq),FB hh (nS hm.lt),{{_,gU _ rfl,rfl,rfl},hm.keep λo e=>gC _ e}}
end
end LwD
namespace LwD
open PySem PySem.W PySem.Spec PyProof.Rows
section
variable{prog:Program}{w:World}{A:Around}{E:Value->Shared->Prop}{s:Shared}
end
end LwD
namespace LwD
open PySem PySem.Spec PyProof.Rows L2 Lw
theorem ns_uniq{h:Heap}{m m':Str->Option Value}(x:h.Ns a m)(y:h.Ns a m'):m=m':=by
 obtain⟨o,es,ep,ho,hd,hk,hm⟩:=x;obtain⟨o',es',ep',ho',hd',hk',hm'⟩:=y;rw[ho]at ho';cases ho';rw[hd]at hd';cases hd'
 funext z
 rw[<-hm z,<-hm' z]
theorem XO{h:Heap}(x:ObjOk P w H h a o):∃q,h.get? a=some q:=by
 cases o with
 | lst xs=>obtain⟨_,_,_,_,e⟩:=x;exact{_,e}
 | tup xs=>obtain⟨_,_,_,⟨q,e,_⟩,_⟩:=x;exact{_,e}
 | dK aj=>obtain⟨_,_,_,_,o,_,_,e,_⟩:=x;exact{_,e}
 | dT aj=>obtain⟨_,_,_,_,o,_,_,e,_⟩:=x;exact{_,e}
 | set S n=>obtain⟨o,_,_,_,e,_⟩:=x;exact{_,e}
 | ins C dx fs=>obtain⟨_,_,_,e,_⟩:=x;exact{_,e}
 | own y=>exact x
 | xd fs=>obtain⟨_,⟨_,_,_,e,_⟩,_⟩:=x;exact{_,e}
 | rng lo hi=>obtain⟨_,_,_,e⟩:=x;exact{_,e}
 | frz ob u=>exact{_,x.1}
 | tbl ps=>exact{_,x}
 | met f y=>exact{_,x}
 | ext φ=>exact x.2.1
section
variable{X:Cx}{ae:List #[13]}{O:L2.St}{H:Hp}{s:Shared}
theorem BE{h3:Heap}{m:Str->Option Value}{tk:Nat}(I:Inv X ae O H s)(F:Fr X.base X.env.locals s.heap m)(F3:Fr X.base X.env.locals h3 m)(N3:News X.base X.env.locals h3 ((D,o)::xP X.base s.heap X.env.locals))
  (lt:∀q∈xP X.base s.heap X.env.locals,q.1<D) (new:h3.get? D=some o->ObjOk X.prog X.w (upd H D ho) h3 D ho):H D=none/\Inv X ae O (upd H D ho) { s with heap:=h3,toks:=tk } :=by
 let n1:=N3 (D,o) (hU ..);let dn:s.heap.get? D=none:=by
  cases q:s.heap.get? D with
  | none=>rfl
  | some u=>exact absurd (lt _ (zR n1.2.1 n1.2.2 q)) (nJ _)
 let Hn:H D=none:=by
  cases q:H D with
  | none=>rfl
  | some u=>
   obtain⟨z,e⟩:=XO (I.hok D u q);rw[dn]at e;cases e
 let kp:∀b u,b≠X.env.locals->s.heap.get? b=some u->h3.get? b=some u:=λb u hb e=>by
  cases q:X.base.get? b with
  | some z=>
   let y:=I.bk b z q;rw[e]at y;cases y;exact F3.keep b _ q
  | none=>exact(N3 (b,u) (gM _ (zR hb q e))).1
 let ne:∀b u,s.heap.get? b=some u->b≠D:=λb u e z=>by rw[z,dn]at e;cases e
 let thr:∀b u,s.heap.get? b=some u->∃u',h3.get? b=some u':=λb u e=>by
  by_cases hb:b=X.env.locals
  .obtain⟨u',_,_,e',_⟩:=F3.ns;exact{u',by rw[hb];exact e'}
  .exact{u,kp b u hb e}
 refine{Hn,I.step (g':=s.gens) (d':=s.drawn) (ch:=[]) (λ_ z=>nomatch z) (λb u hb _ _ e _=>kp b u hb e) (λb u hb _ _ e _=>{u.slots,kp b u hb e}) (λb u _ e n=>?_) (λb u _ e=>thr b u e) (λb xs e=>?_) (λb u v e=>?_) (λb ps e=>?_) (λm' hm=>?_) (λb u e=>?_) I.bare}
 .rw[jG (ne b u e)];exact n
 .rw[jG (jS e Hn)];exact e
 .rw[jG (jS e Hn)];exact e
 .exact{#[],by rw[jG (jS e Hn),e];simp}
 .rw[ns_uniq hm F.ns];exact F3.ns
 .by_cases hb:b=D
  .subst hb;rw[jE]at e;cases e;exact new n1.1
  .rw[jG hb]at e;refine(I.hok b u e).stay (λc v hc q=>kp c v (λz=>?_) q) (λc q=>by rw[jG (jS q Hn)];exact q) λc xs q=>by rw[jG (jS q Hn)];exact q
   rcases hc with y | y
   .rw[<-y,z,I.free]at e;cases e
   .rw[z,I.free]at y;cases y
end
section
variable{prog:Program}{w:World}{A:Around}{E:Value->Shared->Prop}{s:Shared}
theorem CV{vs:List Value}{n:Nat}{Q:Value->Shared->Prop}(ho:s.heap.get? a=some (seqObj "list" vs.toArray n))(h2:vs.length<2)(q:Q .none { s with heap:=sortedHeap s.heap a vs vs.toArray }):wpAny #[3] A (call (.builtin "list.sort") [.ref a]) Q E s:=by
 refine wpAny_call_entry slot_list_sort {_,ho,rfl} entry_list_sort ?_ (args_list_sort _);rw[list_sort_plain];let ha:a<s.heap.objs.size:=nP ho;obtain⟨e1,ho1⟩:∃e1,(s.heap.update a (Obj.mapSeq λ_=>#[])).get? a=some (seqObj "list" #[] e1):={_,get?_update_seq ho (λ_=>#[])};let ho6:(((s.heap.update a (Obj.mapSeq λ_=>#[])).push (seqObj "tuple" vs.toArray 0)).push (seqObj "list" #[] 0)).get? a=some (seqObj "list" #[] e1):=gC _ (gC _ ho1);let hz:vs.toArray.size<2:=by simpa using h2
 refine tK (listItems_at ho rfl (tK (listUpdate_at ho rfl (tK (seqEpoch_at ho1 rfl (tK (wpAny_newTuple (tK (wpAny_newList (wpAny_holding ?_))))))))));show wpAny #[3] _ _ _ E { s with heap:=((s.heap.update a (Obj.mapSeq λ_=>#[])).push (seqObj "tuple" vs.toArray 0)).push (seqObj "list" #[] 0) };dsimp only;rw[tO hz,tO hz];refine tK (tL ?_);rw[StateT.run_pure];refine tK (tL ?_);dsimp only;let hm:(arrOf (SortSt.mk' general' (vs.toArray.zip vs.toArray) #[] 7 none)).map (·.2)=vs.toArray:=by
  show(vs.toArray.zip vs.toArray).map (·.2)=vs.toArray;apply Array.ext';simp [List.map_snd_zip]
 refine tK (seqEpoch_at ho6 rfl (tK (listUpdate_at ho6 rfl ?_ (hsz2:=by rw[hm,sizeLine_eq];∎))));rw[hm];simp only[bne_self_eq_false,Bool.false_eq_true,if_false];exact tL {_,rfl,q}
end
abbrev ik(ns:List Int):List Key:=ns.map Sum.inl
theorem xM(ns:List Int):(ik ns).map kV=ns.map V.int:=by
 unfold ik;rw[nX]
 rfl
section
variable{X:Cx}
end
theorem KTgetI(r:KT H aj xs):∀{j:Nat} {q:List Key×Addr×Value},xs[j]? = some q->∃v,aj[j]? = some (q.1,v)/\H q.2.1=some (.tup (q.1.map kV)):=by
 induction r with
 | nil=>intro j q e;simp at e
 | @cons p q' ps qs h t ih=>
  intro j q e;cases j with
  | zero=>
   simp only[List.getElem?_cons_zero,Option.some.injEq]at e;subst e;exact{p.2,by rw[<-h.1];rfl,by rw[<-h.1];exact h.2.1}
  | succ j=>
   simp only[List.getElem?_cons_succ]at e ⊢;exact ih e
def Keyed(H:Hp)(ys:List V)(zs:List #[57]):Prop:=ys.length=zs.length/\∀(i:Nat) (y:V) (p:List Key×V),ys[i]? = some y->zs[i]? = some p->∃(b:Addr) (ns:List Int),y=.ref b/\H b=some (.tup #[16])/\p.1=ik ns
theorem zF{α:Type}(l:List α)(d:α):(List.range l.length).map (λi=>l.getD i d)=l:=by
 apply List.ext_getElem
 .simp
 .intro i h1 h2;simp at h1;simp [h1]
end LwD
namespace L2
open PySem PySem.Spec PyProof.Rows
section
variable{prog:Program}{w:World}{A:Around}{E:Value->Shared->Prop}{s:Shared}
theorem nextT{k:Nat}{Q:Value->Shared->Prop}(st:s.heap.IsTupleIter it t k)(tu:s.heap.IsTuple t its)(hv:its[k]? = some v)
  (q:∀g,g.IsTupleIter it t (k+1)->Heap.SameBut it s.heap g->Q v { s with heap:=g }):wpAny #[3] A (Builtin.SmallTypes.nextOf (.ref it)) Q E s:=by
 obtain⟨oi,gi,ci,di⟩:=id st;obtain⟨ot,gt,_,nt,dt⟩:=tu;unfold Builtin.SmallTypes.nextOf;refine tK #[24];show wpAny _ _ (field (.ref it) 0 >>= _) _ _ _;refine tK (wpAny_field gi di (x:=.ref t) rfl ?_);show wpAny _ _ (if (Value.ref t==Value.none)=true then _ else _) _ _ _;rw[tN (show ¬(Value.ref t==Value.none)=true from gY)];show wpAny _ _ (field (.ref it) 1 >>= _) _ _ _;refine tK (wpAny_field gi di (x:=.int k 0) rfl ?_);show wpAny _ _ (seqItems? (.ref t) >>= _) _ _ _;refine tK (wpAny_seqItems gt dt ?_);simp only[Int.toNat_natCast,hv];refine tK (wpAny_setField gi di #[14] (tL {v,rfl,tL (q _ {_,Heap.get?_update_self _ gi (Obj.isFreed_of_fields (Obj.data_mapFields di _)),(Obj.cls_mapFields ..).trans ci,by rw[Obj.data_mapFields di];simp [rawInt]} #[70])}))
theorem TY{k:Nat}{Q:Value->Shared->Prop}(hh:A.handled=none)(st:s.heap.IsTupleIter it t k)(tu:s.heap.IsTuple t its)(hv:its[k]? = none)
  (q:∀g e,Heap.ExtBut it s.heap g->(∃o,g.get? e=some o/\o.cls=.type "StopIteration")->E (.ref e) { s with heap:=g }):wpAny #[3] A (Builtin.SmallTypes.nextOf (.ref it)) Q E s:=by
 obtain⟨oi,gi,ci,di⟩:=id st;obtain⟨ot,gt,_,nt,dt⟩:=tu;unfold Builtin.SmallTypes.nextOf;refine tK #[24];show wpAny _ _ (field (.ref it) 0 >>= _) _ _ _;refine tK (wpAny_field gi di (x:=.ref t) rfl ?_);show wpAny _ _ (if (Value.ref t==Value.none)=true then _ else _) _ _ _;rw[tN (show ¬(Value.ref t==Value.none)=true from gY)];show wpAny _ _ (field (.ref it) 1 >>= _) _ _ _;refine tK (wpAny_field gi di (x:=.int k 0) rfl ?_);show wpAny _ _ (seqItems? (.ref t) >>= _) _ _ _;refine tK (wpAny_seqItems gt dt ?_);simp only[Int.toNat_natCast,hv];refine tK (wpAny_rule (tK (wpAny_setField gi di #[14] ?_)));show wpAny _ _ (newExc (.type "StopIteration") [] >>= _) _ _ _;refine tK ?_;simp only[newExc,newTuple];refine tK (wpAny_newObj_type ?_ (by size_fits));refine tK (m:=firstArgMember _ _) (wpAny_of_eq (a:=Value.none) (by first | rfl | (simp only[firstArgMember];rfl)) ?_);refine wpAny_newObj_type ?_ (by size_fits);simp only[raiseNew];refine tK (wpAny_handled ?_);first | rw[show A.in1.handled=none from hh] | rw[hh]
 exact tK (tL (wpAny_throw (q _ _ ((#[70].extBut.push _).push _) {_,gU _ rfl,rfl})))
theorem IsTupleIter.as{h h':Heap}{k:Nat}(x:h.IsTupleIter a t k)(f:∀o,h.get? a=some o->h'.get? a=some o):h'.IsTupleIter a t k:=let ⟨o,ho,r⟩:=x;{o,f o ho,r}
structure Src(prog:Program)(w:World)(i:Addr) where
 at_:Nat->Heap->Prop
 has:List V->Heap->Prop
 dep:List Addr
 next:∀{xs:List V} {A:Around} {E:Value->Shared->Prop} {s:Shared} {k:Nat} {x:V} {Q:Value->Shared->Prop},at_ k s.heap->has xs s.heap->xs[k]? = some x->(∀g (t:Nat) u,RelV x u->at_ (k+1) g->Heap.SameBut i s.heap g->Q u { s with heap:=g,toks:=t })->wpAny #[3] A (Builtin.SmallTypes.nextOf (.ref i)) Q E s
 stop:∀{xs:List V} {A:Around} {E:Value->Shared->Prop} {s:Shared} {k:Nat} {Q:Value->Shared->Prop},A.handled=none->at_ k s.heap->has xs s.heap->xs[k]? = none->(∀g e,Heap.ExtBut i s.heap g->(∃o,g.get? e=some o/\o.cls=.type "StopIteration")->E (.ref e) { s with heap:=g })->wpAny #[3] A (Builtin.SmallTypes.nextOf (.ref i)) Q E s
 atk:∀{k:Nat} {h h':Heap},at_ k h->(∀o,h.get? i=some o->h'.get? i=some o)->at_ k h'
 hask:∀{xs:List V} {h h':Heap},has xs h->(∀c∈dep,∀o,h.get? c=some o->h'.get? c=some o)->has xs h'
 obj:∀{k:Nat} {h:Heap},at_ k h->∃o,h.get? i=some o/\∀v,o.data≠.cell v
structure Five(z TI TO i1 i2:Addr):Prop where
 nd:[z,TI,TO,i1,i2].Nodup
structure ZG(z TI TO:Addr){i1 i2:Addr}(S1:Src prog w i1)(S2:Src prog w i2)(k:Nat)(h:Heap):Prop where
 zz:IsZip h z TI TO .none
 ti:IsPair h TI (.ref i1) (.ref i2)
 to:∃a b,IsPair h TO a b
 one:S1.at_ k h
 two:S2.at_ k h
structure ZA(z TI TO i1 i2:Addr)(d:List Addr):Prop where
 TIz:TI≠z
 TOz:TO≠z
 i1z:i1≠z
 i2z:i2≠z
 TITO:TI≠TO
 TIi1:TI≠i1
 TIi2:TI≠i2
 TOi1:TO≠i1
 TOi2:TO≠i2
 i12:i1≠i2
 dz:∀l∈d,l≠z/\l≠TO/\l≠i1
theorem Five.za{z TI TO i1 i2:Addr}{d:List Addr}(F:Five z TI TO i1 i2)(h:∀b∈[z,TI,TO,i1,i2],b∉d):ZA z TI TO i1 i2 d:=by
 let nd:=F.nd;simp only[List.nodup_cons,nI,not_or,mK]at nd;obtain⟨⟨a1,a2,a3,a4,_⟩,⟨b1,b2,b3,_⟩,⟨c1,c2,_⟩,⟨d1,_⟩,_⟩:=nd;exact{Ne.symm a1,Ne.symm a2,Ne.symm a3,Ne.symm a4,b1,b2,b3,c1,c2,d1,λl hl=>{λe=>h z #[14] (e▸hl),λe=>h TO #[14] (e▸hl),λe=>h i1 #[14] (e▸hl)}}
variable{z TI TO i1 i2:Addr}{S1:Src prog w i1}{S2:Src prog w i2}{k:Nat}{xs ys:List V}
theorem SL{Q:Option Value->Shared->Prop}(D:ZA z TI TO i1 i2 (S1.dep++S2.dep))(Z:ZG z TI TO S1 S2 k s.heap)(t1:S1.has xs s.heap)(t2:S2.has ys s.heap)(hx:xs[k]? = some x)(hy:ys[k]? = some y)
  (q:∀g (t:Nat) u v,RelV x u->RelV y v->IsZip g z TI TO (rawInt s.heap.objs.size)->IsPair g TO u v->S1.at_ (k+1) g->S2.at_ (k+1) g->IsPair g s.heap.objs.size u v->
   (∀c o,c∉[z,TO,i1,i2]->s.heap.get? c=some o->g.get? c=some o)->Q (some (.ref s.heap.objs.size)) { s with heap:=g,toks:=t }):wpAny #[3] A (pyNext (.ref z)) Q E s:=by
 obtain⟨hz,hti,⟨a,b,hto⟩,s1,s2⟩:=Z;let T:s.TypeIs (.ref z) "zip":={_,hz,rfl};let D1:∀c∈S1.dep,c≠z/\c≠TO/\c≠i1:=λc hc=>D.dz c (List.mem_append_left _ hc);let D2:∀c∈S2.dep,c≠z/\c≠TO/\c≠i1:=λc hc=>D.dz c (gH _ hc);unfold pyNext;refine tK #[45];show wpAny _ _ (field (.ref z) 2 >>= _) _ _ _;refine tK (wpAny_field hz rfl (x:=.bool false) rfl ?_);show wpAny _ _ (field (.ref z) 3 >>= _) _ _ _;refine tK (wpAny_field hz rfl (x:=.ref TI) rfl (tK (wpAny_seqItems hti rfl ?_)));show wpAny _ _ (Builtin.SmallTypes.ownedTupleIsFree (.ref z) >>= _) _ _ _;refine tK ?_;unfold Builtin.SmallTypes.ownedTupleIsFree;refine tK (wpAny_field hz rfl (x:=.none) rfl (tL ?_));simp only[if_true];refine tK (wpAny_rule (tK (wpAny_field hz rfl (x:=.ref TO) rfl (tK (wpAny_setField_rec hz #[14] λg1 z1 b1=>?_)))))
 replace z1:IsZip g1 z TI TO .ellipsis:=z1
 refine tK ?_;simp only[List.zipIdx_cons,List.zipIdx_nil,List.forIn_cons,List.forIn_nil];refine tK (tK (wpAny_onRaise ?_));show wpAny _ _ (Builtin.SmallTypes.nextOf (.ref i1) >>= _) _ _ _;refine tK (S1.next (S1.atk s1 λo e=>b1.extBut _ _ D.i1z e) (S1.hask t1 λc hc o e=>b1.extBut _ _ (D1 c hc).1 e) hx λg2 tk2 u ru n2 b2=>tL ?_);let o2:IsPair g2 TO a b:=b2.extBut _ _ D.TOi1 (b1.extBut _ _ D.TOz hto);refine tK (wpAny_seqItems o2 rfl (tK (wpAny_updateSeq_pair o2 λg3 o3 b3=>?_)))
 replace o3:IsPair g3 TO u b:=o3
 refine tK (wpAny_letGo (tL (tK (tK (wpAny_onRaise ?_)))));show wpAny _ _ (Builtin.SmallTypes.nextOf (.ref i2) >>= _) _ _ _;refine tK (S2.next (S2.atk s2 λo e=>b3.extBut _ _ D.TOi2.symm (b2.extBut _ _ D.i12.symm (b1.extBut _ _ D.i2z e))) (S2.hask t2 λc hc o e=>b3.extBut _ _ (D2 c hc).2.1 (b2.extBut _ _ (D2 c hc).2.2 (b1.extBut _ _ (D2 c hc).1 e))) hy λg4 tk4 v rv n4 b4=>tL ?_);let o4:IsPair g4 TO u b:=b4.extBut _ _ D.TOi2 o3;refine tK (wpAny_seqItems o4 rfl (tK (wpAny_updateSeq_pair o4 λg5 o5 b5=>?_)))
 replace o5:IsPair g5 TO u v:=o5
 refine tK (wpAny_letGo (tL (tL (tK (wpAny_seqItems o5 rfl (tK (wpAny_newTuple ?_)))))));let sz:g5.objs.size=s.heap.objs.size:=by rw[b5.1,b4.1,b3.1,b2.1,b1.1]
 let z5:IsZip g5 z TI TO .ellipsis:=b5.extBut _ _ D.TOz.symm (b4.extBut _ _ D.i2z.symm (b3.extBut _ _ D.TOz.symm (b2.extBut _ _ D.i1z.symm z1)));let k5:∀c o,c∉[z,TO,i1,i2]->s.heap.get? c=some o->g5.get? c=some o:=λc o hc e=>by
  simp only[nI,not_or]at hc;exact b5.extBut _ _ hc.2.1 (b4.extBut _ _ hc.2.2.2.1 (b3.extBut _ _ hc.2.1 (b2.extBut _ _ hc.2.2.1 (b1.extBut _ _ hc.1 e))))
 let zl:z<g5.objs.size:=nP z5;show wpAny _ _ (Builtin.SmallTypes.ownedTupleHandOut (.ref z) (.ref g5.objs.size) >>= _) _ _ _;refine tK ?_;unfold Builtin.SmallTypes.ownedTupleHandOut;let z6:IsZip (g5.push { cls:=.type "tuple",data:=.seq #[u,v] }) z TI TO .ellipsis:=gC _ z5;refine tK (wpAny_setField_rec z6 #[14] λg7 z7 b7=>?_)
 replace z7:IsZip g7 z TI TO (rawInt g5.objs.size):=z7
 refine wpAny_setField_rec z7 #[14] λg8 z8 b8=>?_
 replace z8:IsZip g8 z TI TO (rawInt g5.objs.size):=z8
 let up:∀c o,c≠z->g5.get? c=some o->g8.get? c=some o:=λc o cz e=>b8.extBut _ _ cz (b7.extBut _ _ cz (gC _ e));let nu:IsPair g8 g5.objs.size u v:=b8.extBut _ _ (Nat.ne_of_gt zl) (b7.extBut _ _ (Nat.ne_of_gt zl) (gU _ rfl));rw[sz]at z8 nu;refine tL {_,rfl,tL ?_};show Q (some (.ref g5.objs.size)) _;rw[sz];exact q g8 tk4 u v ru rv z8 (up _ _ D.TOz o5) (S1.atk n2 λo e=>up _ o D.i1z (b5.extBut _ _ D.TOi1.symm (b4.extBut _ _ D.i12 (b3.extBut _ _ D.TOi1.symm e)))) (S2.atk n4 λo e=>up _ o D.i2z (b5.extBut _ _ D.TOi2.symm e)) nu λc o hc e=>up c o (λh=>hc (by simp [h])) (k5 c o hc e)
theorem VC{Q:Option Value->Shared->Prop}(hh:A.handled=none)(D:ZA z TI TO i1 i2 (S1.dep++S2.dep))(Z:ZG z TI TO S1 S2 k s.heap)(t1:S1.has xs s.heap)(t2:S2.has ys s.heap)(he:xs[k]? = none∨ys[k]? = none)
  (q:∀g (tk:Nat),(∀c o,c∉[z,TO,i1,i2]->s.heap.get? c=some o->g.get? c=some o)->Q none { s with heap:=g,toks:=tk }):wpAny #[3] A (pyNext (.ref z)) Q E s:=by
 obtain⟨hz,hti,⟨a,b,hto⟩,s1,s2⟩:=Z;let T:s.TypeIs (.ref z) "zip":={_,hz,rfl};let D1:∀c∈S1.dep,c≠z/\c≠TO/\c≠i1:=λc hc=>D.dz c (List.mem_append_left _ hc);let D2:∀c∈S2.dep,c≠z/\c≠TO/\c≠i1:=λc hc=>D.dz c (gH _ hc);unfold pyNext;refine tK #[45];let fin:∀g (tk:Nat) (e:Addr),(∀c o,c∉[z,TO,i1,i2]->s.heap.get? c=some o->g.get? c=some o)->(∃o,g.get? e=some o/\o.cls=.type "StopIteration")->
   wpAny #[3] A (do if (<-isInstance (.ref e) (.type "StopIteration"))then pure none else throw (.ref e)) Q E { s with heap:=g,toks:=tk } :=λg tk e hk ⟨o,ho,hc⟩=>
  tK (wpAny_isInstance (T:="StopIteration") (b:=true) {o,ho,(hc)} isSubtype_stop (tL (q _ tk hk)))
 show wpAny _ _ (field (.ref z) 2 >>= _) _ _ _;refine tK (wpAny_field hz rfl (x:=.bool false) rfl ?_);show wpAny _ _ (field (.ref z) 3 >>= _) _ _ _;refine tK (wpAny_field hz rfl (x:=.ref TI) rfl (tK (wpAny_seqItems hti rfl ?_)));show wpAny _ _ (Builtin.SmallTypes.ownedTupleIsFree (.ref z) >>= _) _ _ _;refine tK ?_;unfold Builtin.SmallTypes.ownedTupleIsFree;refine tK (wpAny_field hz rfl (x:=.none) rfl (tL ?_));simp only[if_true];refine tK (wpAny_rule (tK (wpAny_field hz rfl (x:=.ref TO) rfl (tK (wpAny_setField_rec hz #[14] λg1 z1 b1=>?_)))))
 replace z1:IsZip g1 z TI TO .ellipsis:=z1
 refine tK ?_;simp only[List.zipIdx_cons,List.zipIdx_nil,List.forIn_cons,List.forIn_nil];refine tK (tK (wpAny_onRaise ?_));show wpAny _ _ (Builtin.SmallTypes.nextOf (.ref i1) >>= _) _ _ _;have h1:=S1.atk s1 λo e=>b1.extBut _ _ D.i1z e;have h2:=S1.hask t1 λc hc o e=>b1.extBut _ _ (D1 c hc).1 e;cases hx:xs[k]? with
 | none=>
  refine tK (S1.stop hh h1 h2 hx λg2 e b2 ⟨oe,he,ce⟩=>?_);have z2:IsZip g2 z TI TO .ellipsis:=b2 _ _ D.i1z.symm z1;have ez:e≠z:=λh=>by subst h;rw[z2]at he;cases he;simp at ce
  refine wpAny_setField_rec z2 #[14] λg3 _ b3=>fin g3 _ e (λc o hc h=>?_) {oe,b3.extBut _ _ ez he,ce};simp only[nI,not_or]at hc;exact b3.extBut _ _ hc.1 (b2 _ _ hc.2.2.1 (b1.extBut _ _ hc.1 h))
 | some x=>
  let hy:ys[k]? = none:=he.resolve_left (by rw[hx];simp);refine tK (S1.next h1 h2 hx λg2 tk2 u ru n2 b2=>tL ?_);let o2:IsPair g2 TO a b:=b2.extBut _ _ D.TOi1 (b1.extBut _ _ D.TOz hto);refine tK (wpAny_seqItems o2 rfl (tK (wpAny_updateSeq_pair o2 λg3 o3 b3=>?_)));refine tK (wpAny_letGo (tL (tK (tK (wpAny_onRaise ?_)))));show wpAny _ _ (Builtin.SmallTypes.nextOf (.ref i2) >>= _) _ _ _;refine tK (S2.stop hh (S2.atk s2 λo e=>b3.extBut _ _ D.TOi2.symm (b2.extBut _ _ D.i12.symm (b1.extBut _ _ D.i2z e))) (S2.hask t2 λc hc o e=>b3.extBut _ _ (D2 c hc).2.1 (b2.extBut _ _ (D2 c hc).2.2 (b1.extBut _ _ (D2 c hc).1 e))) hy λg4 e b4 ⟨oe,he,ce⟩=>?_);let z4:IsZip g4 z TI TO .ellipsis:=b4 _ _ D.i2z.symm (b3.extBut _ _ D.TOz.symm (b2.extBut _ _ D.i1z.symm z1));let ez:e≠z:=λh=>by subst h;rw[z4]at he;cases he;simp at ce
  refine wpAny_setField_rec z4 #[14] λg5 _ b5=>fin g5 _ e (λc o hc h=>?_) {oe,b5.extBut _ _ ez he,ce};simp only[nI,not_or]at hc;exact b5.extBut _ _ hc.1 (b4 _ _ hc.2.2.2.1 (b3.extBut _ _ hc.2.1 (b2.extBut _ _ hc.2.2.1 (b1.extBut _ _ hc.1 h))))
def Itr0(prog:Program)(w:World)(v:Value)(o:Obj)(h:Heap):Prop:=∀{A:Around} {E:Value->Shared->Prop} {s:Shared} {Q:Value->Shared->Prop},s.heap=h->Q (.ref h.objs.size) { s with heap:=h.push o }->wpAny #[3] A (pyIter v) Q E s
theorem UU{o1 o2:Obj}{Q:Value->Shared->Prop}(p1:Itr0 prog w v1 o1 s.heap)(p2:Itr0 prog w v2 o2 (s.heap.push o1))(f1:o1.isFreed=false)(f2:o2.isFreed=false)
  (q:∀g,(∀c o,s.heap.get? c=some o->g.get? c=some o)->IsZip g (s.heap.objs.size+4) (s.heap.objs.size+2) (s.heap.objs.size+3) .none->IsPair g (s.heap.objs.size+2) (.ref s.heap.objs.size) (.ref (s.heap.objs.size+1))->(∃a b,IsPair g (s.heap.objs.size+3) a b)->g.get? s.heap.objs.size=some o1->g.get? (s.heap.objs.size+1)=some o2->Q (.ref (s.heap.objs.size+4)) { s with heap:=g }) :
  wpAny #[3] A (call (.type "zip") [v1,v2]) Q E s:=by
 refine callType_newIn (S:=λ_ R s'=>s'=s/\∀g,(∀c o,s.heap.get? c=some o->g.get? c=some o)->IsZip g (s.heap.objs.size+4) (s.heap.objs.size+2) (s.heap.objs.size+3) .none->IsPair g (s.heap.objs.size+2) (.ref s.heap.objs.size) (.ref (s.heap.objs.size+1))->(∃a b,IsPair g (s.heap.objs.size+3) a b)->g.get? s.heap.objs.size=some o1->g.get? (s.heap.objs.size+1)=some o2->R (.ok (.ret (.ref (s.heap.objs.size+4)))) { s with heap:=g }) F.called_zip #[0] (F.typeCall_zip_2 _ _) (F.newCall_zip_2 _ _) (λobj=>F.args_object_init_3 obj _ _) F.entry_zip_new (λA R s' h=>?_) {rfl,λg k zz ti to e1 e2=>{{_,zz,rfl},q g k zz ti to e1 e2}};obtain⟨rfl,h⟩:=h;refine tM (Q:=λfin s'=>∃v,fin=.done (.ret v)/\R (.ok (.ret v)) s') ?_ (λfin s' h'=>by obtain⟨v,rfl,hv⟩:=h';exact hv) λ_ _ x=>x;obtain⟨hp,gs,d,tk,os⟩:=s';let hsub:=sub_zip;let P1:∀{A:Around} {E:Value->Shared->Prop} {Q:Value->Shared->Prop},Q (.ref hp.objs.size) ⟨hp.push o1,gs,d,tk,os⟩->wpAny #[3] A (pyIter v1) Q E ⟨hp,gs,d,tk,os⟩:=λq=>p1 rfl q;let P2:∀{A:Around} {E:Value->Shared->Prop} {Q:Value->Shared->Prop},Q (.ref (hp.push o1).objs.size) ⟨(hp.push o1).push o2,gs,d,tk,os⟩->wpAny #[3] A (pyIter v2) Q E ⟨hp.push o1,gs,d,tk,os⟩:=λq=>p2 rfl q
 wp_walk using P1,P2
 let e1:=λo=>nG hp (o:=o);refine{_,rfl, ?_};simp only[nG]at h ⊢;refine h _ (λc o e=>gC _ (gC _ (gC _ (gC _ (gC _ e))))) ?_ ?_ ?_ ?_ ?_
 .have e:=gU ((((hp.push o1).push o2).push { cls:=.type "tuple",data:=.seq #[.ref hp.objs.size,.ref (hp.objs.size+1)] }).push { cls:=.type "tuple",data:=.seq #[.none,.none] }) (o:={ cls:=.type "zip",data:=.fields #[.none,.bool false,.bool false,.ref (hp.objs.size+2),.ref (hp.objs.size+3)] }) rfl;simp only[nG]at e;exact e
 .have e:=gU ((hp.push o1).push o2) (o:={ cls:=.type "tuple",data:=.seq #[.ref hp.objs.size,.ref (hp.objs.size+1)] }) rfl;simp only[nG]at e;exact gC _ (gC _ e)
 .have e:=gU (((hp.push o1).push o2).push { cls:=.type "tuple",data:=.seq #[.ref hp.objs.size,.ref (hp.objs.size+1)] }) (o:={ cls:=.type "tuple",data:=.seq #[.none,.none] }) rfl;simp only[nG]at e;exact{_,_,gC _ e}
 .exact gC _ (gC _ (gC _ (gC _ (gU hp f1))))
 .have e:=gU (hp.push o1) (o:=o2) f2;simp only[nG]at e;exact gC _ (gC _ (gC _ e))
end
section
variable{X:Cx}{ae:List #[13]}{O:St}{H:Hp}{s:Shared}{h':Heap}
theorem Inv.turnedL{t':Nat}{fp:List Addr}(I:Inv X ae O H s)(hf:∀b∈fp,FpOk X ae H b)(k:∀b o,b∉fp->s.heap.get? b=some o->h'.get? b=some o):Inv X ae O H { s with heap:=h',toks:=t' } :=by
 let nit:∀b u,H b=some u->b∉fp:=λb u e z=>by rw[(hf b z).1]at e;cases e
 refine I.step (g':=s.gens) (d':=s.drawn) (ch:=fp) (λb hb=>{(hf b hb).2.2.2.1,(hf b hb).2.1,(hf b hb).2.2.2.2.1,(hf b hb).2.2.2.2.2}) (λb o _ _ hc e _=>k b o hc e) (λb o _ _ hc e _=>{o.slots,k b o hc e}) (λ_ _ _ _ n=>n)
  (λb o hc e=>{o,k b o hc e}) (λ_ _ e=>e) (λ_ _ _ e=>e) (λb ps e=>{#[],by rw[e];simp}) (λm ⟨o,es,ep,ho,r⟩=>{o,es,ep,k _ o (λz=>(hf _ z).2.1 rfl) ho,r}) (λb u e=>?_) I.bare
 refine(I.hok b u e).stay (λc v hc q=>k c v ?_ q) (λ_ q=>q) λ_ _ q=>q;rcases hc with z | z
 .rw[z];exact nit b u e
 .exact nit c _ z
theorem FpOk.apart(I:Inv X ae O H s)(f:FpOk X ae H b)(h:SqT X.K H a xs):a≠b:=by
 rintro rfl;rcases h with(h | ⟨o,h⟩) | ⟨o,its,n,hk,hc,hs,hz,r⟩
 .rw[f.1]at h;cases h
 .rw[f.1]at h;cases h
 .have hb:X.base.get? a=some o:=I.ok.mod.kin a o hk;rcases f.2.2.2.1 with z | z
  .exact I.ok.noex a o hb z
  .exact absurd (gZ (nP hb) (nQ I.ok.bsz z)) (nJ _)
end
structure SrcJ(P:Program)(w:World)(K:tP){i1 i2:Addr}(S1:Src P w i1)(S2:Src P w i2)(J:It):Prop where
 go:∀(X:Cx),X.prog=P->X.w=w->X.K=K->∀{i:Nat} {ae:List #[13]} {s:Shared} {O:St} {H:Hp},Inv X ae O H s->J.go i H->∃xs ys x y,S1.has xs s.heap/\S2.has ys s.heap/\xs[i]? = some x/\ys[i]? = some y/\(∀b,FpOk X ae H b->b∉S1.dep++S2.dep)/\∀p,H p=none->J.yld i H (.ref p) (upd H p (.tup [x,y]))
 stop:∀(X:Cx),X.prog=P->X.w=w->X.K=K->∀{i:Nat} {ae:List #[13]} {s:Shared} {O:St} {H:Hp},Inv X ae O H s->J.stop i H->∃xs ys,S1.has xs s.heap/\S2.has ys s.heap/\(xs[i]? = none∨ys[i]? = none)/\∀b,FpOk X ae H b->b∉S1.dep++S2.dep
theorem ZG.objs{P:Program}{w:World}{z TI TO i1 i2:Addr}{S1:Src P w i1}{S2:Src P w i2}{i:Nat}{h:Heap}(Z:ZG z TI TO S1 S2 i h):∀b∈[z,TI,TO,i1,i2],∃o,h.get? b=some o/\∀v,o.data≠.cell v:=λb hb=>by
 simp only[nI,mK,or_false]at hb;obtain⟨hz,hti,⟨a,c,hto⟩,s1,s2⟩:=Z;rcases hb with rfl | rfl | rfl | rfl | rfl
 .exact{_,hz,λv q=>by cases (show Data.fields _=Data.cell v from q)}
 .exact{_,hti,λv q=>by cases (show Data.seq _ _=Data.cell v from q)}
 .exact{_,hto,λv q=>by cases (show Data.seq _ _=Data.cell v from q)}
 .exact S1.obj s1
 .exact S2.obj s2
theorem SM{P:Program}{w:World}{K:tP}{es:List Expr}{x1}{pos:Pos}{z TI TO i1 i2:Addr}{S1:Src P w i1}{S2:Src P w i2}{J:It}(SJ:SrcJ P w K S1 S2 J)(F:Five z TI TO i1 i2):Turn P w K (.Tuple es x1 pos) J [z,TI,TO,i1,i2] z (λi h=>ZG z TI TO S1 S2 i h) where
 mem:=by simp
 obj:=λi h Z=>Z.objs
 keep:=λi h h' Z k=>by
  obtain⟨hz,hti,⟨a,c,hto⟩,s1,s2⟩:=Z;exact{k z #[14] _ hz,k TI #[14] _ hti,{a,c,k TO #[14] _ hto},S1.atk s1 λo e=>k i1 #[14] o e,S2.atk s2 λo e=>k i2 #[14] o e}
 item:=by
  intro X hP hw hK hc i ae s O H E I hf Z hg;obtain⟨xs,ys,x,y,t1,t2,hx,hy,dp,yl⟩:=SJ.go X hP hw hK I hg;subst hP hw hK;let D:=F.za (λb hb=>dp b (hf b hb));refine SL D Z t1 t2 hx hy λg t u1 u2 ru1 ru2 z1 to1 n1 n2 nu kk=>{_,rfl, ?_};refine wpAny_letOwnedTupleGo_zip z1 λg2 z2 sb=>?_;let fr:H s.heap.objs.size=none:=I.hok.fresh uP ;let fp:∀b∈[z,TI,TO,i1,i2],FpOk X ae (upd H s.heap.objs.size (.tup [x,y])) b:=λb hb=>by
   obtain⟨o,ho,_⟩:=Z.objs b hb;exact{by rw[jG (nS (nP ho))];exact(hf b hb).1,(hf b hb).2}
  let I1:Inv X ae O (upd H s.heap.objs.size (.tup [x,y])) { s with heap:=s.heap.push { cls:=.type "tuple",data:=.seq #[u1,u2] },toks:=t } :=I.laid (t':=t) (λb u e=>gC _ e) uP {by simp [sizeLine],[u1,u2],.cons ru1 (.cons ru2 .nil),{_,gU _ rfl,rfl,_,rfl},.of (gU _ rfl) rfl};let up:∀c o,c≠z->g.get? c=some o->g2.get? c=some o:=λc o cz e=>sb.extBut _ _ cz e;let zs:z≠s.heap.objs.size:=nS (nP Z.zz);let I2:Inv X ae O (upd H s.heap.objs.size (.tup [x,y])) { s with heap:=g2,toks:=t } :=by
   refine Inv.turnedL (s:={ s with heap:=s.heap.push { cls:=.type "tuple",data:=.seq #[u1,u2] },toks:=t }) (h':=g2) (t':=t) I1 fp λb o hb e=>?_;let bz:b≠z:=λh=>hb (by simp [h]);rcases Heap.get?_push_cases e with⟨e1,e2⟩ | e1
   .rw[e1,e2];exact up _ _ (Ne.symm zs) nu
   .exact up _ _ bz (kk b o (λh=>hb (by simp only[nI,mK,or_false]at h ⊢;rcases h with h | h | h | h<;>simp [h])) e1)
  exact{.ref s.heap.objs.size,_,I2,rfl,yl _ fr,{z2,up _ _ D.TIz (kk _ _ (by simp [D.TIz,D.TITO,D.TIi1,D.TIi2]) Z.ti),{_,_,up _ _ D.TOz to1},S1.atk n1 λo e=>up _ o D.i1z e,S2.atk n2 λo e=>up _ o D.i2z e},λb hb=>(fp b hb).1}
 done:=by
  intro X hP hw hK hc i ae s O H E I hf Z hg;obtain⟨xs,ys,t1,t2,he,dp⟩:=SJ.stop X hP hw hK I hg;subst hP hw hK;exact VC (I.ok.hd hc) (F.za (λb hb=>dp b (hf b hb))) Z t1 t2 he λg tk kk=>{rfl,Inv.turnedL (t':=tk) I hf λb o hb e=>kk b o (λh=>hb (by simp only[nI,mK,or_false]at h ⊢;rcases h with h | h | h | h<;>simp [h])) e}
 self:=λ_ _ _ _ _ Z h=>wpAny_pyIter_zip Z.zz h
section
variable{X:Cx}
theorem PM{x1}{o1 o2:Obj}{s:Shared}{R:It->Hp->Prop}{E:Value->Shared->Prop}(I:Inv X ae O H s)(p1:Itr0 X.prog X.w v1 o1 s.heap)(p2:Itr0 X.prog X.w v2 o2 (s.heap.push o1))(f1:o1.isFreed=false)(f2:o2.isFreed=false)
  (S1:Src X.prog X.w s.heap.objs.size) (S2:Src X.prog X.w (s.heap.objs.size+1)) (a1:∀g,g.get? s.heap.objs.size=some o1->S1.at_ 0 g) (a2:∀g,g.get? (s.heap.objs.size+1)=some o2->S2.at_ 0 g) (SJ:SrcJ X.prog X.w X.K S1 S2 J) (q:R J H):wpAny #[1] A (call (.type "zip") [v1,v2]) (λv s2=>wpAny #[1] A (pyIter v) (PIE X ae O (.Tuple es x1 tp) R) E s2) E s:=by
 refine UU p1 p2 f1 f2 λg k zz ti to e1 e2=>wpAny_pyIter_zip zz ?_;refine{_,_,_,_,H,rfl,I.kept (t':=s.toks) k,SM SJ {by simp},{zz,ti,to,a1 g e1,a2 g e2},λb hb=>?_,q};let hb':s.heap.objs.size<=b:=by
  simp only[nI,mK,or_false]at hb;rcases hb with rfl | rfl | rfl | rfl | rfl<;>first | exact Nat.le_add_right _ _ | exact tE _
 exact I.fpOk hb' (I.hok.fresh hb')
end
def VO(a:Addr):Obj:={ cls:=.type "tuple_iterator",data:=.fields #[.ref a,.int 0 0] }
def JA(prog:Program)(w:World)(i l:Addr):Src prog w i where
 at_ k h:=h.IsTupleIter i l k
 has xs h:=∃its,h.IsTuple l (List.toArray its)/\Vals xs its
 dep:=[l]
 next st hs hx q:=by
  obtain⟨its,t,r⟩:=hs;obtain⟨u,hu,ru⟩:=r.get hx;exact nextT st t (by simpa using hu) λg n b=>q g _ u ru n b
 stop hh st hs hx q:=by
  obtain⟨its,t,r⟩:=hs;exact TY hh st t (by let:=r.length;let:=List.getElem?_eq_none_iff.mp hx;simp;∎) q
 atk x f:=IsTupleIter.as x f
 hask x f:=let ⟨its,⟨o,h1,h2⟩,r⟩:=x;{its,{o,f l (hJ.mpr rfl) o h1,h2},r}
 obj x:=let ⟨o,h1,_,d⟩:=x;{o,h1,λv q=>by rw[d]at q;cases q}
theorem Inv.hasT{X:Cx}{s:Shared}(I:Inv X ae O H s)(h:SqT X.K H a xs):(JA X.prog X.w i a).has xs s.heap:=by
 obtain⟨its,r,p,_⟩:=I.tuple h;exact{its,p,(r)}
theorem it0T{h:Heap}(t:h.IsTuple a its):Itr0 prog w (.ref a) (VO a) h:=λe q=>by
 subst e;exact wpAny_pyIter_tuple t q
theorem at0T(g:Heap)(e:g.get? i=some (VO a)):(JA prog w i a).at_ 0 g:={_,e,rfl,rfl}
def Itz(K:tP)(a b:Addr):It:=
 ⟨λi H=>∃xs ys x y,SqT K H a xs/\SqT K H b ys/\xs[i]? = some x/\ys[i]? = some y,
  λi H v H'=>∃p x y,H p=none/\v=.ref p/\H'=upd H p (.tup [x,y])/\(∀xs,SqT K H a xs->xs[i]? = some x)/\(∀ys,SqT K H b ys->ys[i]? = some y),
  λi H=>∃xs ys,SqT K H a xs/\SqT K H b ys/\(xs.length<=i∨ys.length<=i)⟩
theorem srcJ_T{P:Program}{w:World}{K:tP}{i1 i2 a b:Addr} :SrcJ P w K (JA P w i1 a) (JA P w i2 b) (Itz K a b):=by
 refine{λX hP hw hK {i ae s O H} I hg=>?_,λX hP hw hK {i ae s O H} I hg=>?_}<;>subst hP hw hK
 .obtain⟨xs,ys,x,y,q1,q2,hx,hy⟩:=hg;exact{xs,ys,x,y,I.hasT q1,I.hasT q2,hx,hy,λb' f=>by rintro z;rcases mV.mp z with z | z;exact(f.apart I q1) (hJ.mp z).symm;exact(f.apart I q2) (hJ.mp z).symm,λp n=>{p,x,y,n,rfl,rfl,λxs' h=>by rw[I.tuple_inj h q1];exact hx,λys' h=>by rw[I.tuple_inj h q2];exact hy}}
 .obtain⟨xs,ys,q1,q2,he⟩:=hg;exact{xs,ys,I.hasT q1,I.hasT q2,he.imp gJ gJ,λb' f=>by rintro z;rcases mV.mp z with z | z;exact(f.apart I q1) (hJ.mp z).symm;exact(f.apart I q2) (hJ.mp z).symm}
section
variable{X:Cx}
def iZipT(K:tP)(ta:TA):TI:=fun O H R=>ta O H λvs H1=>∃a b,vs=[.ref a,.ref b]/\(∃xs,SqT K H1 a xs)/\(∃ys,SqT K H1 b ys)/\R (Itz K a b) H1
theorem pi_zipT{es:List Expr}{x1}{tp:Pos}{a b:Expr}{ta:TA}{p pos:Pos}(hg:Gl X "zip")(hm:X.mg "zip" = none)(ha:PA X [a,b] ta)(hs:starEach [a,b] X.env=[(false,eval a X.env),(false,eval b X.env)]:=by rfl)(hs2:starEach [b] X.env=[(false,eval b X.env)]:=by rfl) :
  PI X (.Tuple es x1 tp) (.Call (.Name "zip" p) [a,b] [] pos) (iZipT X.K ta):=by
 intro ae s O H R I h;refine Call_ (yH I hg hm boot_zip (PyProof.Rows.callWith_type1 #[39] (by rw[hs,hs2]) (by rw[hs2];rfl)));obtain⟨l1,l2,e,⟨xs,q1⟩,⟨ys,q2⟩,q⟩:=q1;subst e;cases r1 with
 | cons r rr=>
  cases rr with
  | cons r' rr=>
   cases rr;cases r;cases r';obtain⟨its1,_,p1,_⟩:=I1.tuple q1;obtain⟨its2,_,p2,_⟩:=I1.tuple q2;exact PM I1 (it0T p1) (it0T (Heap.IsTuple.push p2 _)) rfl rfl (JA _ _ _ l1) (JA _ _ _ l2) (λg=>at0T g) (λg=>at0T g) srcJ_T q
end
end L2
namespace HT
open PySem PySem.Spec PyProof.Rows
section
variable{prog:Program}{w:World}{A:Around}{E:Value->Shared->Prop}{s:Shared}
theorem cat_any{vs ws:List Value}{Q:Value->Shared->Prop}(ht:IsTup s.heap t vs.toArray)(hb:IsTup s.heap b ws.toArray)(h0:vs=[]->Q (.ref b) s)
  (h1:ws=[]->Q (.ref t) s) (h2:Q (.ref s.heap.objs.size) { s with heap:=s.heap.push { cls:=.type "tuple",data:=.seq (vs++ws).toArray } })
  (hz:vs.length+ws.length<=sizeLine):wpAny #[3] A (binaryOp .Add (.ref t) (.ref b)) Q E s:=by
 by_cases hv:vs=[]
 .obtain⟨⟨c1,x1,y1,z1⟩,g1,rfl,n1,rfl⟩:=id ht;obtain⟨⟨c2,x2,y2,z2⟩,g2,rfl,n2,rfl⟩:=id hb;exact concat_meets {_,g1,rfl} {_,g2,rfl} noFill_tuple_add seq_tuple_add PySem.F.slot_tuple_add PySem.F.entry_tuple_add (PySem.F.args_tuple_add_2 _ _) (tuple_addW0 t b vs.toArray ws.toArray n1 n2 x1 x2 z1 z2 (by simp [hv])) {g1,g2,h0 hv}
 .exact cat_tup ht hb hv h1 (λ_=>h2) hz
end
end HT
namespace L2
open PySem PySem.Spec PyProof.Rows
section
variable{X:Cx}
def Gets(H:Hp)(xs:List V)(Q:VK):Prop:=∀p H',Same H H'->H' p=some (.tup xs)->Q (.ref p) H'
def rCatH:R2:=λx y H Q=>∃a b xs ys,x=.ref a/\y=.ref b/\H a=some (.tup xs)/\H b=some (.tup ys)/\xs.length+ys.length<=sizeLine/\Gets H (xs++ys) Q
theorem op_catH:OpR X (binaryOp .Add) rCatH:=by
 intro ae s O H x y v u Q I rx ry h;obtain⟨a,b,xs,ys,rfl,rfl,ha,hb,hz,q⟩:=h;cases rx;cases ry;obtain⟨its,r1,p1,_⟩:=I.tuple (SqT.of ha);obtain⟨its2,r2,p2,_⟩:=I.tuple (SqT.of hb);refine HT.cat_any p1 p2 (λz=>{.ref b,H,I,rfl,q b H (λ_ _ e=>e) ?_}) (λz=>{.ref a,H,I,rfl,q a H (λ_ _ e=>e) ?_}) ?_ (by rw[<-r1.length,<-r2.length];exact hz)
 .rw[r1.nil_iff.mp z];exact hb
 .rw[r2.nil_iff.mp z,List.append_nil];exact ha
 .have n:=I.hok.fresh (tE s.heap.objs.size);refine{.ref s.heap.objs.size,_,I.laid (t':=s.toks) (o:=.tup (xs++ys)) (λb ob q=>gC _ q) uP ?_,rfl,q _ _ (Lw.jO _ n) jE};exact{by rw[List.length_append];exact hz,_,r1.append r2,IsTup.new _ _,.of (gU _ rfl) rfl}
end
end L2
namespace LwMx
open PySem PySem.Spec PyProof.Rows L2 Lw
section
variable{prog:Program}{w:World}{A:Around}{R:Result->Shared->Prop}{J:Addr}{fp wr:List Addr}{n:Nat}{Pv:Nat->Value->Prop}{St:Nat->Heap->Prop}
theorem HZ:(toString "max"++toString ".loop" :String)="max.loop":=by decide
theorem XS(Wk:Walks prog w A.in1 J fp wr n Pv St)(gt:Nat->Nat->Bool)(cmp:CmpOf prog w A.in1 .Gt Pv gt)(B:Addr)(out:B∉fp)(kws:List (Str×Value)) :
  ∀(k j:Nat) (s:Shared) (x:Value) (c:Nat),n-(j+1)=k->j+1<=n->St (j+1) s.heap->Pv (argBest gt j) x->
  s.heap.get? B=some { cls:=.type "list",dict:=none,data:=.seq #[x,x] c,slots:=#[] }->
  (∀y h' tk,Pv (argBest gt (n-1)) y->(∀b o,b∉wr->b≠B->s.heap.get? b=some o->h'.get? b=some o)->R (.ok (.ret y)) { s with heap:=h',toks:=tk })->
  codeAny #[3] A (.builtin "max.loop" {[.ref J,.none,.ref B],kws}) R s:=by
 let outw:B∉wr:=λz=>out (Wk.sub _ z);intro k;induction k with
 | zero=>
  intro j s x c hk hj st px hB hR;let jn:j+1=n:=∎
  refine codeAny_builtin PySem.F.entry_max_loop ?_;rw[Around.under_plainId PySem.F.plain_max_loop _];show wpAny _ A.in1 (seqItems? (.ref B) >>= _) _ _ s;refine tK (wpAny_seqItems hB rfl ?_);show wpAny _ A.in1 (tryCatch (pyNext (.ref J)) _ >>= _) _ _ s;refine tK (wpAny_tryCatch (Wk.done s _ _ (jn▸st) λh1 t1 k1=>?_));let hB1:=k1 B _ outw hB;show wpAny _ A.in1 (updateSeq B (λ_=>#[]) >>= _) _ _ _;refine tK (wpAny_updateSeq hB1 rfl (tK (wpAny_letGo (tL ?_))));exact hR x _ t1 (by rw[<-jn];exact px) λb o n1 n2 e=>(Heap.get?_update_other _ _ (Ne.symm n2)).trans (k1 b o n1 e)
 | succ k ih=>
  intro j s x c hk hj st px hB hR;let jn:j+1<n:=∎
  refine codeAny_builtin PySem.F.entry_max_loop ?_;rw[Around.under_plainId PySem.F.plain_max_loop _];show wpAny _ A.in1 (seqItems? (.ref B) >>= _) _ _ s;refine tK (wpAny_seqItems hB rfl ?_);show wpAny _ A.in1 (tryCatch (pyNext (.ref J)) _ >>= _) _ _ s;refine tK (wpAny_tryCatch (Wk.item (j+1) s _ _ jn st λy h1 t1 py st1 k1=>?_));let hB1:=k1 B _ outw hB;show wpAny _ A.in1 (tryCatch (holding [y,y] (richCompare .Gt y x >>= _)) _ >>= _) _ _ _;refine tK (wpAny_tryCatch (wpAny_holding (tK (cmp (j+1) (argBest gt j) y x _ _ _ py px ?_))));refine tK (wpAny_holding (wpAny_truthy_bool (tK (wpAny_letGo (tL ?_)))));cases hb:gt (j+1) (argBest gt j)with
  | true=>
   simp only[if_true];refine tK (wpAny_updateSeq hB1 rfl (tK (wpAny_letGo ?_)));rw[HZ];refine tL {plainId_quiet PySem.F.plain_max_loop _,ih (j+1) _ y _ ∎ jn (Wk.frame _ _ _ st1 λb hb' o e=>?_) (by simp only[argBest,hb,if_true];exact py) (Heap.get?_update_self _ hB1 rfl) λy' h2 t2 p2 k2=>?_}
   .exact(Heap.get?_update_other _ _ (λz:B=b=>out (by rw[z];exact hb'))).trans e
   .exact hR y' h2 t2 p2 λb o n1 n2 e=>k2 b o n1 n2 ((Heap.get?_update_other _ _ (Ne.symm n2)).trans (k1 b o n1 e))
  | false=>
   simp only[Bool.false_eq_true,if_false];refine tK (wpAny_letGo ?_);rw[HZ];refine tL {plainId_quiet PySem.F.plain_max_loop _,ih (j+1) _ x c ∎ jn st1 (by simp only[argBest,hb,Bool.false_eq_true,if_false];exact px) hB1 λy' h2 t2 p2 k2=>?_};exact hR y' h2 t2 p2 λb o n1 n2 e=>k2 b o n1 n2 (k1 b o n1 e)
theorem XT(Wk:Walks prog w A.in1 J fp wr n Pv St)(gt:Nat->Nat->Bool)(cmp:CmpOf prog w A.in1 .Gt Pv gt)(B:Addr)(out:B∉fp)(d:Value){s:Shared}{c:Nat}(st:St 0 s.heap)
  (hB:s.heap.get? B=some { cls:=.type "list",dict:=none,data:=.seq #[] c,slots:=#[] })
  (h0:n=0->∀h' tk,(∀b o,b∉wr->b≠B->s.heap.get? b=some o->h'.get? b=some o)->R (.ok (.ret d)) { s with heap:=h',toks:=tk })
  (hR:0<n->∀y h' tk,Pv (argBest gt (n-1)) y->(∀b o,b∉wr->b≠B->s.heap.get? b=some o->h'.get? b=some o)->R (.ok (.ret y)) { s with heap:=h',toks:=tk }) :
  codeAny #[3] A (.builtin "max.loop" {[.ref J,.none,.ref B],[("default",d)]}) R s:=by
 let outw:B∉wr:=λz=>out (Wk.sub _ z);refine codeAny_builtin PySem.F.entry_max_loop ?_;rw[Around.under_plainId PySem.F.plain_max_loop _];show wpAny _ A.in1 (seqItems? (.ref B) >>= _) _ _ s;refine tK (wpAny_seqItems hB rfl ?_);show wpAny _ A.in1 (tryCatch (pyNext (.ref J)) _ >>= _) _ _ s;by_cases hn:0<n
 .refine tK (wpAny_tryCatch (Wk.item 0 s _ _ hn st λy h1 t1 py st1 k1=>?_));let hB1:=k1 B _ outw hB;show wpAny _ A.in1 (updateSeq B (λ_=>#[y,y]) >>= _) _ _ _;refine tK (wpAny_updateSeq hB1 rfl ?_);rw[HZ];refine tL {plainId_quiet PySem.F.plain_max_loop _,XS Wk gt cmp B out _ _ 0 _ y _ rfl hn (Wk.frame _ _ _ st1 λb hb' o e=>?_) py (Heap.get?_update_self _ hB1 rfl) λy' h2 t2 p2 k2=>?_}
  .exact(Heap.get?_update_other _ _ (λz:B=b=>out (by rw[z];exact hb'))).trans e
  .exact hR hn y' h2 t2 p2 λb o n1 n2 e=>k2 b o n1 n2 ((Heap.get?_update_other _ _ (Ne.symm n2)).trans (k1 b o n1 e))
 .have z:n=0:=∎
  subst z;refine tK (wpAny_tryCatch (Wk.done s _ _ st λh1 t1 k1=>?_));refine tK (wpAny_rule (tL ?_));exact h0 rfl _ t1 λb o n1 n2 e=>k1 b o n1 e
end
theorem mx_args(a v:Value):argsOk "max" {[a],[(Str.ofString "default",v)]}:=by unfold argsOk;kernel_rfl
section
variable{prog:Program}{w:World}{A:Around}{E:Value->Shared->Prop}{s:Shared}
theorem mx_call{Q:Value->Shared->Prop}
  (h:wpAny #[3] A.in1 (pyIter x) (λit s₂=>∃J fp wr n Pv St gt,it=.ref J/\Walks prog w A.in1 J fp wr n Pv St/\St 0 s₂.heap/\(∀b∈fp,b<s₂.heap.objs.size)/\CmpOf prog w A.in1 .Gt Pv gt/\
   (n=0->∀h' tk,(∀b o,b∉wr->s₂.heap.get? b=some o->h'.get? b=some o)->Q d { s₂ with heap:=h',toks:=tk })/\
   (0<n->∀v h' tk,Pv (argBest gt (n-1)) v->(∀b o,b∉wr->s₂.heap.get? b=some o->h'.get? b=some o)->Q v { s₂ with heap:=h',toks:=tk })) E s) :
  wpAny #[3] A (call (.builtin "max") [x] [(Str.ofString "default",d)]) Q E s:=by
 refine kmb_tree PySem.F.kind_max PySem.F.plain_max PySem.F.entry_max (mx_args _ _) ?_;show wpAny _ A.in1 (Builtin.Builtins.bindParams "max" ["key","default"] 0 {[],[(Str.ofString "default",d)]} >>= _) _ _ s;refine tK (wpAny_of_eq (show Builtin.Builtins.bindParams "max" ["key","default"] 0 {[],[(Str.ofString "default",d)]}=pure [none,some d]from rfl) ?_);refine tK (tL (tK (tM h (λit s₂ h₂=>?_) λ_ _ e=>e)));obtain⟨J,fp,wr,n,Pv,St,gt,rfl,Wk,st,lt,cmp,q0,q1⟩:=h₂;refine tK (wpAny_newObj_type ?_);let out:s₂.heap.objs.size∉fp:=λz=>nJ _ (lt _ z);rw[HZ];let up:∀(h':Heap),(∀b o,b∉wr->b≠s₂.heap.objs.size->(s₂.heap.push { cls:=.type "list",data:=.seq ([]:List Value).toArray }).get? b=some o->h'.get? b=some o)->∀b o,b∉wr->s₂.heap.get? b=some o->h'.get? b=some o:=λh' k b o n1 e=>
  k b o n1 (nS (nP e)) (gC _ e)
 refine tL {plainId_quiet PySem.F.plain_max_loop _,XT Wk gt cmp s₂.heap.objs.size out d (Wk.frame _ _ _ st λb _ o e=>gC _ e) (gU _ rfl) (λz h' tk k=>q0 z h' tk (up h' k)) λz v h' tk p k=>q1 z v h' tk p (up h' k)}
end
theorem best_is(ns:List Int):∀k,k<ns.length->(argBest #[36] k)<=k/\∀j,j<=k->ns.getD j 0<=ns.getD (argBest #[36] k) 0
 | 0,_=>{tE _,λj hj=>by let:j=0:=∎;subst this;exact tJ _}
 | k+1,h=>by
  obtain⟨h1,h2⟩:=best_is ns k ∎;simp only[argBest];split
  .rename_i hb;let hb:=mG hb;refine{tE _,λj hj=>?_};rcases Nat.lt_or_ge j (k+1)with z | z
   .have:=h2 j ∎
    ∎
   .have:j=k+1:=∎
    subst this;exact tJ _
  .rename_i hb;refine{∎,λj hj=>?_};rcases Nat.lt_or_ge j (k+1)with z | z
   .exact h2 j ∎
   .have e:j=k+1:=∎
    let:¬ns.getD (k+1) 0>ns.getD (argBest #[36] k) 0:=λy=>hb (mW y);rw[e]
    ∎
section
variable{X:Cx}
def rMaxD(d:Int):List V->Hp->VK->Prop:=λxs H Q=>∃(l:Addr) (ns:List Int),xs=[.ref l]/\H l=some (.lst #[16])/\(ns=[]->Q (.int d) H)/\∀m,m∈ns->(∀x∈ns,x<=m)->Q (.int m) H
theorem UW{ns:List Int}{d:Int}(hc:X.calm=true)(I:Inv X ae O H s)(hl:H l=some (.lst #[16]))
  (q0:ns=[]->Q (.int d) H) (q1:∀m,m∈ns->(∀x∈ns,x<=m)->Q (.int m) H):wpAny #[1] X.A (call (.builtin "max") [.ref l] [(Str.ofString "default",.int d t)]) #[60] X.xe s:=by
 obtain⟨its,rv,p,_⟩:=I.list (SqL.of hl);let i1:IntsAre its ns:=qW rv;let il:=vD i1;let ha:l<s.heap.objs.size:=by
  obtain⟨o,_,e,_⟩:=p;exact nP e
 let p':s.heap.IsList l its.toArray:=by
  obtain⟨o,n,e,e2,_,e3⟩:=p;exact{o,e,e2,{n,(e3)}}
 refine mx_call (wpAny_pyIter_list p' ?_);refine{s.heap.objs.size,_,_,_,_,_,λi j=>decide (ns.getD i 0>ns.getD j 0),rfl,Walks.list #[51] s.heap.objs.size l (nS ha) its.toArray,{{_,gU _ rfl,rfl,rfl},p'.push _}, ?_, ?_, ?_, ?_}
 .intro b hb;show b<(s.heap.push _).objs.size;rw[nG];simp only[nI,mK,or_false]at hb;rcases hb with rfl | rfl
  .exact mQ _
  .exact Nat.lt_succ_of_lt ha
 .refine CmpOf.ints_gt (λi=>ns.getD i 0) λi v hv=>?_;let hv':its[i]? = some v:=by simpa using hv
  obtain⟨hi,e⟩:=uW.mp hv';obtain⟨n,t,e1,e2⟩:=vL i1 hi;exact{t,by rw[<-e,e2,uT,e1];rfl}
 .intro z h' tk k;let z':ns=[]:=by
   let:its.length=0:=by simpa using z
   exact List.length_eq_zero_iff.mp ∎
  refine{.int d,H,I.kept (t':=tk) (λb o e=>k b o ?_ (gC _ e)),{t,(rfl)},q0 z'};simp;exact nS (nP e)
 .intro z v h' tk hv k;let z':0<ns.length:=by
   let:0<its.length:=by simpa using z
   ∎
  let sz:its.toArray.size=ns.length:=by rw[mC,il]
  rw[sz]at hv;obtain⟨b1,b2⟩:=best_is ns (ns.length-1) ∎;generalize argBest #[36] (ns.length-1)=i at hv b1 b2;let hv':its[i]? = some v:=by simpa using hv
  obtain⟨hi,e⟩:=uW.mp hv';obtain⟨n,t,e1,e2⟩:=vL i1 hi;let en:ns.getD i 0=n:=by rw[uT,e1];rfl
  refine{.int n,H,I.kept (t':=tk) (λb o e=>k b o ?_ (gC _ e)),{t,by rw[<-e,e2]},q1 n (gL e1) λx hx=>?_}
  .simp;exact nS (nP e)
  .obtain⟨j,hj⟩:=gK.mp hx;let hjl:=(uW.mp hj).1;let:=b2 j ∎;rw[en,uT,hj]at this;exact this
variable{p pos kpos:Pos}{e e2:Expr}{es:List Expr}{t tk:TA}
def tMaxD(t tk:TA):TE:=fun O H Q=>t O H λvs H1=>tk O H1 λzs H2=>∃d,zs=[.int d]/\rMaxD d vs H2 Q
theorem pe_maxD(hc:X.calm=true)(hg:Gl X "max")(hm:X.mg "max" = none)(ha:PA X [e] t)(hk:PK X [{some "default",e2,kpos}] tk)
  (hall:#[15].all (·.1.isSome)=true:=by rfl) (hks:#[15].filterMap (·.1)=[Str.ofString "default"]:=by rfl)
  (he:starEach [e] X.env=[(false,eval e X.env)]:=by rfl)
  (hpl:((backTo pos (starEach [e] X.env)).any (·.1)||#[15].any (·.1.isNone))=false:=by rfl) :
  PE X (.Call (.Name "max" p) [e] [{some "default",e2,kpos}] pos) (tMaxD t tk):=by
 intro ae s O H Q I h;refine wpAny_Call_Name_kw (yH I hg hm (show bootBuiltins "max" = some (.builtin "max") by decide +kernel) ?_ #[0] #[0]);refine PySem.W.callWith_of (P:=λ_=>True) hpl (λ_ _=>{_,.inr (.inl rfl),PySem.W.Looks.of_pure rfl}) (evalArgs_kw2 hall (thn #[46] λus s1 ⟨vs,H1,I1,r,q⟩=>?_) he);refine thn (hk pos ae s1 O H1 _ I1 q) λws s2 ⟨zs,H2,I2,rz,q2⟩=>{trivial, ?_};rw[hks];obtain⟨d,rfl,l,ns,rfl,hl,q0,q1⟩:=q2;obtain⟨u,rfl,ru⟩:=vV r;cases ru;obtain⟨u,rfl,⟨t,rfl⟩⟩:=vV rz;exact UW hc I2 hl q0 q1
def rMax1:List V->Hp->VK->Prop:=λxs H Q=>∃(l:Addr) (ns:List Int),xs=[.ref l]/\H l=some (.lst #[16])/\ns≠[]/\∀m,m∈ns->(∀x∈ns,x<=m)->Q (.int m) H
theorem call_max1(hc:X.calm=true):CallR X (.builtin "max") rMax1:=by
 intro ae s O H xs us Q I r h;obtain⟨l,ns,rfl,hl,hne,q1⟩:=h;obtain⟨u,rfl,ru⟩:=vV r;cases ru;obtain⟨its,rv,p,_⟩:=I.list (SqL.of hl);let i1:IntsAre its ns:=qW rv;let il:=vD i1;let ha:l<s.heap.objs.size:=by
  obtain⟨o,_,e,_⟩:=p;exact nP e
 let p':s.heap.IsList l its.toArray:=by
  obtain⟨o,n,e,e2,_,e3⟩:=p;exact{o,e,e2,{n,(e3)}}
 let np:0<ns.length:=List.length_pos_iff.mpr hne;refine call_max_walk (wpAny_pyIter_list p' ?_);refine{s.heap.objs.size,_,_,_,_,_,λi j=>decide (ns.getD i 0>ns.getD j 0),rfl,Walks.list #[51] s.heap.objs.size l (nS ha) its.toArray,{{_,gU _ rfl,rfl,rfl},p'.push _}, ?_, ?_, ?_, ?_}
 .intro b hb;show b<(s.heap.push _).objs.size;rw[nG];simp only[nI,mK,or_false]at hb;rcases hb with rfl | rfl
  .exact mQ _
  .exact Nat.lt_succ_of_lt ha
 .rw[mC,il];exact np
 .refine CmpOf.ints_gt (λi=>ns.getD i 0) λi v hv=>?_;let hv':its[i]? = some v:=by simpa using hv
  obtain⟨hi,e⟩:=uW.mp hv';obtain⟨n,t,e1,e2⟩:=vL i1 hi;exact{t,by rw[<-e,e2,uT,e1];rfl}
 .intro v h' tk hv k;let sz:its.toArray.size=ns.length:=by rw[mC,il]
  rw[sz]at hv;obtain⟨b1,b2⟩:=best_is ns (ns.length-1) ∎;generalize argBest #[36] (ns.length-1)=i at hv b1 b2;let hv':its[i]? = some v:=by simpa using hv
  obtain⟨hi,e⟩:=uW.mp hv';obtain⟨n,t,e1,e2⟩:=vL i1 hi;let en:ns.getD i 0=n:=by rw[uT,e1];rfl
  refine{.int n,H,I.kept (t':=tk) (λb o e=>k b o ?_ (gC _ e)),{t,by rw[<-e,e2]},q1 n (gL e1) λx hx=>?_}
  .simp;exact nS (nP e)
  .obtain⟨j,hj⟩:=gK.mp hx;let hjl:=(uW.mp hj).1;let:=b2 j ∎;rw[en,uT,hj]at this;exact this
end
end LwMx
namespace L2
open PySem PySem.Spec PyProof.Rows
section
variable{X:Cx}{ae:List #[13]}{O:St}{H:Hp}{s:Shared}
theorem FpOk.apartL(I:Inv X ae O H s)(f:FpOk X ae H b)(h:SqL X.K H a xs):a≠b:=by
 rintro rfl;rcases h with(h | ⟨o,h⟩) | ⟨o,its,n,hk,hc,hs,hz,r⟩
 .rw[f.1]at h;cases h
 .rw[f.1]at h;cases h
 .have hb:X.base.get? a=some o:=I.ok.mod.kin a o hk;rcases f.2.2.2.1 with z | z
  .exact I.ok.noex a o hb z
  .exact absurd (gZ (nP hb) (nQ I.ok.bsz z)) (nJ _)
end
def lstObj(a:Addr):Obj:={ cls:=.type "list_iterator",data:=.fields #[.ref a,.int 0 0] }
def srcL(prog:Program)(w:World)(i l:Addr):Src prog w i where
 at_ k h:=h.IsListIter i l k
 has xs h:=∃its,h.IsList l (List.toArray its)/\Vals xs its
 dep:=[l]
 next st hs hx q:=by
  obtain⟨its,t,r⟩:=hs;obtain⟨u,hu,ru⟩:=r.get hx;exact wpAny_nextOf_list_item st t (by simpa using hu) λg n b=>q g _ u ru n b
 stop hh st hs hx q:=by
  obtain⟨its,t,r⟩:=hs;exact wpAny_nextOf_list_end hh st t (by let:=r.length;let:=List.getElem?_eq_none_iff.mp hx;simp;∎) q
 atk x f:=x.at f
 hask x f:=let ⟨its,t,r⟩:=x;{its,let ⟨o,h1,h2⟩:=t;{o,f l (hJ.mpr rfl) o h1,h2},r}
 obj x:=let ⟨o,h1,_,d⟩:=x;{o,h1,λv q=>by rw[d]at q;cases q}
theorem it0L{h:Heap}(t:h.IsList a its):Itr0 prog w (.ref a) (lstObj a) h:=λe q=>by
 subst e;exact wpAny_pyIter_list t q
theorem Inv.hasL{X:Cx}{s:Shared}(I:Inv X ae O H s)(h:SqL X.K H a xs):(srcL X.prog X.w i a).has xs s.heap:=by
 obtain⟨its,r,p,_⟩:=I.list h;exact{its,p.isList,(r)}
def Itu(K:tP)(a b:Addr):It:=
 ⟨λi H=>∃xs ys x y,SqT K H a xs/\SqL K H b ys/\xs[i]? = some x/\ys[i]? = some y,
  λi H v H'=>∃p x y,H p=none/\v=.ref p/\H'=upd H p (.tup [x,y])/\(∀xs,SqT K H a xs->xs[i]? = some x)/\(∀ys,SqL K H b ys->ys[i]? = some y),
  λi H=>∃xs ys,SqT K H a xs/\SqL K H b ys/\(xs.length<=i∨ys.length<=i)⟩
theorem srcJ_U{P:Program}{w:World}{K:tP}{i1 i2 a b:Addr} :SrcJ P w K (JA P w i1 a) (srcL P w i2 b) (Itu K a b):=by
 refine{λX hP hw hK {i ae s O H} I hg=>?_,λX hP hw hK {i ae s O H} I hg=>?_}<;>subst hP hw hK
 .obtain⟨xs,ys,x,y,q1,q2,hx,hy⟩:=hg;exact{xs,ys,x,y,I.hasT q1,I.hasL q2,hx,hy,λb' f=>by rintro z;rcases mV.mp z with z | z;exact(f.apart I q1) (hJ.mp z).symm;exact(f.apartL I q2) (hJ.mp z).symm,λp n=>{p,x,y,n,rfl,rfl,λxs' h=>by rw[I.tuple_inj h q1];exact hx,λys' h=>by rw[I.list_inj h q2];exact hy}}
 .obtain⟨xs,ys,q1,q2,he⟩:=hg;exact{xs,ys,I.hasT q1,I.hasL q2,he.imp gJ gJ,λb' f=>by rintro z;rcases mV.mp z with z | z;exact(f.apart I q1) (hJ.mp z).symm;exact(f.apartL I q2) (hJ.mp z).symm}
section
variable{X:Cx}
def iZipU(K:tP)(ta:TA):TI:=fun O H R=>ta O H λvs H1=>∃a b,vs=[.ref a,.ref b]/\(∃xs,SqT K H1 a xs)/\(∃ys,SqL K H1 b ys)/\R (Itu K a b) H1
theorem HS{es:List Expr}{x1}{tp:Pos}{a b:Expr}{ta:TA}{p pos:Pos}(hg:Gl X "zip")(hm:X.mg "zip" = none)(ha:PA X [a,b] ta)(hs:starEach [a,b] X.env=[(false,eval a X.env),(false,eval b X.env)]:=by rfl)(hs2:starEach [b] X.env=[(false,eval b X.env)]:=by rfl) :
  PI X (.Tuple es x1 tp) (.Call (.Name "zip" p) [a,b] [] pos) (iZipU X.K ta):=by
 intro ae s O H R I h;refine Call_ (yH I hg hm boot_zip (PyProof.Rows.callWith_type1 #[39] (by rw[hs,hs2]) (by rw[hs2];rfl)));obtain⟨l1,l2,e,⟨xs,q1⟩,⟨ys,q2⟩,q⟩:=q1;subst e;cases r1 with
 | cons r rr=>
  cases rr with
  | cons r' rr=>
   cases rr;cases r;cases r';obtain⟨its1,_,p1,_⟩:=I1.tuple q1;obtain⟨its2,_,p2,_⟩:=I1.list q2;exact PM I1 (it0T p1) (it0L (Heap.IsList.push p2.isList _)) rfl rfl (JA _ _ _ l1) (srcL _ _ _ l2) (λg=>at0T g) (λg e=>{_,e,rfl,rfl}) srcJ_U q
end
section
open AutoSeq1 (wpAny_loadPart')
end
section
variable{prog:Program}{w:World}{A:Around}{E:Value->Shared->Prop}{s:Shared}
end
section
variable{X:Cx}
end
theorem for_zipT{K:tP}{a b:Addr}{xs ys:List V}{g:TG}{tb:TS}{D:Ends}{O:St}{H:Hp}(Pv:Nat->St->Hp->Prop)(le:xs.length=ys.length)(h0:Pv 0 O H)(hl:∀i O H,i<=xs.length->Pv i O H->SqT K H a xs/\SqT K H b ys)
  (hs:∀i x y p O H,xs[i]? = some x->ys[i]? = some y->H p=none->Pv i O H->g (.ref p) O (upd H p (.tup [x,y])) fun O2 H2=>tb { D with nx:=Pv (i+1),ct:=Pv (i+1),bk:=D.nx } O2 H2) (hd:∀O H,Pv xs.length O H->D.nx O H) :
  ∃W:Nat->Nat->St->Hp->Prop,(∃m,W 0 m O H)/\∀i m O H,W i m O H->
   ((Itz K a b).stop i H/\D.nx O H)∨((Itz K a b).go i H/\∃N:St->Hp->Prop,(∀O' H',N O' H'->∃m',m'<m/\W (i+1) m' O' H')/\∀x H',(Itz K a b).yld i H x H'->g x O H' fun O2 H2=>tb { D with nx:=N,ct:=N,bk:=D.nx } O2 H2):=by
 refine{λi m O H=>m=xs.length-i/\i<=xs.length/\Pv i O H,{xs.length,by simp,tF _,h0}, ?_};rintro i m O H ⟨rfl,hi,p⟩;obtain⟨q1,q2⟩:=hl i O H hi p;by_cases hlt:i<xs.length
 .refine .inr {{xs,ys,xs[i],ys[i]' ∎,q1,q2,by simp [hlt],by simp [le▸hlt]},Pv (i+1),fun O' H' p'=>{xs.length-(i+1),∎,rfl,hlt,p'},λv H' y=>?_};obtain⟨r,x,y,hr,rfl,rfl,hx,hy⟩:=y;exact hs i x y r O H (hx xs q1) (hy ys q2) hr p
 .have ei:i=xs.length:=∎
  subst ei;exact .inl {{xs,ys,q1,q2,.inl uP},hd O H p}
theorem ZM{K:tP}{a b:Addr}{xs ys:List V}{g:TG}{tb:TS}{D:Ends}{O:St}{H:Hp}(Pv:Nat->St->Hp->Prop)(le:xs.length=ys.length)(h0:Pv 0 O H)(hl:∀i O H,i<=xs.length->Pv i O H->SqT K H a xs/\SqL K H b ys)
  (hs:∀i x y p O H,xs[i]? = some x->ys[i]? = some y->H p=none->Pv i O H->g (.ref p) O (upd H p (.tup [x,y])) fun O2 H2=>tb { D with nx:=Pv (i+1),ct:=Pv (i+1),bk:=D.nx } O2 H2) (hd:∀O H,Pv xs.length O H->D.nx O H) :
  ∃W:Nat->Nat->St->Hp->Prop,(∃m,W 0 m O H)/\∀i m O H,W i m O H->
   ((Itu K a b).stop i H/\D.nx O H)∨((Itu K a b).go i H/\∃N:St->Hp->Prop,(∀O' H',N O' H'->∃m',m'<m/\W (i+1) m' O' H')/\∀x H',(Itu K a b).yld i H x H'->g x O H' fun O2 H2=>tb { D with nx:=N,ct:=N,bk:=D.nx } O2 H2):=by
 refine{λi m O H=>m=xs.length-i/\i<=xs.length/\Pv i O H,{xs.length,by simp,tF _,h0}, ?_};rintro i m O H ⟨rfl,hi,p⟩;obtain⟨q1,q2⟩:=hl i O H hi p;by_cases hlt:i<xs.length
 .refine .inr {{xs,ys,xs[i],ys[i]' ∎,q1,q2,by simp [hlt],by simp [le▸hlt]},Pv (i+1),fun O' H' p'=>{xs.length-(i+1),∎,rfl,hlt,p'},λv H' y=>?_};obtain⟨r,x,y,hr,rfl,rfl,hx,hy⟩:=y;exact hs i x y r O H (hx xs q1) (hy ys q2) hr p
 .have ei:i=xs.length:=∎
  subst ei;exact .inl {{xs,ys,q1,q2,.inl uP},hd O H p}
end L2
namespace LwD
open PySem PySem.Spec PyProof.Rows L2 Lw
section
variable{X:Cx}
end
section
variable{X:Cx}{ae:List #[13]}{O:L2.St}{H:Hp}{s:Shared}
theorem Inv.freeze(I:Inv X ae O H s)(e:H d=some (.dT aj)):∃o,Inv X ae O (upd H d (.frz o (.dT aj))) s:=by
 let ob:ObjOk X.prog X.w H s.heap d (.dT aj):=I.hok d _ e;obtain⟨z,lo,xs,rel,o,es,ep,ho,r⟩:=id ob;refine{o, ?_};let ne:∀{b:Addr} {u:HO},H b=some u->(∀k,u≠.dT k)->upd H d (.frz o (.dT aj)) b=some u:=fun {b u} q n=>by
  rw[jG (λy=>by rw[y,e]at q;cases q;exact n _ rfl)];exact q
 refine I.step (h':=s.heap) (g':=s.gens) (t':=s.toks) (d':=s.drawn) (ch:=[]) (λ_ y=>nomatch y) (λb u _ _ _ q _=>q) (λb u _ _ _ q _=>{u.slots,(q)}) (λb u _ _ q=>?_) (λb u _ q=>{u,(q)}) (λb xs q=>ne q λ_ y=>by cases y) (λb u v q=>ne q λ_ y=>by cases y)
  (λb ps q=>{#[],by rw[ne q λ_ y=>by cases y];simp}) (λm hm=>hm) ?_ I.bare
 .rw[jG (λy=>by rw[y,e]at q;cases q)];exact q
 .intro b u q;by_cases hb:b=d
  .subst hb;rw[jE]at q;cases q;exact{ho,ob.stay (λc v _ q=>q) (λc q=>ne q λ_ y=>by cases y) λc xs q=>ne q λ_ y=>by cases y}
  .rw[jG hb]at q;exact(I.hok b u q).stay (λc v _ q=>q) (λc q=>ne q λ_ y=>by cases y) λc xs q=>ne q λ_ y=>by cases y
end
section
variable{X:Cx}
def VU(te:TE):TE:=fun O H Q=>te O H λv H1=>∃d aj,v=.ref d/\H1 d=some (.dT aj)/\∀o,Q v (upd H1 d (.frz o (.dT aj)))
theorem xG(h:PE X e te):PE X e (VU te):=by
 intro ae s O H Q I hq;refine thn (h ae s O H _ I hq) λu s1 ⟨x,H1,I1,r1,q1⟩=>?_;obtain⟨d,aj,rfl,hd,k⟩:=q1;obtain⟨o,I2⟩:=Inv.freeze I1 hd;exact{.ref d,_,I2,r1,k o}
end
def Itk(d:Addr)(o:Obj)(aj:List #[57])(ys:List V):It:=
 {λi H=>H d=some (.frz o (.dT aj))/\i<ys.length,λi H x H'=>H'=H/\ys[i]? = some x,λi H=>H d=some (.frz o (.dT aj))/\i=ys.length}
theorem SR{P:Program}{w:World}{K:tP}{tg:Expr}(d it:Addr){o:Obj}{es:Array DictEntry}{ep:Nat}{aj:List #[57]}{ys:List V}(xo:o.ExactDict)(ho:o.data=.dict es ep)
  (hy:∀(i:Nat) (h:i<es.size),∃b,es[i].key=.ref b/\ys[i]? = some (.ref b)) (hl:ys.length=es.size):Turn P w K tg (Itk d o aj ys) [it] it (λi h=>h.IsKeyIter it d i es.size ep) where
 mem:=by simp
 obj:=λi h st b hb=>by
  let e:b=it:=by simpa using hb
  subst e;obtain⟨o,e,c,d⟩:=st;exact{o,e,λv z=>by rw[d]at z;cases z}
 keep:=λi h h' st k=>st.at λo e=>k it #[14] o e
 item:=by
  intro X hP hw hK hc i ae s O H E I hf st hg;subst hP hw hK;obtain⟨hd,hi⟩:=hg;let raw:Raw s.heap d es ep:={o,(I.hok d _ hd).1,xo,ho};obtain⟨b,eb,yb⟩:=hy i ∎;obtain⟨f0,f1,f2,f3,f4,f5⟩:=hf it #[14];refine JM st raw ∎ λh' st' sb=>?_;let I1:Inv X ae O H { s with heap:=h' } :=I.turned (t':=s.toks) (λb o hb e=>(sb.2 b hb).trans e) f0 f1 f3 f4 f5;obtain⟨oi,e,c,dd⟩:=id st';exact{_,rfl,FM (s:={ s with heap:=h' }) e c dd #[0] {.ref b,H,I1,by rw[eb];rfl,{rfl,(yb)},st',λb hb=>(hf b hb).1}}
 done:=by
  intro X hP hw hK hc i ae s O H E I hf st hg;subst hP hw hK;obtain⟨hd,hi⟩:=hg;let raw:Raw s.heap d es ep:={o,(I.hok d _ hd).1,xo,ho};obtain⟨f0,f1,f2,f3,f4,f5⟩:=hf it #[14];rw[hi,hl]at st;exact OZ (I.ok.hd hc) st raw λh' eb=>{rfl,I.turned (t':=s.toks) (λb o hb e=>eb b o hb e) f0 f1 f3 f4 f5}
 self:=λ_ _ _ _ _ st h=>wpAny_pyIter_keyiter st h
section
variable{X:Cx}
def iKeys(te:TE):TI:=fun O H R=>te O H λv H1=>∃d o aj,v=.ref d/\H1 d=some (.frz o (.dT aj))/\(∀p∈aj,∃ns:List Int,p.1=ik ns)/\∀ys,Keyed H1 ys aj->R (Itk d o aj ys) H1
theorem yW(hl:PE X l tl):PI X tg l (iKeys tl):=by
 intro ae s O H R I h;refine thn (hl ae s O H _ I h) λv s1 ⟨x,H1,I1,r1,q1⟩=>?_;obtain⟨d,o,aj,rfl,hd,hk,q⟩:=q1;cases r1;obtain⟨go,ob⟩:=I1.hok d _ hd;obtain⟨z,lo,ks,rel,o',es,ep,ho,xo,hdat,he,hn⟩:=(show ObjOk X.prog X.w H1 s1.heap d (.dT aj)from ob);rw[go]at ho;cases ho;let esz:es.size=aj.length:=by rw[size_of_entries he,<-Paired.length rel]
 let itup:∀(j:Nat) (h:j<es.size),∃(b:Addr) (ns:List Int) (v:V),es[j].key=.ref b/\H1 b=some (.tup #[16])/\aj[j]? = some (ik ns,v):=λj hj=>by
  let e1:=entry_at he j;rw[Array.getElem?_eq_getElem hj]at e1;cases e2:ks[j]? with
  | none=>rw[e2]at e1;cases e1
  | some x=>
   rw[e2]at e1;let e3:es[j]=entryOfKey _ x:=Option.some.inj e1;obtain⟨v,m1,m2⟩:=KTgetI rel e2;obtain⟨ns,n1⟩:=hk _ (gL m1);dsimp only at n1;rw[n1]at m1 m2;rw[xM]at m2;exact{x.2.1,ns,v,by rw[e3];rfl,m2,m1}
 let kref:∀(j:Nat) (h:j<es.size),∃b:Addr,es[j].key=.ref b:=λj hj=>let ⟨b,_,_,e,_⟩:=itup j hj;{b,(e)};refine DC lo {o,go,xo,(hdat)} ?_;refine{s1.heap.objs.size,[s1.heap.objs.size],_,_,H1,rfl,I1.kept (t':=s1.toks) λb o e=>gC _ e,SR (aj:=aj) d _ xo hdat (ys:=es.toList.map λe=>match e.key with | .ref b=>V.ref b | _=>V.non) ?_ #[14],{_,gU _ rfl,rfl,rfl},λb hb=>?_,q _ {by simp [esz],λi y p ey ep=>?_}}
 .intro i hi;obtain⟨b,e⟩:=kref i hi;refine{b,e, ?_};simp only[mB,Array.getElem?_toList,Array.getElem?_eq_getElem hi,Option.map_some,e]
 .have e:b=s1.heap.objs.size:=by simpa using hb
  rw[e];exact I1.fpOk uP (I1.hok.fresh uP)
 .have hi:i<es.size:=by
   let:=(uW.mp ey).1;simpa using this
  obtain⟨b,ns,v,e1,e2,e3⟩:=itup i hi;simp only[mB,Array.getElem?_toList,Array.getElem?_eq_getElem hi,Option.map_some,e1,Option.some.injEq]at ey;rw[e3]at ep;cases ep;exact{b,ns,ey.symm,e2,(rfl)}
end
theorem ZO{d:Addr}{o:Obj}{aj:List #[57]}{xs:List V}{g:TG}{tb:TS}{D:Ends}{O:L2.St}{H:Hp}(Pv:Nat->L2.St->Hp->Prop)(h0:Pv 0 O H)(hl:∀i O H,Pv i O H->H d=some (.frz o (.dT aj)))
  (hs:∀i x O H,xs[i]? = some x->Pv i O H->g x O H fun O2 H2=>tb { D with nx:=Pv (i+1),ct:=Pv (i+1),bk:=D.nx } O2 H2) (hd:∀O H,Pv xs.length O H->D.nx O H) :
  ∃W:Nat->Nat->L2.St->Hp->Prop,(∃m,W 0 m O H)/\∀i m O H,W i m O H->
   ((Itk d o aj xs).stop i H/\D.nx O H)∨((Itk d o aj xs).go i H/\∃N:L2.St->Hp->Prop,(∀O' H',N O' H'->∃m',m'<m/\W (i+1) m' O' H')/\∀x H',(Itk d o aj xs).yld i H x H'->g x O H' fun O2 H2=>tb { D with nx:=N,ct:=N,bk:=D.nx } O2 H2):=by
 refine{λi m O H=>m=xs.length-i/\i<=xs.length/\Pv i O H,{xs.length,by simp,tF _,h0}, ?_};rintro i m O H ⟨rfl,hi,p⟩;let q:=hl i O H p;by_cases hlt:i<xs.length
 .refine .inr {{q,(hlt)},Pv (i+1),fun O' H' p'=>{xs.length-(i+1),∎,rfl,hlt,p'},λx H' y=>?_};obtain⟨e,y⟩:=y;subst e;exact hs i x O _ y p
 .have ei:i=xs.length:=∎
  subst ei;exact .inl {{q,(rfl)},hd O H p}
theorem MB(l:Addr)(x:Value)(n:Nat)(od:Option Addr)(sl:Array (Option Value))(k:Nat)(hk:2<=k/\k<=4)(u:Tok) :
  Meets (Builtin.«tuple.__mul__» {[.ref l,.int k u],[]}) (λ_ R s=>s.heap.get? l=some { cls:=.type "tuple",dict:=od,data:=.seq #[x] n,slots:=sl }/\R (.ok (.ret (Value.ref s.heap.objs.size))) { s with heap:=s.heap.push { cls:=Value.type "tuple",data:=Data.seq (List.replicate k x).toArray } }):=
 .of_wp λprog w A R s h=>by
  obtain⟨hp,g,d,tk,os⟩:=s;obtain⟨hl,h⟩:=h;let:k=2∨k=3∨k=4:=∎
  rcases this with rfl | rfl | rfl<;>(wp_walk;exact{_,rfl,h})
theorem VR(l:Addr)(x:Value)(n:Nat)(od:Option Addr)(sl:Array (Option Value))(u:Tok) :
  Meets (Builtin.«tuple.__mul__» {[.ref l,.int 1 u],[]}) (λ_ R s=>s.heap.get? l=some { cls:=.type "tuple",dict:=od,data:=.seq #[x] n,slots:=sl }/\R (.ok (.ret (Value.ref l))) s):=
 .of_wp λprog w A R s h=>by
  obtain⟨hp,g,d,tk,os⟩:=s;obtain⟨hl,h⟩:=h
  wp_walk
  exact{_,rfl,h}
theorem tmul_r(a:Int)(t:Tok)(l:Addr)(x:Value)(n:Nat)(od:Option Addr)(sl:Array (Option Value)) :
  Meets (Builtin.«int.__rmul__» {[.int a t,.ref l],[]}) (λ_ R s=>s.heap.get? l=some { cls:=.type "tuple",dict:=od,data:=.seq #[x] n,slots:=sl }/\R (.ok (.ret Value.notImplemented)) s):=
 .of_wp λprog w A R s h=>by obtain⟨hp,g,d,tk,os⟩:=s;obtain⟨hl,h⟩:=h;wp_walk;exact{_,rfl,h}
theorem KA:fillsNumberSlot (.type "tuple") "mul" = pure false:=
 PySem.fillsNumberSlot_seq (id:="tuple.__mul__") (r:=some (.builtin "tuple.__rmul__")) F.slot_tuple_mul.lookup #[2] F.slot_tuple_rmul.lookup #[2]
theorem rep_tup:seqRepeat? (.type "tuple")=pure (some (.builtin "tuple.__mul__")):=by
 unfold seqRepeat?;rw[PySem.seqSlot_of (T:="tuple") (name:="__mul__") (id:="tuple.__mul__") F.slot_tuple_mul.lookup #[2],PySem.seqSlot_of (T:="tuple") (name:="__rmul__") (id:="tuple.__rmul__") F.slot_tuple_rmul.lookup #[2]]
 rfl
section
variable{X:Cx}
def rRepT:R2:=λx y H Q=>∃(l:Addr) (k:Nat) (v:V),x=.ref l/\y=.int k/\H l=some (.tup [v])/\1<=k/\k<=4/\∀p H',Same H H'->H' p=some (.tup (List.replicate k v))->Q (.ref p) H'
theorem op_repT:OpR X (binaryOp .Mult) rRepT:=by
 intro ae s O H x y v u Q I rx ry h;obtain⟨l,k,z,rfl,rfl,hH,h1,h2,q⟩:=h;cases rx;obtain⟨t,rfl⟩:=ry;obtain⟨zl,its,rv,⟨⟨cl,od,dt,sl⟩,ho,hc,n,hd⟩,nD⟩:=(show ObjOk X.prog X.w H s.heap l (.tup [z])from I.hok l _ hH)
 replace hc:cl=.type "tuple":=hc
 replace hd:dt=.seq its.toArray n:=hd
 obtain⟨iv,rfl,riv⟩:=vV rv;subst hc hd;refine wpAny_binaryOp_repeat_ref (T:="tuple") (U:="int") #[0] {_,ho,rfl} (λs'=>typeIs_int s' k t) KA F.fills_int_mul F.slot_int_rmul rep_tup F.slot_int_index.lookup
  (call_meets F.slot_int_rmul (typeIs_int s k t) F.entry_int_rmul (F.args_int_rmul_2 _ _) (tmul_r k t l iv n od sl) {ho,rfl,{_,ho,rfl}, ?_})
 by_cases k1:k=1
 .subst k1;exact call_meets F.slot_tuple_mul {_,ho,rfl} F.entry_tuple_mul (F.args_tuple_mul_2 _ _) (VR l iv n od sl t) {ho,{.ref l,H,I,rfl,q l H #[43] hH}}
 .refine call_meets F.slot_tuple_mul {_,ho,rfl} F.entry_tuple_mul (F.args_tuple_mul_2 _ _) (MB l iv n od sl k ∎ t) {ho, ?_};let nz:H s.heap.objs.size=none:=I.hok.fresh uP ;let rr:Vals (List.replicate k z) (List.replicate k iv):=by
   clear h1 h2 q k1;induction k with
   | zero=>exact .nil
   | succ k ih=>exact .cons riv ih
  exact{.ref s.heap.objs.size,_,I.laid (o:=.tup (List.replicate k z)) (t':=s.toks) (λb u e=>gC _ e) uP {by rw[gI];exact nQ h2 #[0],_,rr,{_,gU _ rfl,rfl,_,rfl},.of (gU _ rfl) rfl},rfl,q _ _ (jO _ nz) jE}
def CDivP(i j:Int):Prop:=0<j/\Builtin.divisionGoesByPylong i j=false
theorem uG:OpR X (binaryOp .FloorDiv) (rI CDivP λi j=>.int (i/j)):=opI λi j _ _ _ _ _ hc q=>by
 refine floordiv_int (by let:=hc.1;∎) ?_ (.inl hc.2);rw[Int.fdiv_eq_ediv_of_nonneg _ (Int.le_of_lt hc.1)];exact q
theorem LR{i j:Int}(h:CDivL i j):CDivP i j:={h.1,PyProof.noPylong_of_log2 (gZ (LwM.log2_lt #[0] h.2) #[0])}
theorem zH{i j:Int}{m:Nat}(hj:0<j)(hm:m<=13400)(hi:i.natAbs<2^m):CDivP i j:=by
 refine{hj, ?_};by_cases h9:j.natAbs.log2<9000
 .exact PyProof.noPylong_of_log2 h9
 .show(decide ((if j==0 then 0 else j.natAbs.log2/30+1)>300)&&decide ((if i==0 then 0 else i.natAbs.log2/30+1)>(if j==0 then 0 else j.natAbs.log2/30+1)+150))=false;rw[Bool.and_eq_false_iff]
  right
  refine mU ?_;let j0:(j==0)=false:=by
   rw[beq_eq_false_iff_ne]
   ∎
  rw[j0];simp only[Bool.false_eq_true,if_false];let:i.natAbs.log2<13440:=by
   by_cases z:i.natAbs=0
   .rw[z];decide +kernel
   .exact(Nat.log2_lt z).mpr (gZ hi (gO #[0] ∎))
  split<;>∎
end
end LwD
namespace LwD
open PySem PySem.W PySem.Spec PyProof.Rows
structure Strict(lt:Nat->Nat->Bool)(n:Nat):Prop where
 tr:∀a b c,lt a b=true->lt b c=true->lt a c=true
 as:∀a b,lt a b=true->lt b a=false
 tot:∀a b,a<n->b<n->a≠b->lt a b=false->lt b a=true
section
variable{lt:Nat->Nat->Bool}{n:Nat}
end
end LwD
namespace LwR
open PySem PySem.W PySem.Spec PyProof.Rows
section
variable{M:Model}{A:Around}{E:Value->Shared->Prop}{O:Type}
theorem kJ{α:Type}{m:StateT O Sem α}{Q Q':α->O->Shared->Prop}{st:O}(h:kasC M A E m Q st s)(hq:∀a st' s',Q a st' s'->Q' a st' s'):kasC M A E m Q' st s:=
 tM h (λr s' h'=>hq _ _ _ h') λ_ _ e=>e
theorem RE{β:Type}(f:Nat->β->StateT O Sem (ForInStep β))(I:List Nat->β->O->Shared->Prop)(Q:β->O->Shared->Prop)
  (hstep:∀x rest b st s,I (x::rest) b st s->kasC M A E (f x b) (λr st' s'=>match r with | .done b'=>Q b' st' s' | .yield b'=>I rest b' st' s') st s)
  (hend:∀b st s,I [] b st s->Q b st s):∀(l:List Nat) (b:β) (st:O) (s:Shared),I l b st s->kasC M A E (forIn l b f) Q st s
 | [],b,st,s,h=>kasC_nil (hend _ _ _ h)
 | x::rest,b,st,s,h=>by
  refine kasC_cons (kJ (hstep x rest b st s h) λr st' s' h'=>?_);cases r with
  | done b'=>exact h'
  | yield b'=>exact RE f I Q hstep hend rest b' st' s' h'
theorem kX{β:Type}{a b:Nat}{f:Nat->β->StateT O Sem (ForInStep β)}(I:Nat->β->O->Shared->Prop){Q:β->O->Shared->Prop}
  (hstep:∀i c st s,a<=i->i<b->I i c st s->kasC M A E (f i c) (λr st' s'=>match r with | .done c'=>Q c' st' s' | .yield c'=>I (i+1) c' st' s') st s)
  (hend:∀c st s,I (max a b) c st s->Q c st s) {c:β} {st:O}  (h:I a c st s):kasC M A E (forIn [a:b] c f) Q st s:=by
 refine kasC_range ?_;refine RE f (λl c st s=>∃i,a<=i/\i<=max a b/\l=List.range' i (max a b-i) 1/\I i c st s) Q ?_ ?_ _ c st s {a,tE _,∎,by congr 1;∎,h}
 .rintro x rest c st s ⟨i,hai,hib,hl,hI⟩;let hlt:i<max a b:=by
   rcases Nat.lt_or_ge i (max a b)with h' | h'
   .exact h'
   .rw[show max a b-i=0 by ∎]at hl;simp at hl
  obtain⟨n,hn⟩:∃n,max a b-i=n+1:={max a b-i-1,∎};rw[hn,List.range'_succ]at hl;obtain⟨rfl,rfl⟩:=List.cons.inj hl;refine kJ (hstep x c st s hai ∎ hI) λr st' s' h'=>?_;cases r with
  | done c'=>exact h'
  | yield c'=>exact{x+1,∎,∎,by congr 1;∎,h'}
 .rintro c st s ⟨i,hai,hib,hl,hI⟩;let:i=max a b:=by
   rcases Nat.lt_or_ge i (max a b)with h' | h'
   .obtain⟨n,hn⟩:∃n,max a b-i=n+1:={max a b-i-1,∎};rw[hn,List.range'_succ]at hl;simp at hl
   .lia
  subst this;exact hend _ _ _ hI
end
structure Cmp(prog:Program)(w:World)(A:Around)(Y:SortKind)(it:Array Keyed)(N:Nat)(lt:Nat->Nat->Bool)(Iv:Shared->Prop):Prop where
 ask:∀(i j:Nat) (s:Shared) (C:Bool->Shared->Prop),i<N->j<N->Iv s->(∀s',Iv s'->C (lt i j) s')->kas_cmp prog w A Y it i j C s
 o:LwD.Strict lt N
section
variable{prog:Program}{w:World}{A:Around}{E:Value->Shared->Prop}{Y:SortKind}{it:Array Keyed}{N:Nat}{lt:Nat->Nat->Bool}{Iv:Shared->Prop}{st:SortSt}{s:Shared}
theorem IV(c:Cmp prog w A Y it N lt Iv){i j:Nat}{Q:Option Bool->SortSt->Shared->Prop}(hi:i<N)(hj:j<N)(hk:kindOf st=Y)(hs:Iv s)(h:∀s',Iv s'->Q (some (lt i j)) st s'):kasC #[3] A E (lt' (kas_item it i) (kas_item it j)) Q st s:=by
 rw[lt'_eq];refine kasC_bind (kasC_get ?_);rw[hk];refine kasC_bind (kasC_lift (wpAny_attempt (tM (c.ask i j s (λb s'=>b=lt i j/\Iv s') hi hj hs λs' h'=>{rfl,(h')}) (λb s' hb=>?_) λ_ _ hF=>hF.elim)));obtain⟨rfl,h'⟩:=hb;exact kasC_pure (h s' h')
theorem OE{xs:Array Nat}{i:Nat}{Q:Keyed->SortSt->Shared->Prop}(hi:i<xs.size)(h:Q (kas_item it (xs.getD i 0)) st s):kasC #[3] A E (elem' (xs.map (kas_item it)) i) Q st s:=by
 let e:(xs.map (kas_item it))[i]? = some (kas_item it (xs.getD i 0)):=by
  let e:xs.getD i 0=xs[i]:=by simp [Array.getD,hi]
  rw[e];simp [hi]
 rw[elem'_eq,e];exact kasC_pure h
end
abbrev CM:Bool->Keyed->Array Keyed->Nat->Nat->Nat->StateT SortSt Sem (Option Nat):=sortPriv% PySem.Builtin.gallop
local macro_rules | `(tactic| trivial)=>do
 let n (s:String):=Lean.mkIdent (.str (.str (.str (.num (.str (.str (.str (.str (.str .anonymous "_private") "PySem") "Builtin") "List") "W1All") 0) "PySem") "Builtin") s)
 `(tactic| first | unfold $(n "gallop") | unfold $(n "mergeLo") | unfold $(n "mergeHi") | unfold $(n "mergeAt") | unfold $(n "setMinGallop"))
section
variable{prog:Program}{w:World}{A:Around}{E:Value->Shared->Prop}{Y:SortKind}{it:Array Keyed}{N:Nat}{lt:Nat->Nat->Bool}{Iv:Shared->Prop}{st:SortSt}{s:Shared}
def bey(lt:Nat->Nat->Bool)(left:Bool)(k:Nat)(xs:Array Nat)(base i:Nat):Bool:=if left=true then lt (xs.getD (base+i) 0) k else !lt k (xs.getD (base+i) 0)
theorem wA(c:Cmp prog w A Y it N lt Iv){k:Nat}{xs:Array Nat}{base n hint:Nat}{Q:Option Nat->SortSt->Shared->Prop}(hk:kindOf st=Y)(hkN:k<N)(hx:∀i,i<xs.size->xs.getD i 0<N)(hb:base+n<=xs.size)(hh:hint<n)(hs:Iv s)
  (mono:∀i j,i<=j->j<n->bey lt left k xs base j=true->bey lt left k xs base i=true)
  (h:∀r s',Iv s'->r<=n->(∀i,i<r->bey lt left k xs base i=true)->(∀i,r<=i->i<n->bey lt left k xs base i=false)->Q (some r) st s'):kasC #[3] A E (CM left (kas_item it k) (xs.map (kas_item it)) base n hint) Q st s:=by
 let ask:∀{i:Nat} {s:Shared} {Q:Option Bool->SortSt->Shared->Prop},i<n->Iv s->(∀s',Iv s'->Q (some (bey lt left k xs base i)) st s')->kasC #[3] A E (do
   let x<-elem' (xs.map (kas_item it)) (base+i)
   if left then lt' x (kas_item it k)else return(<-lt' (kas_item it k) x).map (!·)) Q st s:=by
  intro i s Q hi hs h;refine kasC_bind (OE (by omega) ?_);unfold bey at h;cases left with
  | true=>exact IV c (hx _ (by omega)) hkN hk hs h
  | false=>exact kasC_bind (IV c hkN (hx _ (by omega)) hk hs λs' h'=>kasC_pure (h s' h'))
 generalize bey lt left k xs base=P at mono h ask;let anti:∀i j,i<=j->j<n->P i=false->P j=false:=λi j h1 h2 h3=>by
  cases e:P j with
  | false=>rfl
  | true=>rw[mono i j h1 h2 e]at h3;cases h3
 unfold CM
 trivial
 dsimp only;refine kasC_bind (ask hh hs λs1 hs1=>?_);dsimp only;cases ph:P hint with
 | true=>
  rw[tO rfl];refine kasC_bind (kJ (kX (λx c st' s'=>st'=st/\Iv s'/\∃l o,c=(none,l,o)/\l<o/\x<o/\hint+l<n/\P (hint+l)=true) (Q:=λc st' s'=>st'=st/\Iv s'/\∃l o,c=(none,l,o)/\l<o/\hint+l<n/\P (hint+l)=true/\(hint+o<n->P (hint+o)=false)) ?a ?b {rfl,hs1,0,1,rfl,by omega,by omega,hh,ph}) ?c);case a=>
   rintro x c st' s' _ hxn ⟨rfl,hs',l,o,rfl,a1,a2,a3,a4⟩;dsimp only;by_cases e:o ≥ n-hint
   .rw[tO e];exact kasC_pure {rfl,hs',l,o,rfl,a1,a3,a4,λz=>by omega}
   .rw[tN e];refine kasC_bind (ask (by omega) hs' λs2 hs2=>?_);dsimp only;cases pe:P (hint+o)with
    | false=>exact kasC_pure {rfl,hs2,l,o,rfl,a1,a3,a4,λ_=>pe}
    | true=>exact kasC_pure {rfl,hs2,o,2*o+1,rfl,by omega,by omega,by omega,pe}
  case b=>
   rintro c st' s' ⟨rfl,hs',l,o,rfl,a1,a2,a3,a4⟩;exact{rfl,hs',l,o,rfl,a1,a3,a4,λz=>by omega}
  case c=>
   rintro c st' s' ⟨rfl,hs',l,o,rfl,a1,a3,a4,a5⟩;dsimp only;refine kasC_bind (kX (λx c st'' s'=>st''=st'/\Iv s'/\∃l r,c=(none,l,r)/\l<=r/\r<=n/\r-l<=n-x/\(∀i,i<l->P i=true)/\∀i,r<=i->i<n->P i=false) ?_ ?_ {rfl,hs',hint+l+1,hint+min o (n-hint),rfl,by omega,by omega,by omega,λi hi=>mono i (hint+l) (by omega) a3 a4,λi hi hn=>anti (hint+o) i (by omega) hn (a5 (by omega))})
   .rintro x c st'' s' _ hxn ⟨rfl,hs',l,r,rfl,a1,a2,a3,a4,a5⟩;dsimp only;by_cases e:l ≥ r
    .rw[tO e];exact kasC_pure (kasC_pure (h r s' hs' a2 (λi hi=>a4 i (by omega)) a5))
    .rw[tN e];refine kasC_bind (ask (by omega) hs' λs2 hs2=>?_);dsimp only;cases pe:P (l+(r-l)/2)with
     | true=>exact kasC_pure {rfl,hs2,_,_,rfl,by omega,a2,by omega,λi hi=>mono i _ (by omega) (by omega) pe,a5}
     | false=>exact kasC_pure {rfl,hs2,_,_,rfl,by omega,by omega,by omega,a4,λi hi hn=>anti _ i hi hn pe}
   .rintro c st'' s' ⟨rfl,hs',l,r,rfl,a1,a2,a3,a4,a5⟩;exact kasC_pure (h r s' hs' a2 (λi hi=>a4 i (by omega)) a5)
 | false=>
  rw[tN gY];refine kasC_bind (kJ (kX (λx c st' s'=>st'=st/\Iv s'/\∃l o,c=(none,l,o)/\l<o/\x<o/\l<=hint/\P (hint-l)=false) (Q:=λc st' s'=>st'=st/\Iv s'/\∃l o,c=(none,l,o)/\l<o/\l<=hint/\P (hint-l)=false/\(o<=hint->P (hint-o)=true)) ?a ?b {rfl,hs1,0,1,rfl,by omega,by omega,tF _,ph}) ?c);case a=>
   rintro x c st' s' _ hxn ⟨rfl,hs',l,o,rfl,a1,a2,a3,a4⟩;dsimp only;by_cases e:o ≥ hint+1
   .rw[tO e];exact kasC_pure {rfl,hs',l,o,rfl,a1,a3,a4,λz=>by omega}
   .rw[tN e];refine kasC_bind (ask (by omega) hs' λs2 hs2=>?_);dsimp only;cases pe:P (hint-o)with
    | true=>exact kasC_pure {rfl,hs2,l,o,rfl,a1,a3,a4,λ_=>pe}
    | false=>exact kasC_pure {rfl,hs2,o,2*o+1,rfl,by omega,by omega,by omega,pe}
  case b=>
   rintro c st' s' ⟨rfl,hs',l,o,rfl,a1,a2,a3,a4⟩;exact{rfl,hs',l,o,rfl,a1,a3,a4,λz=>by omega}
  case c=>
   rintro c st' s' ⟨rfl,hs',l,o,rfl,a1,a3,a4,a5⟩;dsimp only;refine kasC_bind (kX (λx c st'' s'=>st''=st'/\Iv s'/\∃l r,c=(none,l,r)/\l<=r/\r<=n/\r-l<=n-x/\(∀i,i<l->P i=true)/\∀i,r<=i->i<n->P i=false) ?_ ?_ {rfl,hs',hint+1-min o (hint+1),hint-l,rfl,by omega,by omega,by omega,λi hi=>mono i (hint-o) (by omega) (by omega) (a5 (by omega)),λi hi hn=>anti _ i hi hn a4})
   .rintro x c st'' s' _ hxn ⟨rfl,hs',l,r,rfl,a1,a2,a3,a4,a5⟩;dsimp only;by_cases e:l ≥ r
    .rw[tO e];exact kasC_pure (kasC_pure (h r s' hs' a2 (λi hi=>a4 i (by omega)) a5))
    .rw[tN e];refine kasC_bind (ask (by omega) hs' λs2 hs2=>?_);dsimp only;cases pe:P (l+(r-l)/2)with
     | true=>exact kasC_pure {rfl,hs2,_,_,rfl,by omega,a2,by omega,λi hi=>mono i _ (by omega) (by omega) pe,a5}
     | false=>exact kasC_pure {rfl,hs2,_,_,rfl,by omega,by omega,by omega,a4,λi hi hn=>anti _ i hi hn pe}
   .rintro c st'' s' ⟨rfl,hs',l,r,rfl,a1,a2,a3,a4,a5⟩;exact kasC_pure (h r s' hs' a2 (λi hi=>a4 i (by omega)) a5)
end
abbrev qI(st:SortSt)(g:Nat):SortSt:=SortSt.mk' (kindOf st) (arrOf st) (pendingOf st) g (failedOf st)
abbrev EQ:Nat->StateT SortSt Sem Unit:=sortPriv% PySem.Builtin.setMinGallop
theorem BO{M:Model}{A:Around}{E:Value->Shared->Prop}{g:Nat}{st:SortSt}{s:Shared}{Q:Unit->SortSt->Shared->Prop}(h:Q () (qI st g) s):kasC M A E (EQ g) Q st s:=kasC_modify h
abbrev KH:Array Keyed->Array Keyed->StateT SortSt Sem #[77]:=sortPriv% PySem.Builtin.mergeLo
abbrev KJ:Array Keyed->Array Keyed->StateT SortSt Sem #[77]:=sortPriv% PySem.Builtin.mergeHi
section
variable{prog:Program}{w:World}{A:Around}{E:Value->Shared->Prop}{Y:SortKind}{it:Array Keyed}{N:Nat}{lt:Nat->Nat->Bool}{Iv:Shared->Prop}{st:SortSt}{s:Shared}
def kA(it:Array Keyed)(xs:List Nat):Array Keyed:=(xs.map (kas_item it)).toArray
theorem qT(xs:List Nat):(kA it xs).size=xs.length:=by simp [kA]
theorem wP(xs:List Nat):kA it xs=xs.toArray.map (kas_item it):=by simp [kA]
theorem zV(xs ys:List Nat):kA it xs++kA it ys=kA it (xs++ys):=by simp [kA]
theorem RG(xs:List Nat)(i:Nat):(kA it xs).push (kas_item it i)=kA it (xs++[i]):=by simp [kA]
theorem zU(xs:List Nat)(i j:Nat):(kA it xs).extract i j=kA it ((xs.drop i).take (j-i)):=by
 apply Array.toList_inj.mp;simp [kA,List.map_drop,nN]
theorem NJ(xs:List Nat):(kA it xs).reverse=kA it xs.reverse:=by
 apply Array.toList_inj.mp;simp [kA]
theorem vA{xs:List Nat}{i:Nat}{Q:Keyed->SortSt->Shared->Prop}(hi:i<xs.length)(h:Q (kas_item it (xs.getD i 0)) st s):kasC #[3] A E (elem' (kA it xs) i) Q st s:=by
 rw[wP];refine OE (by simpa using hi) ?_;let e:xs.toArray.getD i 0=xs.getD i 0:=by simp [Array.getD_eq_getD_getElem?,uT]
 rw[e];exact h
theorem RF(xs:List Nat)(i:Nat):(kA it xs).extract i (kA it xs).size=kA it (xs.drop i):=by
 rw[zU,qT]
 congr 1
 exact gD (by rw[List.length_drop];∎)
end
abbrev Rl(lt:Nat->Nat->Bool)(a b:Nat):Prop:=lt a b=true
structure MG(N:Nat)(lt:Nat->Nat->Bool)(xs ys:List Nat):Prop where
 o:LwD.Strict lt N
 nd:(xs++ys).Nodup
 bd:∀z∈xs++ys,z<N
 px:xs.Pairwise (Rl lt)
 py:ys.Pairwise (Rl lt)
theorem vJ{xs:List Nat}{i:Nat}(h:i<xs.length):xs.getD i 0∈xs:=by
 let e:xs.getD i 0=xs[i]:=by simp [uT,h]
 rw[e];exact mO h
theorem qO{lt:Nat->Nat->Bool}{xs:List Nat}(p:xs.Pairwise (Rl lt)){i j:Nat}(h:i<j)(hj:j<xs.length):lt (xs.getD i 0) (xs.getD j 0)=true:=by
 let e:∀k,k<xs.length->xs.getD k 0=xs[k]! :=λk hk=>by simp [uT,hk]
 let e1:xs.getD i 0=xs[i]' ∎:=by simp [uT,show i<xs.length by ∎]
 let e2:xs.getD j 0=xs[j]:=by simp [uT,hj]
 rw[e1,e2];exact List.pairwise_iff_getElem.mp p i j ∎ hj h
theorem UN{xs:List Nat}{i:Nat}(h:i<xs.length):xs.drop i=xs.getD i 0::xs.drop (i+1):=by
 let e:xs.getD i 0=xs[i]:=by simp [uT,h]
 rw[e];exact List.drop_eq_getElem_cons h
theorem kS{xs:List Nat}{i z:Nat}(h:z∈xs.drop i):∃j,i<=j/\j<xs.length/\z=xs.getD j 0:=by
 obtain⟨k,hk,e⟩:=List.mem_iff_getElem.mp h;rw[List.length_drop]at hk;refine{i+k,∎,∎, ?_};rw[<-e,List.getElem_drop];simp [uT,show i+k<xs.length by ∎]
section
variable{N:Nat}{lt:Nat->Nat->Bool}{xs ys:List Nat}
theorem MG.xN(g:MG N lt xs ys){i:Nat}(h:i<xs.length):xs.getD i 0<N:=g.bd _ (List.mem_append_left _ (vJ h))
theorem MG.yN(g:MG N lt xs ys){i:Nat}(h:i<ys.length):ys.getD i 0<N:=g.bd _ (gH _ (vJ h))
theorem MG.ne(g:MG N lt xs ys){i j:Nat}(hi:i<xs.length)(hj:j<ys.length):xs.getD i 0≠ys.getD j 0:=(mH.mp g.nd).2.2 _ (vJ hi) _ (vJ hj)
theorem MG.ab(g:MG N lt xs ys){i j:Nat}(hi:i<xs.length)(hj:j<ys.length)(h:lt (ys.getD j 0) (xs.getD i 0)=false):lt (xs.getD i 0) (ys.getD j 0)=true:=g.o.tot _ _ (g.yN hj) (g.xN hi) (λz=>g.ne hi hj z.symm) h
structure MI(lt:Nat->Nat->Bool)(xs ys zs:List Nat)(ia ib:Nat):Prop where
 pm:(zs++xs.drop ia++ys.drop ib).Perm (xs++ys)
 ra:(zs++xs.drop ia).Pairwise (Rl lt)
 rb:(zs++ys.drop ib).Pairwise (Rl lt)
theorem MI.pushA(g:MG N lt xs ys){zs:List Nat}{ia ib:Nat}(m:MI lt xs ys zs ia ib)(k:Nat)(hb:ib<ys.length)(h:∀i,i<k->lt (xs.getD (ia+i) 0) (ys.getD ib 0)=true):MI lt xs ys (zs++(xs.drop ia).take k) (ia+k) ib:=by
 let e:xs.drop ia=(xs.drop ia).take k++xs.drop (ia+k):=by rw[<-List.drop_drop,List.take_append_drop]
 let ra:=m.ra;let pm:=m.pm;rw[e,<-List.append_assoc]at ra pm;refine{pm,ra, ?_};rw[List.append_assoc,List.pairwise_append];let rb:=List.pairwise_append.mp m.rb;let ra':=List.pairwise_append.mp (List.pairwise_append.mp ra).1;let lo:∀a∈(xs.drop ia).take k,∀b∈ys.drop ib,lt a b=true:=λa ha b hb'=>by
  obtain⟨q,hq,e⟩:=List.mem_iff_getElem.mp ha;rw[mJ,List.length_drop]at hq;let ea:a=xs.getD (ia+q) 0:=by
   rw[<-e,List.getElem_take,List.getElem_drop];simp [uT,show ia+q<xs.length by ∎]
  let h1:=h q ∎;rw[<-ea]at h1;obtain⟨j,j1,j2,rfl⟩:=kS hb';by_cases z:ib=j
  .rw[<-z];exact h1
  .exact g.o.tr _ _ _ h1 (qO g.py ∎ j2)
 refine{ra'.1,List.pairwise_append.mpr {ra'.2.1,rb.2.1,(lo)},λa ha b hb=>?_};rcases mV.mp hb with hb | hb
 .exact ra'.2.2 a ha b hb
 .exact rb.2.2 a ha b hb
theorem MI.pushB(g:MG N lt xs ys){zs:List Nat}{ia ib:Nat}(m:MI lt xs ys zs ia ib)(k:Nat)(ha:ia<xs.length)(h:∀i,i<k->lt (ys.getD (ib+i) 0) (xs.getD ia 0)=true):MI lt xs ys (zs++(ys.drop ib).take k) ia (ib+k):=by
 let e:ys.drop ib=(ys.drop ib).take k++ys.drop (ib+k):=by rw[<-List.drop_drop,List.take_append_drop]
 let rb:=m.rb;rw[e,<-List.append_assoc]at rb;refine{?_, ?_,rb}
 .refine List.Perm.trans ?_ m.pm;rw[List.append_assoc,List.append_assoc,List.append_assoc];refine List.Perm.append_left _ ?_
  conv=>rhs;rw[e]
  rw[<-List.append_assoc,<-List.append_assoc];exact List.Perm.append_right _ List.perm_append_comm
 .rw[List.append_assoc,List.pairwise_append];let ra:=List.pairwise_append.mp m.ra;let rb':=List.pairwise_append.mp (List.pairwise_append.mp rb).1;let lo:∀b∈(ys.drop ib).take k,∀a∈xs.drop ia,lt b a=true:=λb hb a ha'=>by
   obtain⟨q,hq,e⟩:=List.mem_iff_getElem.mp hb;rw[mJ,List.length_drop]at hq;let eb:b=ys.getD (ib+q) 0:=by
    rw[<-e,List.getElem_take,List.getElem_drop];simp [uT,show ib+q<ys.length by ∎]
   let h1:=h q ∎;rw[<-eb]at h1;obtain⟨j,j1,j2,rfl⟩:=kS ha';by_cases z:ia=j
   .rw[<-z];exact h1
   .exact g.o.tr _ _ _ h1 (qO g.px ∎ j2)
  refine{rb'.1,List.pairwise_append.mpr {rb'.2.1,ra.2.1,(lo)},λa ha b hb=>?_};rcases mV.mp hb with hb | hb
  .exact rb'.2.2 a ha b hb
  .exact ra.2.2 a ha b hb
theorem EW{xs:List Nat}{i:Nat}(h:i<xs.length):(xs.drop i).take 1=[xs.getD i 0]:=by rw[UN h];rfl
theorem MI.a1(g:MG N lt xs ys){zs:List Nat}{ia ib:Nat}(m:MI lt xs ys zs ia ib)(ha:ia<xs.length)(hb:ib<ys.length)(h:lt (xs.getD ia 0) (ys.getD ib 0)=true):MI lt xs ys (zs++[xs.getD ia 0]) (ia+1) ib:=by
 rw[<-EW ha];exact m.pushA g 1 hb λi hi=>by rw[show ia+i=ia by ∎];exact h
theorem MI.b1(g:MG N lt xs ys){zs:List Nat}{ia ib:Nat}(m:MI lt xs ys zs ia ib)(ha:ia<xs.length)(hb:ib<ys.length)(h:lt (ys.getD ib 0) (xs.getD ia 0)=true):MI lt xs ys (zs++[ys.getD ib 0]) ia (ib+1):=by
 rw[<-EW hb];exact m.pushB g 1 ha λi hi=>by rw[show ib+i=ib by ∎];exact h
structure MF(lt:Nat->Nat->Bool)(xs ys zs:List Nat):Prop where
 pm:zs.Perm (xs++ys)
 pw:zs.Pairwise (Rl lt)
theorem MI.doneB{zs:List Nat}{ia ib:Nat}(m:MI lt xs ys zs ia ib)(h:ys.length<=ib):MF lt xs ys (zs++xs.drop ia++ys.drop ib):=by
 refine{m.pm, ?_};rw[List.drop_eq_nil_of_le h,List.append_nil];exact m.ra
theorem MI.lastA{zs:List Nat}{ia ib:Nat}(m:MI lt xs ys zs ia ib)(h:ia+1=xs.length)(l:∀j,j<ys.length->lt (ys.getD j 0) (xs.getD (xs.length-1) 0)=true):MF lt xs ys (zs++ys.drop ib++xs.drop ia):=by
 refine{?_, ?_}
 .refine List.Perm.trans ?_ m.pm;rw[List.append_assoc,List.append_assoc];exact List.Perm.append_left _ List.perm_append_comm
 .rw[List.pairwise_append];refine{m.rb,(List.pairwise_append.mp m.ra).2.1,λa ha b hb=>?_};obtain⟨j,j1,j2,rfl⟩:=kS hb;rcases mV.mp ha with ha | ha
  .exact(List.pairwise_append.mp m.ra).2.2 a ha _ hb
  .obtain⟨i,i1,i2,rfl⟩:=kS ha;rw[show j=xs.length-1 by ∎];exact l i i2
end
local macro_rules | `(tactic| trivial)=>do
 let n (s:String):=Lean.mkIdent (.str (.str (.str (.num (.str (.str (.str (.str (.str .anonymous "_private") "PySem") "Builtin") "List") "W1All") 0) "PySem") "Builtin") s)
 `(tactic| first | unfold $(n "gallop") | unfold $(n "mergeLo") | unfold $(n "mergeHi") | unfold $(n "mergeAt") | unfold $(n "setMinGallop"))
section
variable{prog:Program}{w:World}{A:Around}{E:Value->Shared->Prop}{Y:SortKind}{it:Array Keyed}{N:Nat}{lt:Nat->Nat->Bool}{Iv:Shared->Prop}{st:SortSt}{s:Shared}{xs ys:List Nat}
theorem CI(zs:List Nat)(i j:Nat):kA it zs++(kA it xs).extract i (kA it xs).size++(kA it ys).extract j (kA it ys).size=kA it (zs++xs.drop i++ys.drop j):=by rw[RF,RF,zV,zV]
theorem bey_f(g:MG N lt xs ys){ia:Nat}{key:Nat}(hk:key<N)(i j:Nat)(hij:i<=j)(hj:ia+j<xs.length)(h:bey lt false key xs.toArray ia j=true):bey lt false key xs.toArray ia i=true:=by
 let e:∀k,xs.toArray.getD k 0=xs.getD k 0:=λk=>by simp [Array.getD_eq_getD_getElem?,uT]
 let h1:lt key (xs.getD (ia+j) 0)=false:=by
  let h:(!lt key (xs.toArray.getD (ia+j) 0))=true:=h;rw[e]at h;simpa using h
 show(!lt key (xs.toArray.getD (ia+i) 0))=true;rw[e];cases q:lt key (xs.getD (ia+i) 0)with
 | false=>rfl
 | true=>
  by_cases z:i=j
  .rw[z,h1]at q;cases q
  .rw[g.o.tr _ _ _ q (qO g.px ∎ hj)]at h1;cases h1
theorem bey_t(g:MG N lt xs ys){ib:Nat}{key:Nat}(i j:Nat)(hij:i<=j)(hj:ib+j<ys.length)(h:bey lt true key ys.toArray ib j=true):bey lt true key ys.toArray ib i=true:=by
 let e:∀k,ys.toArray.getD k 0=ys.getD k 0:=λk=>by simp [Array.getD_eq_getD_getElem?,uT]
 let h1:lt (ys.getD (ib+j) 0) key=true:=by
  let h:lt (ys.toArray.getD (ib+j) 0) key=true:=h
  rwa [e]at h
 show lt (ys.toArray.getD (ib+i) 0) key=true;rw[e];by_cases z:i=j
 .rw[z];exact h1
 .exact g.o.tr _ _ _ (qO g.py ∎ hj) h1
theorem OD(c:Cmp prog w A Y it N lt Iv)(g:MG N lt xs ys){j ia n hint:Nat}{Q:Option Nat->SortSt->Shared->Prop}(hk:kindOf st=Y)(hj:j<ys.length)(hn:ia+n<=xs.length)(hh:hint<n)(hs:Iv s)
  (h:∀r s',Iv s'->r<=n->(∀i,i<r->lt (xs.getD (ia+i) 0) (ys.getD j 0)=true)->(∀i,r<=i->i<n->lt (ys.getD j 0) (xs.getD (ia+i) 0)=true)->Q (some r) st s'):kasC #[3] A E (CM false (kas_item it (ys.getD j 0)) (kA it xs) ia n hint) Q st s:=by
 let e:∀k,xs.toArray.getD k 0=xs.getD k 0:=λk=>by simp [Array.getD_eq_getD_getElem?,uT]
 rw[wP];refine wA c hk (g.yN hj) (λi hi=>by rw[e];exact g.xN (by simpa using hi)) (by simpa using hn) hh hs (λi i' h1 h2 h3=>bey_f g (g.yN hj) i i' h1 ∎ h3) λr s' hs' hr h1 h2=>h r s' hs' hr (λi hi=>?_) λi hi hi'=>?_
 .have q:(!lt (ys.getD j 0) (xs.toArray.getD (ia+i) 0))=true:=h1 i hi;rw[e]at q;exact g.ab ∎ hj (by simpa using q)
 .have q:(!lt (ys.getD j 0) (xs.toArray.getD (ia+i) 0))=false:=h2 i hi hi';rw[e]at q;simpa using q
theorem OC(c:Cmp prog w A Y it N lt Iv)(g:MG N lt xs ys){j ib n hint:Nat}{Q:Option Nat->SortSt->Shared->Prop}(hk:kindOf st=Y)(hj:j<xs.length)(hn:ib+n<=ys.length)(hh:hint<n)(hs:Iv s)
  (h:∀r s',Iv s'->r<=n->(∀i,i<r->lt (ys.getD (ib+i) 0) (xs.getD j 0)=true)->(∀i,r<=i->i<n->lt (xs.getD j 0) (ys.getD (ib+i) 0)=true)->Q (some r) st s'):kasC #[3] A E (CM true (kas_item it (xs.getD j 0)) (kA it ys) ib n hint) Q st s:=by
 let e:∀k,ys.toArray.getD k 0=ys.getD k 0:=λk=>by simp [Array.getD_eq_getD_getElem?,uT]
 rw[wP];refine wA c hk (g.xN hj) (λi hi=>by rw[e];exact g.yN (by simpa using hi)) (by simpa using hn) hh hs (λi i' h1 h2 h3=>bey_t g i i' h1 ∎ h3) λr s' hs' hr h1 h2=>h r s' hs' hr (λi hi=>?_) λi hi hi'=>?_
 .have q:lt (ys.toArray.getD (ib+i) 0) (xs.getD j 0)=true:=h1 i hi
  rwa [e]at q
 .have q:lt (ys.toArray.getD (ib+i) 0) (xs.getD j 0)=false:=h2 i hi hi';rw[e]at q;exact g.ab hj ∎ q
def MFin(it:Array Keyed)(lt:Nat->Nat->Bool)(xs ys:List Nat)(Iv:Shared->Prop)(st:SortSt)(c:Option #[77])(st':SortSt)(s':Shared):Prop:=∃zs g',c=some (kA it zs)/\st'=qI st g'/\Iv s'/\MF lt xs ys zs
theorem MFin.doneB{zs:List Nat}{ia ib g':Nat}(hs':Iv s')(m:MI lt xs ys zs ia ib)(e:ib=ys.length):MFin it lt xs ys Iv st (some (kA it zs++(kA it xs).extract ia xs.length++(kA it ys).extract ib ys.length)) (qI st g') s':=by
 let q:=CI (it:=it) (xs:=xs) (ys:=ys) zs ia ib;rw[qT,qT]at q;exact{_,g',by rw[q],rfl,hs',m.doneB (Nat.le_of_eq e.symm)}
theorem MFin.lastA{zs:List Nat}{ia ib g':Nat}(hs':Iv s')(m:MI lt xs ys zs ia ib)(e:ia+1=xs.length)(l:∀j,j<ys.length->lt (ys.getD j 0) (xs.getD (xs.length-1) 0)=true):MFin it lt xs ys Iv st (some (kA it zs++(kA it ys).extract ib ys.length++(kA it xs).extract ia xs.length)) (qI st g') s':=by
 let q:=CI (it:=it) (xs:=ys) (ys:=xs) zs ib ia;rw[qT,qT]at q;exact{_,g',by rw[q],rfl,hs',m.lastA e l}
inductive LoI{τ:Type}(it:Array Keyed)(lt:Nat->Nat->Bool)(xs ys:List Nat)(Iv:Shared->Prop)(st:SortSt)(n:Nat):(Option #[77]×Array Keyed×Nat×Nat×τ)->SortSt->Shared->Prop
 | mk {zs:List Nat} {ia ib g':Nat} {r:τ} {s':Shared} (hs:Iv s') (m:MI lt xs ys zs ia ib) (a:ia+1<xs.length) (b:ib<ys.length) (n1:n<=ia+ib):LoI it lt xs ys Iv st n (none,kA it zs,ia,ib,r) (qI st g') s'
theorem IU{α:Type}{x:StateT SortSt Sem α}{Q:α->SortSt->Shared->Prop}{β γ:Type}(C:β->γ->Prop)(F:β->γ->StateT SortSt Sem α)(h1:(∀a b,C a b->kasC #[3] A E (F a b) Q st s)->kasC #[3] A E x Q st s)(h2:∀a b,C a b->kasC #[3] A E (F a b) Q st s):kasC #[3] A E x Q st s:=h1 h2
theorem JX{α:Type}{x:StateT SortSt Sem α}{Q:α->SortSt->Shared->Prop}{β:Type}(C:β->Prop)(F:β->StateT SortSt Sem α)(h1:(∀a,C a->kasC #[3] A E (F a) Q st s)->kasC #[3] A E x Q st s)(h2:∀a,C a->kasC #[3] A E (F a) Q st s):kasC #[3] A E x Q st s:=h1 h2
theorem PZ{α:Type}{x:StateT SortSt Sem α}{Q:α->SortSt->Shared->Prop}{β:Type}(F:β->StateT SortSt Sem α)(h1:(∀a,kasC #[3] A E (F a) Q st s)->kasC #[3] A E x Q st s)(h2:∀a,kasC #[3] A E (F a) Q st s):kasC #[3] A E x Q st s:=h1 h2
theorem kW{α:Type}{c:Prop}{i:Decidable c}{a b:StateT SortSt Sem α}{Q:α->SortSt->Shared->Prop}(h:c)(k:kasC #[3] A E a Q st s):kasC #[3] A E (@ite _ c i a b) Q st s:=by
 rw[tO h];exact k
theorem kO{α:Type}{c:Prop}{i:Decidable c}{a b:StateT SortSt Sem α}{Q:α->SortSt->Shared->Prop}(h:¬c)(k:kasC #[3] A E b Q st s):kasC #[3] A E (@ite _ c i a b) Q st s:=by
 rw[tN h];exact k
theorem ts_lo(c:Cmp prog w A Y it N lt Iv)(g:MG N lt xs ys){Q:Array Keyed->SortSt->Shared->Prop}(hk:kindOf st=Y)(x0:0<xs.length)(y0:0<ys.length)(h0:lt (ys.getD 0 0) (xs.getD 0 0)=true)(hl:∀j,j<ys.length->lt (ys.getD j 0) (xs.getD (xs.length-1) 0)=true)(hs:Iv s)
  (h:∀zs g' s',Iv s'->MF lt xs ys zs->Q (kA it zs) (qI st g') s'):kasC #[3] A E (KH (kA it xs) (kA it ys)) Q st s:=by
 let fin:∀{zs:List Nat} {ia ib g':Nat} {s':Shared},Iv s'->MI lt xs ys zs ia ib->ib=ys.length->Q (kA it zs++(kA it xs).extract ia (kA it xs).size++(kA it ys).extract ib (kA it ys).size) (qI st g') s':=λhs' m e=>by
  rw[CI];exact h _ _ _ hs' (m.doneB (Nat.le_of_eq e.symm))
 let fla:∀{zs:List Nat} {ia ib g':Nat} {s':Shared},Iv s'->MI lt xs ys zs ia ib->ia+1=xs.length->Q (kA it zs++(kA it ys).extract ib (kA it ys).size++(kA it xs).extract ia (kA it xs).size) (qI st g') s':=λhs' m e=>by
  rw[CI];exact h _ _ _ hs' (m.lastA e hl)
 let m0:MI lt xs ys [] 0 0:={List.Perm.refl _,g.px,g.py};let m1:MI lt xs ys [ys.getD 0 0] 0 1:=m0.b1 g x0 y0 h0;let es:∀zs:List Nat,∀i,(kA it zs).push (kas_item it i)=kA it (zs++[i]):=RG;let e1:(#[kas_item it (ys.getD 0 0)]:Array Keyed)=kA it [ys.getD 0 0]:=rfl;unfold KH
 trivial
 refine kasC_bind (kasC_lift (wpAny_rule ?_));dsimp only;rw[qT,qT];generalize hb:(λ(x:Nat) (r:Option #[77]×Array Keyed×Nat×Nat×Nat)=>(_:StateT SortSt Sem (ForInStep (Option #[77]×Array Keyed×Nat×Nat×Nat))))=f;refine kasC_bind (vA y0 ?_);rw[e1];by_cases c1:1=ys.length
 .refine kW (beq_iff_eq.mpr c1) ?_;let:=fin (g':=gallopOf st) hs m1 c1;rw[qT,qT]at this;exact kasC_pure this
 .refine kO (λz=>c1 #[35]) ?_;by_cases c2:0+1=xs.length
  .refine kW (beq_iff_eq.mpr c2) ?_;let:=fla (g':=gallopOf st) hs m1 c2;rw[qT,qT]at this;exact kasC_pure this
  .refine kO (λz=>c2 #[35]) ?_;refine kasC_bind (kasC_get ?_);refine kasC_bind (kJ (kX (λx c st' s'=>LoI it lt xs ys Iv st (x+1) c st' s')
    (Q:=λc st' s'=>MFin it lt xs ys Iv st c.1 st' s') ?step ?fin (.mk hs m1 ∎ ∎ ∎)) ?post)
   case fin=>
    rintro c st' s' ⟨hs',m,a1,b1,n1⟩
    ∎
   case post=>
    rintro c st' s' ⟨zs,g',e,rfl,hs',f⟩;obtain⟨c1,c2⟩:=c;let e:c1=some (kA it zs):=e;subst e;exact kasC_pure (h zs g' s' hs' f)
   case step=>
    rintro x c st' s' _ hx ⟨hs',m,a1,b1,n1⟩;rename_i zs ia ib g' mg;subst hb;dsimp only;generalize hb2:(λ(x:Nat) (r:Option #[77]×Array Keyed×Nat×Nat×Nat×Nat)=>(_:StateT SortSt Sem (ForInStep (Option #[77]×Array Keyed×Nat×Nat×Nat×Nat))))=f2;generalize hb3:(λ(x:Nat) (r:Option #[77]×Array Keyed×Nat×Nat×Nat×Nat×Nat)=>(_:StateT SortSt Sem (ForInStep (Option #[77]×Array Keyed×Nat×Nat×Nat×Nat×Nat))))=f3;refine kasC_bind (kJ (kX (λx' c st' s'=>LoI it lt xs ys Iv st (x+1+x') c st' s')
     (Q:=λc st' s'=>MFin it lt xs ys Iv st c.1 st' s'∨LoI it lt xs ys Iv st (x+2) c st' s') ?istep ?ifin (.mk hs' m a1 b1 n1)) ?ipost)
    case ifin=>
     rintro c st' s' ⟨hs',m,a1,b1,n1⟩
     ∎
    case istep=>
     clear hs' m a1 b1 n1;rintro x' c st' s' _ hx' ⟨hs',m,a1,b1,n1⟩;rename_i zs ia ib g' r;obtain⟨ac,bc⟩:=r;subst hb2;dsimp only;refine kasC_bind (vA b1 (kasC_bind (vA ∎ ?_)));refine kasC_bind (IV c (g.yN b1) (g.xN ∎) hk hs' λs2 hs2=>?_);dsimp only;cases q:lt (ys.getD ib 0) (xs.getD ia 0)with
     | true=>
      let m2:=m.b1 g ∎ b1 q;refine kW rfl ?_;refine kasC_bind (vA b1 ?_);rw[es];by_cases e:ib+1=ys.length
      .refine kW (beq_iff_eq.mpr e) ?_;exact kasC_pure (.inl (MFin.doneB hs2 m2 e))
      .refine kO (λz=>e #[35]) ?_;split
       .exact kasC_pure (.inr (.mk hs2 m2 a1 ∎ ∎))
       .exact kasC_pure (.mk hs2 m2 a1 ∎ ∎)
     | false=>
      let m2:=m.a1 g ∎ b1 (g.ab ∎ b1 q);refine kO gY ?_;refine kasC_bind (vA ∎ ?_);rw[es];by_cases e:ia+1+1=xs.length
      .refine kW (beq_iff_eq.mpr e) ?_;exact kasC_pure (.inl (MFin.lastA hs2 m2 e hl))
      .refine kO (λz=>e #[35]) ?_;split
       .exact kasC_pure (.inr (.mk hs2 m2 ∎ b1 ∎))
       .exact kasC_pure (.mk hs2 m2 ∎ b1 ∎)
    case ipost=>
     clear hs' m a1 b1 n1;rintro c st' s' (⟨zs,g',e,rfl,hs',f⟩ | ⟨hs',m,a1,b1,n1⟩)
     .obtain⟨c1,c2⟩:=c;let e:c1=some (kA it zs):=e;subst e;exact kasC_pure {zs,g',rfl,rfl,hs',(f)}
     .dsimp only;refine kasC_bind (kasC_lift (wpAny_rule ?_));refine kasC_bind (kJ (kX (λ_ c st' s'=>LoI it lt xs ys Iv st (x+2) c st' s')
       (Q:=λc st' s'=>MFin it lt xs ys Iv st c.1 st' s'∨LoI it lt xs ys Iv st (x+2) c st' s') ?gstep (λ_ _ _ z=>.inr z) (.mk hs' m a1 b1 n1)) ?gpost)
      case gpost=>
       clear hs' m a1 b1 n1;rintro c st' s' (⟨zs,g',e,rfl,hs',f⟩ | ⟨hs',m,a1,b1,n1⟩)
       .obtain⟨c1,c2⟩:=c;let e:c1=some (kA it zs):=e;subst e;exact kasC_pure {zs,g',rfl,rfl,hs',(f)}
       .rename_i zs ia ib g' r;obtain⟨mg,ac,bc⟩:=r;dsimp only;exact kasC_bind (BO (kasC_pure (.mk hs' m a1 b1 ∎)))
      case gstep=>
       clear hs' m a1 b1 n1;rintro x' c st' s' _ _ ⟨hs',m,a1,b1,n1⟩;rename_i zs ia ib g' r;obtain⟨mg,ac,bc⟩:=r;subst hb3;dsimp only;apply PZ (β:=Nat);case h1=>
        intro key;by_cases e0:mg>1
        .refine kW e0 ?_;generalize mg-1=mg2;exact key mg2
        .refine kO e0 ?_;exact key mg
       intro mg2;refine kasC_bind (BO ?_);refine kasC_bind (vA b1 ?_);refine kasC_bind (OD c g (ia:=ia) (n:=xs.length-ia) hk b1 ∎ ∎ hs' λk s2 hs2 k1 k2 k3=>?_);dsimp only;let kl:ia+k+1<=xs.length:=by
        rcases Nat.lt_or_ge (ia+k) xs.length with z | z
        .exact z
        .have q1:=k2 (xs.length-1-ia) ∎;rw[show ia+(xs.length-1-ia)=xs.length-1 by ∎]at q1;let q2:=hl ib b1;rw[g.o.as _ _ q1]at q2;cases q2
       let hh:=k3 k uP ∎;apply IU (β:=List Nat) (γ:=Nat) (C:=λzs2 ja=>MI lt xs ys zs2 ja ib/\ja+1<xs.length/\x+2<=ja+ib/\lt (ys.getD ib 0) (xs.getD ja 0)=true);case h1=>
        intro key;by_cases e1:k>0
        .have ex:kA it zs++(kA it xs).extract ia (ia+k)=kA it (zs++(xs.drop ia).take k):=by rw[zU,Nat.add_sub_cancel_left,zV]
         let m2:=m.pushA g k b1 k2;refine kW e1 ?_;rw[ex];by_cases e2:ia+k+1=xs.length
         .refine kW (beq_iff_eq.mpr e2) ?_;exact kasC_pure (.inl (MFin.lastA hs2 m2 e2 hl))
         refine kO (λz=>e2 #[35]) (kO (λz=>by let:=beq_iff_eq.mp z;∎) ?_);let cc:MI lt xs ys _ (ia+k) ib/\ia+k+1<xs.length/\x+2<=ia+k+ib/\lt (ys.getD ib 0) (xs.getD (ia+k) 0)=true:={m2,∎,∎,hh};generalize zs++(xs.drop ia).take k=zs2 at cc;generalize ia+k=ja at cc;exact key zs2 ja cc
        .obtain rfl:k=0:=∎
         refine kO e1 ?_;exact key zs ia {m,a1,n1,(hh)}
       rintro zs2 ja ⟨m2,kk,n2,hh⟩;clear m a1 n1 k1 k2 k3 kl;try dsimp only
       refine kasC_bind (vA b1 ?_);rw[es];let m3:=m2.b1 g ∎ b1 hh;by_cases e3:ib+1=ys.length
       .refine kW (beq_iff_eq.mpr e3) ?_;exact kasC_pure (.inl (MFin.doneB hs2 m3 e3))
       refine kO (λz=>e3 #[35]) ?_;refine kasC_bind (vA (Nat.lt_of_succ_lt kk) ?_);refine kasC_bind (OC c g (ib:=ib+1) (n:=ys.length-(ib+1)) hk (Nat.lt_of_succ_lt kk) ∎ ∎ hs2 λr s3 hs3 r1 r2 r3=>?_);dsimp only;apply IU (β:=List Nat) (γ:=Nat) (C:=λzs4 jb=>MI lt xs ys zs4 (ja+1) jb/\jb<ys.length/\x+2<=ja+1+jb);case h1=>
        intro key;by_cases e4:r>0
        .have ex2:kA it (zs2++[ys.getD ib 0])++(kA it ys).extract (ib+1) (ib+1+r)=kA it (zs2++[ys.getD ib 0]++(ys.drop (ib+1)).take r):=by rw[zU,Nat.add_sub_cancel_left,zV]
         let m4:=m3.pushB g r (Nat.lt_of_succ_lt kk) r2;refine kW e4 ?_;rw[ex2];by_cases e5:ib+1+r=ys.length
         .refine kW (beq_iff_eq.mpr e5) ?_;exact kasC_pure (.inl (MFin.doneB hs3 m4 e5))
         refine kO (λz=>e5 #[35]) ?_;refine kasC_bind (vA (Nat.lt_of_succ_lt kk) ?_);rw[es];let cc:=And.intro (m4.a1 g (Nat.lt_of_succ_lt kk) (show ib+1+r<ys.length by ∎) (r3 _ uP ∎)) (And.intro (show ib+1+r<ys.length by ∎) (show x+2<=ja+1+(ib+1+r) by ∎));generalize zs2++[ys.getD ib 0]++(ys.drop (ib+1)).take r++[xs.getD ja 0]=zs4 at cc;generalize ib+1+r=jb at cc;exact key zs4 jb cc
        .obtain rfl:r=0:=∎
         refine kO e4 ?_;refine kasC_bind (vA (Nat.lt_of_succ_lt kk) ?_);rw[es];exact key _ (ib+1) {m3.a1 g (Nat.lt_of_succ_lt kk) ∎ (r3 0 uP ∎),∎,∎}
       rintro zs4 jb ⟨m5,bb,n5⟩;try dsimp only
       split
       .rename_i e6;exact kasC_pure (.inl (MFin.lastA hs3 m5 (beq_iff_eq.mp e6) hl))
       .rename_i e6;let e7:=mt beq_iff_eq.mpr e6;split
        .exact kasC_pure (.inr (.mk hs3 m5 ∎ bb ∎))
        .exact kasC_pure (.mk hs3 m5 ∎ bb ∎)
end
theorem qG{xs:List Nat}{n z:Nat}(h:z∈xs.take n):∃j,j<n/\j<xs.length/\z=xs.getD j 0:=by
 obtain⟨k,hk,e⟩:=List.mem_iff_getElem.mp h;rw[mJ]at hk;refine{k,∎,∎, ?_};rw[<-e,List.getElem_take];simp [uT,show k<xs.length by ∎]
theorem yZ{xs:List Nat}{a n z:Nat}(h:z∈(xs.drop a).take n):∃j,a<=j/\j<a+n/\j<xs.length/\z=xs.getD j 0:=by
 obtain⟨k,hk,e⟩:=List.mem_iff_getElem.mp h;rw[mJ,List.length_drop]at hk;refine{a+k,∎,∎,∎, ?_};rw[<-e,List.getElem_take,List.getElem_drop];simp [uT,show a+k<xs.length by ∎]
theorem wU{xs:List Nat}{a n:Nat}(h:a<=n):xs.take n=xs.take a++(xs.drop a).take (n-a):=by
 conv=>lhs;rw[show n=a+(n-a) by ∎,List.take_add]
structure MJ(lt:Nat->Nat->Bool)(xs ys zs:List Nat)(na nb:Nat):Prop where
 pm:(xs.take na++ys.take nb++zs).Perm (xs++ys)
 ra:(xs.take na++zs).Pairwise (Rl lt)
 rb:(ys.take nb++zs).Pairwise (Rl lt)
section
variable{N:Nat}{lt:Nat->Nat->Bool}{xs ys:List Nat}
theorem MJ.pushA(g:MG N lt xs ys){zs:List Nat}{na nb a:Nat}(m:MJ lt xs ys zs na nb)(ha:a<=na)(nb0:0<nb)(hb:nb<=ys.length)(h:∀i,a<=i->i<na->lt (ys.getD (nb-1) 0) (xs.getD i 0)=true):MJ lt xs ys ((xs.drop a).take (na-a)++zs) a nb:=by
 let ra:=m.ra;let pm:=m.pm;rw[wU ha]at ra pm;rw[List.append_assoc]at ra;refine{?_,ra, ?_}
 .refine List.Perm.trans ?_ pm;rw[List.append_assoc,List.append_assoc,List.append_assoc];refine List.Perm.append_left _ ?_;rw[<-List.append_assoc,<-List.append_assoc];exact List.Perm.append_right _ List.perm_append_comm
 .have ra':=List.pairwise_append.mp (List.pairwise_append.mp ra).2.1;let rb:=List.pairwise_append.mp m.rb;refine List.pairwise_append.mpr {rb.1,(List.pairwise_append.mp ra).2.1,λy hy z hz=>?_};rcases mV.mp hz with hz | hz
  .obtain⟨j,j1,j2,rfl⟩:=qG hy;obtain⟨i,i1,i2,i3,rfl⟩:=yZ hz;let h1:=h i i1 ∎;by_cases z:j=nb-1
   .rw[z];exact h1
   .exact g.o.tr _ _ _ (qO g.py ∎ ∎) h1
  .exact rb.2.2 y hy z hz
theorem MJ.pushB(g:MG N lt xs ys){zs:List Nat}{na nb b:Nat}(m:MJ lt xs ys zs na nb)(hb:b<=nb)(na0:0<na)(ha:na<=xs.length)(h:∀i,b<=i->i<nb->lt (xs.getD (na-1) 0) (ys.getD i 0)=true):MJ lt xs ys ((ys.drop b).take (nb-b)++zs) na b:=by
 let rb:=m.rb;let pm:=m.pm;rw[wU hb]at rb pm;rw[List.append_assoc]at rb;refine{?_, ?_,rb}
 .refine List.Perm.trans ?_ pm;simp only[List.append_assoc];exact List.Perm.refl _
 .have rb':=List.pairwise_append.mp (List.pairwise_append.mp rb).2.1;let ra:=List.pairwise_append.mp m.ra;refine List.pairwise_append.mpr {ra.1,(List.pairwise_append.mp rb).2.1,λy hy z hz=>?_};rcases mV.mp hz with hz | hz
  .obtain⟨j,j1,j2,rfl⟩:=qG hy;obtain⟨i,i1,i2,i3,rfl⟩:=yZ hz;let h1:=h i i1 ∎;by_cases z:j=na-1
   .rw[z];exact h1
   .exact g.o.tr _ _ _ (qO g.px ∎ ∎) h1
  .exact ra.2.2 y hy z hz
theorem mid1{xs:List Nat}{n:Nat}(h0:0<n)(h:n<=xs.length):(xs.drop (n-1)).take (n-(n-1))=[xs.getD (n-1) 0]:=by
 rw[show n-(n-1)=1 by ∎];exact EW ∎
theorem MJ.a1(g:MG N lt xs ys){zs:List Nat}{na nb:Nat}(m:MJ lt xs ys zs na nb)(na0:0<na)(ha:na<=xs.length)(nb0:0<nb)(hb:nb<=ys.length)(h:lt (ys.getD (nb-1) 0) (xs.getD (na-1) 0)=true):MJ lt xs ys (xs.getD (na-1) 0::zs) (na-1) nb:=by
 let:=m.pushA g (Nat.sub_le na 1) nb0 hb λi h1 h2=>by rw[show i=na-1 by ∎];exact h
 rwa [mid1 na0 ha]at this
theorem MJ.b1(g:MG N lt xs ys){zs:List Nat}{na nb:Nat}(m:MJ lt xs ys zs na nb)(na0:0<na)(ha:na<=xs.length)(nb0:0<nb)(hb:nb<=ys.length)(h:lt (xs.getD (na-1) 0) (ys.getD (nb-1) 0)=true):MJ lt xs ys (ys.getD (nb-1) 0::zs) na (nb-1):=by
 let:=m.pushB g (Nat.sub_le nb 1) na0 ha λi h1 h2=>by rw[show i=nb-1 by ∎];exact h
 rwa [mid1 nb0 hb]at this
theorem MJ.doneA{zs:List Nat}{na nb:Nat}(m:MJ lt xs ys zs na nb)(h:na=0):MF lt xs ys (xs.take na++ys.take nb++zs):=by
 refine{m.pm, ?_};rw[h,List.take_zero,List.nil_append];exact m.rb
theorem MJ.firstB(g:MG N lt xs ys){zs:List Nat}{na nb:Nat}(m:MJ lt xs ys zs na nb)(h:nb=1)(x0:0<xs.length)(l:lt (ys.getD 0 0) (xs.getD 0 0)=true):MF lt xs ys (ys.take nb++xs.take na++zs):=by
 refine{?_, ?_}
 .refine List.Perm.trans ?_ m.pm;exact List.Perm.append_right _ List.perm_append_comm
 .have rb:=List.pairwise_append.mp m.rb;rw[List.append_assoc];refine List.pairwise_append.mpr {rb.1,m.ra,λy hy z hz=>?_};rcases mV.mp hz with hz | hz
  .obtain⟨j,j1,j2,rfl⟩:=qG hy;obtain⟨i,i1,i2,rfl⟩:=qG hz;rw[show j=0 by ∎];by_cases z:i=0
   .rw[z];exact l
   .exact g.o.tr _ _ _ l (qO g.px ∎ i2)
  .exact rb.2.2 y hy z hz
end
local macro_rules | `(tactic| trivial)=>do
 let n (s:String):=Lean.mkIdent (.str (.str (.str (.num (.str (.str (.str (.str (.str .anonymous "_private") "PySem") "Builtin") "List") "W1All") 0) "PySem") "Builtin") s)
 `(tactic| first | unfold $(n "gallop") | unfold $(n "mergeLo") | unfold $(n "mergeHi") | unfold $(n "mergeAt") | unfold $(n "setMinGallop"))
section
variable{prog:Program}{w:World}{A:Around}{E:Value->Shared->Prop}{Y:SortKind}{it:Array Keyed}{N:Nat}{lt:Nat->Nat->Bool}{Iv:Shared->Prop}{st:SortSt}{s:Shared}{xs ys:List Nat}
theorem KS(os:List Nat)(i j:Nat):(kA it xs).extract 0 i++(kA it ys).extract 0 j++(kA it os).reverse=kA it (xs.take i++ys.take j++os.reverse):=by rw[zU,zU,NJ,zV,zV];rfl
theorem MFin.doneA{os:List Nat}{na nb g':Nat}(hs':Iv s')(m:MJ lt xs ys os.reverse na nb)(e:na=0):MFin it lt xs ys Iv st (some ((kA it xs).extract 0 na++(kA it ys).extract 0 nb++(kA it os).reverse)) (qI st g') s':={_,g',by rw[KS],rfl,hs',m.doneA e}
theorem MFin.firstB(g:MG N lt xs ys){os:List Nat}{na nb g':Nat}(hs':Iv s')(m:MJ lt xs ys os.reverse na nb)(e:nb=1)(x0:0<xs.length)(l:lt (ys.getD 0 0) (xs.getD 0 0)=true):MFin it lt xs ys Iv st (some ((kA it ys).extract 0 nb++(kA it xs).extract 0 na++(kA it os).reverse)) (qI st g') s':={_,g',by rw[KS],rfl,hs',m.firstB g e x0 l}
inductive HiI{τ:Type}(it:Array Keyed)(lt:Nat->Nat->Bool)(xs ys:List Nat)(Iv:Shared->Prop)(st:SortSt)(n:Nat):(Option #[77]×Nat×Nat×Array Keyed×τ)->SortSt->Shared->Prop
 | mk {os:List Nat} {na nb g':Nat} {r:τ} {s':Shared} (hs:Iv s') (m:MJ lt xs ys os.reverse na nb) (a:0<na/\na<=xs.length) (b:1<nb/\nb<=ys.length) (n1:n+na+nb<=xs.length+ys.length):HiI it lt xs ys Iv st n (none,na,nb,kA it os,r) (qI st g') s'
theorem ts_hi(c:Cmp prog w A Y it N lt Iv)(g:MG N lt xs ys){Q:Array Keyed->SortSt->Shared->Prop}(hk:kindOf st=Y)(x0:0<xs.length)(y0:0<ys.length)(h0:lt (ys.getD 0 0) (xs.getD 0 0)=true)(hl:∀j,j<ys.length->lt (ys.getD j 0) (xs.getD (xs.length-1) 0)=true)(hs:Iv s)
  (h:∀zs g' s',Iv s'->MF lt xs ys zs->Q (kA it zs) (qI st g') s'):kasC #[3] A E (KJ (kA it xs) (kA it ys)) Q st s:=by
 let out:∀{c:Option #[77]} {st':SortSt} {s':Shared},MFin it lt xs ys Iv st c st' s'->∃r,c=some r/\Q r st' s':=λ⟨zs,g',e,e2,hs',f⟩=>{_,e,by rw[e2];exact h zs g' _ hs' f};let m0:MJ lt xs ys [] xs.length ys.length:=by
  refine{?_, ?_, ?_}<;>simp only[mL,List.append_nil]
  .exact List.Perm.refl _
  .exact g.px
  .exact g.py
 let m1:MJ lt xs ys ([xs.getD (xs.length-1) 0]:List Nat).reverse (xs.length-1) ys.length:=m0.a1 g x0 uP y0 uP (hl _ ∎);let es:∀zs:List Nat,∀i,(kA it zs).push (kas_item it i)=kA it (zs++[i]):=RG;let er:∀(os:List Nat) (i:Nat),(os++[i]).reverse=i::os.reverse:=λos i=>by rw[List.reverse_append];rfl
 let e1:(#[kas_item it (xs.getD (xs.length-1) 0)]:Array Keyed)=kA it [xs.getD (xs.length-1) 0]:=rfl;unfold KJ
 trivial
 refine kasC_bind (kasC_lift (wpAny_rule ?_));dsimp only;rw[qT,qT];generalize hb:(λ(x:Nat) (r:Option #[77]×Nat×Nat×Array Keyed×Nat)=>(_:StateT SortSt Sem (ForInStep (Option #[77]×Nat×Nat×Array Keyed×Nat))))=f;refine kasC_bind (vA ∎ ?_);rw[e1];by_cases c1:xs.length-1=0
 .refine kW (beq_iff_eq.mpr c1) ?_;obtain⟨r,e,q⟩:=out (MFin.doneA (g':=gallopOf st) hs m1 c1);cases e;exact kasC_pure q
 .refine kO (λz=>c1 #[35]) ?_;by_cases c2:ys.length=1
  .refine kW (beq_iff_eq.mpr c2) ?_;obtain⟨r,e,q⟩:=out (MFin.firstB g (g':=gallopOf st) hs m1 c2 x0 h0);cases e;exact kasC_pure q
  .refine kO (λz=>c2 #[35]) ?_;refine kasC_bind (kasC_get ?_);refine kasC_bind (kJ (kX (a:=0) (b:=xs.length+ys.length) (λx c st' s'=>HiI it lt xs ys Iv st (x+1) c st' s')
    (Q:=λc st' s'=>MFin it lt xs ys Iv st c.1 st' s') ?step ?fin (.mk hs m1 {∎,∎} {∎,∎} ∎)) ?post)
   case fin=>
    rintro c st' s' ⟨hs',m,a1,b1,n1⟩
    ∎
   case post=>
    rintro c st' s' f;obtain⟨c1,c2⟩:=c;obtain⟨r,e,q⟩:=out f;let e:c1=some r:=e;subst e;exact kasC_pure q
   case step=>
    rintro x c st' s' _ hx ⟨hs',m,a1,b1,n1⟩;rename_i os na nb g' mg;subst hb;dsimp only;generalize hb2:(λ(x:Nat) (r:Option #[77]×Nat×Nat×Array Keyed×Nat×Nat)=>(_:StateT SortSt Sem (ForInStep (Option #[77]×Nat×Nat×Array Keyed×Nat×Nat))))=f2;generalize hb3:(λ(x:Nat) (r:Option #[77]×Nat×Nat×Array Keyed×Nat×Nat×Nat)=>(_:StateT SortSt Sem (ForInStep (Option #[77]×Nat×Nat×Array Keyed×Nat×Nat×Nat))))=f3;refine kasC_bind (kJ (kX (λx' c st' s'=>HiI it lt xs ys Iv st (x+1+x') c st' s')
     (Q:=λc st' s'=>MFin it lt xs ys Iv st c.1 st' s'∨HiI it lt xs ys Iv st (x+2) c st' s') ?istep ?ifin (.mk hs' m a1 b1 n1)) ?ipost)
    case ifin=>
     rintro c st' s' ⟨hs',m,a1,b1,n1⟩
     ∎
    case istep=>
     clear hs' m a1 b1 n1;rintro x' c st' s' _ hx' ⟨hs',m,a1,b1,n1⟩;rename_i os na nb g' r;obtain⟨ac,bc⟩:=r;subst hb2;dsimp only;refine kasC_bind (vA ∎ (kasC_bind (vA ∎ ?_)));refine kasC_bind (IV c (g.yN ∎) (g.xN ∎) hk hs' λs2 hs2=>?_);dsimp only;cases q:lt (ys.getD (nb-1) 0) (xs.getD (na-1) 0)with
     | true=>
      let m2:=m.a1 g a1.1 a1.2 ∎ b1.2 q;rw[<-er]at m2;refine kW rfl ?_;refine kasC_bind (vA ∎ ?_);rw[es];by_cases e:na-1=0
      .refine kW (beq_iff_eq.mpr e) ?_;exact kasC_pure (.inl (MFin.doneA hs2 m2 e))
      .refine kO (λz=>e #[35]) ?_;split
       .exact kasC_pure (.inr (.mk hs2 m2 {∎,∎} b1 ∎))
       .exact kasC_pure (.mk hs2 m2 {∎,∎} b1 ∎)
     | false=>
      let m2:=m.b1 g a1.1 a1.2 ∎ b1.2 (g.ab ∎ ∎ q);rw[<-er]at m2;refine kO gY ?_;refine kasC_bind (vA ∎ ?_);rw[es];by_cases e:nb-1=1
      .refine kW (beq_iff_eq.mpr e) ?_;exact kasC_pure (.inl (MFin.firstB g hs2 m2 e x0 h0))
      .refine kO (λz=>e #[35]) ?_;split
       .exact kasC_pure (.inr (.mk hs2 m2 a1 {∎,∎} ∎))
       .exact kasC_pure (.mk hs2 m2 a1 {∎,∎} ∎)
    case ipost=>
     clear hs' m a1 b1 n1;rintro c st' s' (f | ⟨hs',m,a1,b1,n1⟩)
     .obtain⟨c1,c2⟩:=c;obtain⟨zs,g',e,e2,hs',f⟩:=f;let e:c1=some (kA it zs):=e;subst e e2;exact kasC_pure {zs,g',rfl,rfl,hs',(f)}
     .dsimp only;refine kasC_bind (kasC_lift (wpAny_rule ?_));refine kasC_bind (kJ (kX (λ_ c st' s'=>HiI it lt xs ys Iv st (x+2) c st' s')
       (Q:=λc st' s'=>MFin it lt xs ys Iv st c.1 st' s'∨HiI it lt xs ys Iv st (x+2) c st' s') ?gstep (λ_ _ _ z=>.inr z) (.mk hs' m a1 b1 n1)) ?gpost)
      case gpost=>
       clear hs' m a1 b1 n1;rintro c st' s' (f | ⟨hs',m,a1,b1,n1⟩)
       .obtain⟨c1,c2⟩:=c;obtain⟨zs,g',e,e2,hs',f⟩:=f;let e:c1=some (kA it zs):=e;subst e e2;exact kasC_pure {zs,g',rfl,rfl,hs',(f)}
       .rename_i os na nb g' r;obtain⟨mg,ac,bc⟩:=r;dsimp only;exact kasC_bind (BO (kasC_pure (.mk hs' m a1 b1 ∎)))
      case gstep=>
       clear hs' m a1 b1 n1;rintro x' c st' s' _ _ ⟨hs',m,a1,b1,n1⟩;rename_i os na nb g' r;obtain⟨mg,ac,bc⟩:=r;subst hb3;dsimp only;apply PZ (β:=Nat);case h1=>
        intro key;by_cases e0:mg>1
        .refine kW e0 ?_;generalize mg-1=mg2;exact key mg2
        .refine kO e0 ?_;exact key mg
       intro mg2;refine kasC_bind (BO ?_);refine kasC_bind (vA ∎ ?_);refine kasC_bind (OD c g (ia:=0) (n:=na) hk (show nb-1<ys.length by ∎) ∎ ∎ hs' λk s2 hs2 k1 k2 k3=>?_);dsimp only;simp only[Nat.zero_add]at k2 k3;apply JX (β:=List Nat) (C:=λos2=>MJ lt xs ys os2.reverse k nb/\(0<k/\k<=xs.length)/\x+2+k+nb<=xs.length+ys.length);case h1=>
        intro key;by_cases e1:na-k>0
        .have m2:=m.pushA g k1 ∎ b1.2 k3;let ex:kA it os++((kA it xs).extract k na).reverse=kA it (os++((xs.drop k).take (na-k)).reverse):=by rw[zU,NJ,zV]
         let eo:(xs.drop k).take (na-k)++os.reverse=(os++((xs.drop k).take (na-k)).reverse).reverse:=by rw[List.reverse_append,List.reverse_reverse]
         rw[eo]at m2;refine kW e1 ?_;rw[ex];by_cases e2:k=0
         .refine kW (beq_iff_eq.mpr e2) ?_;exact kasC_pure (.inl (MFin.doneA hs2 m2 e2))
         refine kO (λz=>e2 #[35]) ?_;generalize os++((xs.drop k).take (na-k)).reverse=os2 at m2;exact key os2 {m2,∎,∎}
        .obtain rfl:k=na:=∎
         refine kO e1 ?_;exact key os {m,a1,(n1)}
       rintro os2 ⟨m2,aa,n2⟩;let h5:=k2 (k-1) ∎;clear m a1 n1 k1 k2 k3;try dsimp only
       let m3:=m2.b1 g aa.1 aa.2 ∎ b1.2 h5;rw[<-er]at m3;refine kasC_bind (vA ∎ ?_);rw[es];by_cases e3:nb-1=1
       .refine kW (beq_iff_eq.mpr e3) ?_;exact kasC_pure (.inl (MFin.firstB g hs2 m3 e3 x0 h0))
       refine kO (λz=>e3 #[35]) ?_;refine kasC_bind (vA ∎ ?_);refine kasC_bind (OC c g (ib:=0) (n:=nb-1) hk (show _-1<xs.length by ∎) ∎ ∎ hs2 λr s3 hs3 r1 r2 r3=>?_);dsimp only;simp only[Nat.zero_add]at r2 r3;let rp:0<r:=by
        rcases Nat.eq_zero_or_pos r with z | z
        .have q1:=r3 0 ∎ ∎;let q2:lt (ys.getD 0 0) (xs.getD (k-1) 0)=true:=by
          by_cases w:k-1=0
          .rw[w];exact h0
          .exact g.o.tr _ _ _ h0 (qO g.px ∎ ∎)
         rw[g.o.as _ _ q1]at q2;cases q2
        .exact z
       generalize os2++[ys.getD (nb-1) 0]=os3 at m3;apply JX (β:=List Nat) (C:=λos4=>MJ lt xs ys os4.reverse k r/\(1<r/\r<=ys.length));case h1=>
        intro key;by_cases e4:nb-1-r>0
        .have m4:=m3.pushB g r1 aa.1 aa.2 r3;let ex2:kA it os3++((kA it ys).extract r (nb-1)).reverse=kA it (os3++((ys.drop r).take (nb-1-r)).reverse):=by rw[zU,NJ,zV]
         let eo2:(ys.drop r).take (nb-1-r)++os3.reverse=(os3++((ys.drop r).take (nb-1-r)).reverse).reverse:=by rw[List.reverse_append,List.reverse_reverse]
         rw[eo2]at m4;refine kW e4 ?_;rw[ex2];by_cases e5:r=1
         .refine kW (beq_iff_eq.mpr e5) ?_;exact kasC_pure (.inl (MFin.firstB g hs3 m4 e5 x0 h0))
         refine kO (λz=>e5 #[35]) (kO (λz=>by let:=beq_iff_eq.mp z;∎) ?_);generalize os3++((ys.drop r).take (nb-1-r)).reverse=os4 at m4;exact key os4 {m4,∎}
        .obtain rfl:r=nb-1:=∎
         refine kO e4 ?_;exact key os3 {m3,∎}
       rintro os4 ⟨m4,bb⟩;let h6:=r2 (r-1) ∎;let n3:x+3+k+r<=xs.length+ys.length:=∎
       clear m2 m3 n2 r1 r2 r3;try dsimp only
       let m5:=m4.a1 g aa.1 aa.2 ∎ bb.2 h6;rw[<-er]at m5;refine kasC_bind (vA ∎ ?_);rw[es];split
       .rename_i e6;exact kasC_pure (.inl (MFin.doneA hs3 m5 (beq_iff_eq.mp e6)))
       .rename_i e6;let e7:=mt beq_iff_eq.mpr e6;split
        .exact kasC_pure (.inr (.mk hs3 m5 {∎,∎} bb ∎))
        .exact kasC_pure (.mk hs3 m5 {∎,∎} bb ∎)
end
theorem sub_e1(i d a:Nat)(h:a<d):i+(d-1-a)=i+(i+d)-1-(i+a):=∎
theorem sub_e2(i d a:Nat)(h:¬a<d):i+d+(a-d)=i+a:=∎
theorem RA{α:Type}{ps:List α}{i d:Nat}(hj:i+d<=ps.length):(ps.take i).length=i/\((ps.drop i).take d).length=d:={List.length_take_of_le (nQ (Nat.le_add_right ..) hj),List.length_take_of_le (by rw[List.length_drop];exact Nat.le_sub_of_add_le (by rw[Nat.add_comm];exact hj))}
theorem YD{α:Type}(ps:List α){i j:Nat}(hij:i<=j)(hj:j<=ps.length)(k:Nat):(ps.take i++(((ps.drop i).take (j-i)).reverse++ps.drop j))[k]? = if i<=k/\k<j then ps[i+j-1-k]? else ps[k]? :=by
 obtain⟨d,rfl⟩:=Nat.exists_eq_add_of_le hij;rw[Nat.add_sub_cancel_left];obtain⟨l1,l3⟩:=RA hj;by_cases h1:k<i
 .rw[uX (by rw[l1];exact h1),uZ h1,tN (λz=>Nat.not_le.mpr h1 z.1)]
 .obtain⟨a,rfl⟩:=Nat.exists_eq_add_of_le (Nat.le_of_not_lt h1);rw[uU (by rw[l1];exact Nat.le_add_right ..),l1,Nat.add_sub_cancel_left];by_cases h2:a<d
  .rw[uX (by rw[List.length_reverse,l3];exact h2),tO {Nat.le_add_right ..,Nat.add_lt_add_left h2 i},List.getElem?_reverse (by rw[l3];exact h2),l3,uZ (gX (Nat.sub_le ..) (Nat.sub_lt (Nat.zero_lt_of_lt h2) Nat.one_pos)),List.getElem?_drop,sub_e1 i d a h2]
  .rw[uU (by rw[List.length_reverse,l3];exact Nat.le_of_not_lt h2),List.length_reverse,l3,tN (λz=>h2 (Nat.lt_of_add_lt_add_left z.2)),List.getElem?_drop,sub_e2 i d a h2]
theorem sub_e3(l d b:Nat)(h:¬b<d):l+d+1+(b-d)=l+(b+1):=∎
theorem YF{α:Type}(ps:List α){l k:Nat}(h:l<=k)(hk:k<ps.length)(q:Nat):(ps.take l++(ps[k]::((ps.drop l).take (k-l)++ps.drop (k+1))))[q]? = if q=l then ps[k]? else if l<q/\q<=k then ps[q-1]? else ps[q]? :=by
 obtain⟨d,rfl⟩:=Nat.exists_eq_add_of_le h;rw[Nat.add_sub_cancel_left];obtain⟨l1,l3⟩:=RA (nY hk);by_cases h1:q<l
 .rw[uX (by rw[l1];exact h1),uZ h1,tN (nS h1),tN (λz=>Nat.lt_asymm h1 z.1)]
 .obtain⟨b,rfl⟩:=Nat.exists_eq_add_of_le (Nat.le_of_not_lt h1);rw[uU (by rw[l1];exact Nat.le_add_right ..),l1,Nat.add_sub_cancel_left];cases b with
  | zero=>rw[tO (nZ l),List.getElem?_cons_zero,uY hk]
  | succ b=>
   let lt:l<l+(b+1):=Nat.lt_add_of_pos_right (Nat.succ_pos b);rw[tN (Nat.ne_of_gt lt),List.getElem?_cons_succ];by_cases h3:b<d
   .rw[uX (by rw[l3];exact h3),tO {lt,Nat.add_le_add_left h3 l},uZ h3,List.getElem?_drop]
    rfl
   .rw[uU (by rw[l3];exact Nat.le_of_not_lt h3),l3,tN (λz=>h3 (Nat.le_of_add_le_add_left z.2)),List.getElem?_drop,sub_e3 l d b h3]
section
variable{it:Array Keyed}
theorem wQ(ps:List Nat)(k:Nat):(kA it ps)[k]? = (ps[k]?).map (kas_item it):=by simp [kA]
theorem UF(ps:List Nat){i j:Nat}(hij:i<=j)(hj:j<=ps.length):mirror (kA it ps) i j ((j-i)/2)=kA it (ps.take i++(((ps.drop i).take (j-i)).reverse++ps.drop j)):=by
 apply Array.ext_getElem?;intro k;rw[getElem?_mirror_all (by rw[qT];exact hj),wQ,wQ,wQ,YD ps hij hj];split<;>rfl
theorem UG(ps:List Nat){l k:Nat}(h:l<=k)(hk:k<ps.length):bubble (kA it ps) k (k-l)=kA it (ps.take l++(ps[k]::((ps.drop l).take (k-l)++ps.drop (k+1)))):=by
 apply Array.ext_getElem?;intro q;rw[getElem?_bubble (by rw[qT];exact hk) _ ∎,wQ,wQ,wQ,wQ,YF ps h hk,show k-(k-l)=l by ∎];split
 .rfl
 .split<;>rfl
end
section
variable{prog:Program}{w:World}{A:Around}{E:Value->Shared->Prop}{Y:SortKind}{it:Array Keyed}{N:Nat}{lt:Nat->Nat->Bool}{Iv:Shared->Prop}{st:SortSt}{s:Shared}{ps F rs:List Nat}
theorem ts_ltAt(c:Cmp prog w A Y it N lt Iv){i j:Nat}{Q:Option Bool->SortSt->Shared->Prop}(ha:arrOf st=kA it ps)(hk:kindOf st=Y)(hb:∀z∈ps,z<N)(hi:i<ps.length)(hj:j<ps.length)(hs:Iv s)(h:∀s',Iv s'->Q (some (lt (ps.getD i 0) (ps.getD j 0))) st s'):kasC #[3] A E (ltAt' i j) Q st s:=by
 rw[ltAt'_eq];refine kasC_bind (kasC_get ?_);dsimp only;rw[ha];refine kasC_bind (vA hi (kasC_bind (vA hj ?_)));exact IV c (hb _ (vJ hi)) (hb _ (vJ hj)) hk hs h
theorem ts_rev{i j:Nat}{Q:Unit->SortSt->Shared->Prop}(ha:arrOf st=kA it ps)(hij:i<=j)(hj:j<=ps.length)(h:Q () (setArr st (kA it (ps.take i++(((ps.drop i).take (j-i)).reverse++ps.drop j)))) s):kasC #[3] A E (reverseSlice' i j) Q st s:=by
 rw[reverseSlice'_eq];refine kasC_modify ?_;rw[ha,UF ps hij hj];exact h
theorem ts_mov{l k:Nat}{Q:Unit->SortSt->Shared->Prop}(ha:arrOf st=kA it ps)(h:l<=k)(hk:k<ps.length)(q:Q () (setArr st (kA it (ps.take l++(ps[k]::((ps.drop l).take (k-l)++ps.drop (k+1)))))) s):kasC #[3] A E (moveDown' k l) Q st s:=by
 rw[moveDown'_eq];refine kasC_modify ?_;rw[ha,UG ps h hk];exact q
theorem EB(F rs:List Nat)(i:Nat):(F++rs).getD (F.length+i) 0=rs.getD i 0:=by
 rw[uT,uT,uU ∎]
 congr 2
 ∎
theorem BM(o:LwD.Strict lt N){n:Nat}(h1:1<=n)(hn:n<rs.length)(p:(rs.take n).Pairwise (Rl lt))(h:lt (rs.getD (n-1) 0) (rs.getD n 0)=true):(rs.take (n+1)).Pairwise (Rl lt):=by
 let e:rs.take (n+1)=rs.take n++[rs.getD n 0]:=by
  rw[wU (Nat.le_succ n),show n+1-n=1 by ∎,EW hn]
 rw[e];refine List.pairwise_append.mpr {p,List.pairwise_singleton ..,λa ha b hb=>?_};rw[hJ.mp hb];obtain⟨j,j1,j2,rfl⟩:=qG ha;by_cases z:j=n-1
 .rw[z];exact h
 .refine o.tr _ _ _ ?_ h;let q:=qO p (i:=j) (j:=n-1) ∎ (by rw[mJ];∎);let e2:∀k,k<n->(rs.take n).getD k 0=rs.getD k 0:=λk hk=>by rw[uT,uT,List.getElem?_take,tO hk]
  rwa [e2 j j1,e2 (n-1) ∎]at q
end
theorem CS{lt:Nat->Nat->Bool}{N:Nat}(o:LwD.Strict lt N):LwD.Strict (λa b=>lt b a) N:={λa b c h1 h2=>o.tr _ _ _ h2 h1,λa b h=>o.as _ _ h,λa b ha hb hn h=>o.tot _ _ hb ha (λz=>hn z.symm) h}
theorem CF{rs:List Nat}(nd:rs.Nodup){i j:Nat}(hi:i<rs.length)(hj:j<rs.length)(h:i≠j):rs.getD i 0≠rs.getD j 0:=by
 let e1:rs.getD i 0=rs[i]:=by simp [uT,hi]
 let e2:rs.getD j 0=rs[j]:=by simp [uT,hj]
 rw[e1,e2];exact λz=>h ((List.getElem_inj nd).mp z)
section
variable{prog:Program}{w:World}{A:Around}{E:Value->Shared->Prop}{Y:SortKind}{it:Array Keyed}{N:Nat}{lt:Nat->Nat->Bool}{Iv:Shared->Prop}{st:SortSt}{s:Shared}{ps F rs:List Nat}
theorem AM(c:Cmp prog w A Y it N lt Iv){i j:Nat}{Q:Option Bool->SortSt->Shared->Prop}(ha:arrOf st=kA it (F++rs))(hk:kindOf st=Y)(hb:∀z∈F++rs,z<N)(hi:i<rs.length)(hj:j<rs.length)(hs:Iv s)(h:∀s',Iv s'->Q (some (lt (rs.getD i 0) (rs.getD j 0))) st s'):kasC #[3] A E (ltAt' (F.length+i) (F.length+j)) Q st s:=by
 refine ts_ltAt c ha hk hb (by rw[List.length_append];∎) (by rw[List.length_append];∎) hs λs' hs'=>?_;rw[EB,EB];exact h s' hs'
theorem VQ(c:Cmp prog w A Y it N lt Iv){Q:Option Nat->SortSt->Shared->Prop}(ha:arrOf st=kA it (F++rs))(hk:kindOf st=Y)(hb:∀z∈F++rs,z<N)(nd:rs.Nodup)(r0:0<rs.length)(hs:Iv s)
  (h:∀n rs' s',Iv s'->1<=n->n<=rs.length->rs'.Perm rs->(rs'.take n).Pairwise (Rl lt)->Q (some n) (setArr st (kA it (F++rs'))) s'):kasC #[3] A E (countRun' F.length rs.length) Q st s:=by
 let same:setArr st (kA it (F++rs))=st:=by rw[<-ha]
 let rN:∀{i},i<rs.length->rs.getD i 0<N:=λhi=>hb _ (gH _ (vJ hi));let p1:(rs.take 1).Pairwise (Rl lt):=by
  let:=EW (xs:=rs) (i:=0) r0;rw[List.drop_zero]at this;rw[this];exact List.pairwise_singleton ..
 rw[countRun'_eq];dsimp only;refine kasC_bind (kJ (kX (λk c st' s'=>st'=st/\Iv s'/\c=(none,k)/\1<=k/\(rs.take k).Pairwise (Rl lt))
  (Q:=λc st' s'=>st'=st/\Iv s'/\∃n,c=(none,n)/\1<=n/\n<=rs.length/\(rs.take n).Pairwise (Rl lt)/\(n<rs.length->lt (rs.getD n 0) (rs.getD (n-1) 0)=true)) ?a ?b {rfl,hs,rfl,tE _,p1}) ?d)
 case a=>
  rintro k c st' s' _ hkn ⟨rfl,hs',rfl,k1,pk⟩;dsimp only;rw[show F.length+k-1=F.length+(k-1) by ∎];refine kasC_bind (AM c ha hk hb hkn ∎ hs' λs2 hs2=>?_);dsimp only;cases q:lt (rs.getD k 0) (rs.getD (k-1) 0)with
  | true=>exact kasC_pure {rfl,hs2,k,rfl,k1,∎,pk,λ_=>q}
  | false=>exact kasC_pure {rfl,hs2,rfl,∎,BM c.o k1 hkn pk (c.o.tot _ _ (rN hkn) (rN ∎) (CF nd hkn ∎ ∎) q)}
 case b=>
  rintro c st' s' ⟨rfl,hs',rfl,k1,pk⟩;exact{rfl,hs',_,rfl,k1,∎,pk,λz=>∎}
 case d=>
  rintro c st' s' ⟨rfl,hs',n,rfl,n1,n2,pn,low⟩;dsimp only;by_cases e1:n=rs.length
  .rw[tO (beq_iff_eq.mpr e1)];let:=h n rs s' hs' n1 n2 (List.Perm.refl _) pn;rw[same]at this;exact kasC_pure this
  rw[tN (λz=>e1 #[35])];by_cases e2:n>1
  .rw[tO e2,show F.length+n-1=F.length+(n-1) by ∎];refine kasC_bind (AM (F:=F) (i:=0) c ha hk hb ∎ ∎ hs' λs2 hs2=>?_);dsimp only;let q:lt (rs.getD 0 0) (rs.getD (n-1) 0)=true:=by
    let q:=qO pn (i:=0) (j:=n-1) ∎ (by rw[mJ];∎);let e2:∀k,k<n->(rs.take n).getD k 0=rs.getD k 0:=λk hk=>by rw[uT,uT,List.getElem?_take,tO hk]
    rwa [e2 0 ∎,e2 (n-1) ∎]at q
   rw[q,tO rfl];let:=h n rs s2 hs2 n1 n2 (List.Perm.refl _) pn;rw[same]at this;exact kasC_pure this
  rw[tN e2];obtain rfl:n=1:=∎
  let p2:(rs.take (1+1)).Pairwise (Rl λa b=>lt b a):=BM (CS c.o) (tE 1) ∎ (by
   let:=EW (xs:=rs) (i:=0) r0;rw[List.drop_zero]at this;rw[this];exact List.pairwise_singleton ..) (low ∎)
  refine kasC_bind (kasC_lift (wpAny_rule ?_));refine kasC_bind (kJ (kX (λk c st2 s2=>st2=st'/\Iv s2/\c=(none,k,0)/\2<=k/\(rs.take k).Pairwise (Rl λa b=>lt b a))
   (Q:=λc st2 s2=>st2=st'/\Iv s2/\∃n,c=(none,n,0)/\2<=n/\n<=rs.length/\(rs.take n).Pairwise (Rl λa b=>lt b a)) ?a2 ?b2 {rfl,hs',rfl,tE _,p2}) ?d2)
  case a2=>
   rintro k c st2 s2 _ hkn ⟨rfl,hs2,rfl,k1,pk⟩;dsimp only;rw[show F.length+k-1=F.length+(k-1) by ∎];refine kasC_bind (AM c ha hk hb hkn ∎ hs2 λs3 hs3=>?_);dsimp only;cases q:lt (rs.getD k 0) (rs.getD (k-1) 0)with
   | true=>
    rw[tO rfl,tN (nJ 0)];exact kasC_pure {rfl,hs3,rfl,∎,BM (CS c.o) ∎ hkn pk q}
   | false=>
    rw[tN gY];refine kasC_bind (AM c ha hk hb ∎ hkn hs3 λs4 hs4=>?_);dsimp only;rw[c.o.tot _ _ (rN hkn) (rN ∎) (CF nd hkn ∎ ∎) q,tO rfl];exact kasC_pure {rfl,hs4,k,rfl,k1,∎,pk}
  case b2=>
   rintro c st2 s2 ⟨rfl,hs2,rfl,k1,pk⟩;exact{rfl,hs2,_,rfl,k1,∎,pk}
  case d2=>
   rintro c st2 s2 ⟨rfl,hs2,m,rfl,m1,m2,pm⟩;dsimp only;rw[tN (nJ 0)];refine kasC_bind (ts_rev ha (Nat.le_add_right _ _) (by rw[List.length_append];∎) ?_);let e:(F++rs).take F.length++((((F++rs).drop F.length).take (F.length+m-F.length)).reverse++(F++rs).drop (F.length+m))=F++((rs.take m).reverse++rs.drop m):=by
    rw[List.take_left',List.drop_left',Nat.add_sub_cancel_left,<-List.drop_drop,List.drop_left']<;>rfl
   rw[e];let pr:((rs.take m).reverse++rs.drop m).Perm rs:=by
    refine List.Perm.trans (List.Perm.append_right _ (List.reverse_perm _)) ?_;rw[List.take_append_drop]
   let lr:((rs.take m).reverse++rs.drop m).length=rs.length:=pr.length_eq;let pu:(((rs.take m).reverse++rs.drop m).take m).Pairwise (Rl lt):=by
    rw[List.take_left' (by rw[List.length_reverse,mJ];∎)];exact List.pairwise_reverse.mpr pm
   generalize (rs.take m).reverse++rs.drop m=r2 at pr lr pu;let hb2:∀z∈F++r2,z<N:=λz hz=>hb z (by
    rcases mV.mp hz with hz | hz
    .exact List.mem_append_left _ hz
    .exact gH _ (pr.mem_iff.mp hz))
   let nd2:r2.Nodup:=pr.nodup_iff.mpr nd;let ha2:arrOf (setArr st2 (kA it (F++r2)))=kA it (F++r2):=rfl;let hk2:kindOf (setArr st2 (kA it (F++r2)))=Y:=hk;let h2:∀n s',Iv s'->1<=n->n<=r2.length->(r2.take n).Pairwise (Rl lt)->Q (some n) (setArr st2 (kA it (F++r2))) s':=λn s' a b c d=>h n r2 s' a b (lr▸c) pr d;generalize setArr st2 (kA it (F++r2))=st3 at ha2 hk2 h2;rw[<-lr];let rN2:∀{i},i<r2.length->r2.getD i 0<N:=λhi=>hb2 _ (gH _ (vJ hi));refine kasC_bind (kJ (kX (λk c st' s'=>st'=st3/\Iv s'/\c=(none,k)/\2<=k/\(r2.take k).Pairwise (Rl lt))
    (Q:=λc st' s'=>st'=st3/\Iv s'/\∃n,c=(none,n)/\1<=n/\n<=r2.length/\(r2.take n).Pairwise (Rl lt)) ?a3 ?b3 {rfl,hs2,rfl,m1,(pu)}) ?d3)
   case a3=>
    rintro k c st' s' _ hkn ⟨rfl,hs',rfl,k1,pk⟩;dsimp only;rw[show F.length+k-1=F.length+(k-1) by ∎];refine kasC_bind (AM c ha2 hk2 hb2 hkn ∎ hs' λs3 hs3=>?_);dsimp only;cases q:lt (r2.getD k 0) (r2.getD (k-1) 0)with
    | true=>exact kasC_pure {rfl,hs3,k,rfl,∎,∎,pk}
    | false=>exact kasC_pure {rfl,hs3,rfl,∎,BM c.o ∎ hkn pk (c.o.tot _ _ (rN2 hkn) (rN2 ∎) (CF nd2 hkn ∎ ∎) q)}
   case b3=>
    rintro c st' s' ⟨rfl,hs',rfl,k1,pk⟩;exact{rfl,hs',_,rfl,∎,∎,pk}
   case d3=>
    rintro c st' s' ⟨rfl,hs',n,rfl,n1,n2,pn⟩;exact kasC_pure (h2 n s' hs' n1 n2 pn)
theorem ts_bin(c:Cmp prog w A Y it N lt Iv){Q:Bool->SortSt->Shared->Prop}{n ok:Nat}(ha:arrOf st=kA it (F++rs))(hk:kindOf st=Y)(hb:∀z∈F++rs,z<N)(nd:rs.Nodup)(o1:1<=ok)(on:ok<=n)(hn:n<=rs.length)(po:(rs.take ok).Pairwise (Rl lt))(hs:Iv s)
  (h:∀rs' s',Iv s'->rs'.Perm rs->(rs'.take n).Pairwise (Rl lt)->Q true (setArr st (kA it (F++rs'))) s'):kasC #[3] A E (binarySort' F.length n ok) Q st s:=by
 rw[binarySort'_eq];dsimp only;refine kasC_bind (kJ (kX (λk c st' s'=>Iv s'/\c=(none,())/\∃r2,st'=setArr st (kA it (F++r2))/\r2.Perm rs/\(r2.take k).Pairwise (Rl lt))
  (Q:=λc st' s'=>Iv s'/\c=(none,())/\∃r2,st'=setArr st (kA it (F++r2))/\r2.Perm rs/\(r2.take n).Pairwise (Rl lt)) ?a ?b {hs,rfl,rs,by rw[<-ha],List.Perm.refl _,by rw[show max ok 1=ok by ∎];exact po}) ?d)
 case b=>
  rintro c st' s' ⟨hs',rfl,r2,rfl,pr,pk⟩;rw[show max (max ok 1) n=n by ∎]at pk;exact{hs',rfl,r2,rfl,pr,(pk)}
 case d=>
  rintro c st' s' ⟨hs',rfl,r2,rfl,pr,pk⟩;exact kasC_pure (h r2 s' hs' pr pk)
 case a=>
  rintro k c st' s' hk1 hkn ⟨hs',rfl,r2,rfl,pr,pk⟩;let lr:r2.length=rs.length:=pr.length_eq;let hb2:∀z∈F++r2,z<N:=λz hz=>hb z (by
   rcases mV.mp hz with hz | hz
   .exact List.mem_append_left _ hz
   .exact gH _ (pr.mem_iff.mp hz))
  let nd2:r2.Nodup:=pr.nodup_iff.mpr nd;let rN2:∀{i},i<r2.length->r2.getD i 0<N:=λhi=>hb2 _ (gH _ (vJ hi));let up:∀i j,i<j->j<k->lt (r2.getD i 0) (r2.getD j 0)=true:=λi j h1 h2=>by
   let q:=qO pk (i:=i) (j:=j) h1 (by rw[mJ];∎);let e2:∀i,i<k->(r2.take k).getD i 0=r2.getD i 0:=λi hi=>by rw[uT,uT,List.getElem?_take,tO hi]
   rwa [e2 i ∎,e2 j h2]at q
  let ha2:arrOf (setArr st (kA it (F++r2)))=kA it (F++r2):=rfl;let hk2:kindOf (setArr st (kA it (F++r2)))=Y:=hk;refine kasC_bind (kJ (kX (λx c st'' s'=>st''=setArr st (kA it (F++r2))/\Iv s'/\∃l r,c=(none,l,r)/\l<=r/\r<=k/\r-l<=k-x/\(∀i,i<l->lt (r2.getD i 0) (r2.getD k 0)=true)/\∀i,r<=i->i<k->lt (r2.getD k 0) (r2.getD i 0)=true)
   (Q:=λc st'' s'=>st''=setArr st (kA it (F++r2))/\Iv s'/\∃l r,c=(none,l,r)/\l<=k/\(∀i,i<l->lt (r2.getD i 0) (r2.getD k 0)=true)/\∀i,l<=i->i<k->lt (r2.getD k 0) (r2.getD i 0)=true) ?a2 ?b2 {rfl,hs',0,k,rfl,tF _,tE _,∎,λi hi=>∎,λi h1 h2=>∎}) ?d2)
  case a2=>
   rintro x c st'' s2 _ hxk ⟨rfl,hs2,l,r,rfl,a1,a2,a3,a4,a5⟩;dsimp only;by_cases e:l ≥ r
   .rw[tO e];exact kasC_pure {rfl,hs2,l,r,rfl,∎,a4,λi h1 h2=>a5 i ∎ h2}
   .rw[tN e];refine kasC_bind (AM c ha2 hk2 hb2 ∎ ∎ hs2 λs3 hs3=>?_);dsimp only;cases q:lt (r2.getD k 0) (r2.getD ((l+r)/2) 0)with
    | true=>
     rw[tO rfl];refine kasC_pure {rfl,hs3,l,(l+r)/2,rfl,∎,∎,∎,a4,λi h1 h2=>?_};by_cases z:i=(l+r)/2
     .rw[z];exact q
     .exact c.o.tr _ _ _ q (up _ _ ∎ h2)
    | false=>
     rw[tN gY];let q':=c.o.tot _ _ (rN2 ∎) (rN2 ∎) (CF nd2 (show k<r2.length by ∎) (show(l+r)/2<r2.length by ∎) ∎) q;refine kasC_pure {rfl,hs3,(l+r)/2+1,r,rfl,∎,∎,∎,λi h1=>?_,a5};by_cases z:i=(l+r)/2
     .rw[z];exact q'
     .exact c.o.tr _ _ _ (up _ _ ∎ ∎) q'
  case b2=>
   rintro c st'' s2 ⟨rfl,hs2,l,r,rfl,a1,a2,a3,a4,a5⟩;exact{rfl,hs2,l,r,rfl,∎,a4,λi h1 h2=>a5 i ∎ h2}
  case d2=>
   rintro c st'' s2 ⟨rfl,hs2,l,r,rfl,lk,a4,a5⟩;dsimp only;let hkl:F.length+k<(F++r2).length:=by rw[List.length_append];∎
   refine kasC_bind (ts_mov ha2 (Nat.add_le_add_left lk _) hkl ?_);let hk3:k<r2.length:=∎
   let e:(F++r2).take (F.length+l)++((F++r2)[F.length+k]::(((F++r2).drop (F.length+l)).take (F.length+k-(F.length+l))++(F++r2).drop (F.length+k+1)))=F++(r2.take l++(r2[k]::((r2.drop l).take (k-l)++r2.drop (k+1)))):=by
    let e1:(F++r2).take (F.length+l)=F++r2.take l:=by rw[List.take_append,gD ∎,Nat.add_sub_cancel_left]
    let e2:∀j,(F++r2).drop (F.length+j)=r2.drop j:=λj=>by rw[<-List.drop_drop,List.drop_left'];rfl
    let e3:(F++r2)[F.length+k]=r2[k]:=by rw[List.getElem_append_right ∎];congr 1;∎
    rw[e1,e2 l,Nat.add_assoc,e2 (k+1),e3,show F.length+k-(F.length+l)=k-l by ∎,List.append_assoc]
   rw[e];let sp:r2=r2.take l++((r2.drop l).take (k-l)++(r2[k]::r2.drop (k+1))):=by
    conv=>lhs;rw[<-List.take_append_drop l r2]
    congr 1
    let e1:r2.drop l=(r2.drop l).take (k-l)++(r2.drop l).drop (k-l):=(List.take_append_drop _ _).symm;rw[List.drop_drop,show l+(k-l)=k by ∎,List.drop_eq_getElem_cons hk3]at e1;exact e1
   let pn:(r2.take l++(r2[k]::((r2.drop l).take (k-l)++r2.drop (k+1)))).Perm r2:=by
    conv=>rhs;rw[sp]
    exact List.Perm.append_left _ List.perm_middle.symm
   refine kasC_pure {hs2,rfl,_,rfl,pn.trans pr, ?_};let e5:(r2.take l++(r2[k]::((r2.drop l).take (k-l)++r2.drop (k+1)))).take (k+1)=r2.take l++(r2[k]::(r2.drop l).take (k-l)):=by
    let l1:(r2.take l++(r2[k]::(r2.drop l).take (k-l))).length=k+1:=by rw[List.length_append,mN,mJ,mJ,List.length_drop];∎
    rw[show r2.take l++(r2[k]::((r2.drop l).take (k-l)++r2.drop (k+1)))=(r2.take l++(r2[k]::(r2.drop l).take (k-l)))++r2.drop (k+1) by rw[List.append_assoc,List.cons_append]];exact List.take_left' l1
   rw[e5];let ek:r2[k]=r2.getD k 0:=by simp [uT,hk3]
   let pk':(r2.take l++(r2.drop l).take (k-l)).Pairwise (Rl lt):=by rw[<-wU lk];exact pk
   let pp:=List.pairwise_append.mp pk';refine List.pairwise_append.mpr {pp.1,List.pairwise_cons.mpr {λb hb'=>?_,pp.2.1},λa ha' b hb'=>?_}
   .obtain⟨j,j1,j2,j3,rfl⟩:=yZ hb';rw[ek];exact a5 j j1 ∎
   .obtain⟨i,i1,i2,rfl⟩:=qG ha';rcases nI.mp hb' with rfl | hb'
    .rw[ek];exact a4 i i1
    .exact pp.2.2 _ ha' _ hb'
end
inductive PR:Nat->List (Nat×Nat×Nat)->List (List Nat)->Prop
 | nil {o:Nat} :PR o [] []
 | cons {o:Nat} {b:List Nat} {q:Nat} {p:List (Nat×Nat×Nat)} {bs:List (List Nat)} (h:PR (o+b.length) p bs):PR o ((o,b.length,q)::p) (b::bs)
theorem PR.len:∀{o:Nat} {p:List (Nat×Nat×Nat)} {bs:List (List Nat)},PR o p bs->p.length=bs.length
 | _,_,_,.nil=>rfl
 | _,_,_,.cons h=>by rw[mN,mN,h.len]
theorem PR.two{a b c:List Nat}{B2:List (List Nat)}(hc:c.length=a.length+b.length):∀{B1:List (List Nat)} {o:Nat} {p:List (Nat×Nat×Nat)},PR o p (B1++a::b::B2)->∃q1 q2,p[B1.length]? = some (o+B1.flatten.length,a.length,q1)/\p[B1.length+1]? = some (o+B1.flatten.length+a.length,b.length,q2)/\
  PR o ((p.set B1.length (o+B1.flatten.length,a.length+b.length,q1)).eraseIdx (B1.length+1)) (B1++c::B2)
 | [],o,_,.cons (q:=q1) (.cons (q:=q2) h)=>by
  refine{q1,q2,rfl,rfl, ?_};show PR o ((o+0,a.length+b.length,q1)::_) (c::B2);rw[<-hc];refine .cons ?_;rw[hc,<-Nat.add_assoc];exact h
 | d::B1,o,_,.cons (q:=q) h=>by
  obtain⟨q1,q2,h1,h2,h3⟩:=PR.two hc (B1:=B1) h;let e:o+(d::B1).flatten.length=o+d.length+B1.flatten.length:=by rw[List.flatten_cons,List.length_append,Nat.add_assoc]
  rw[e];exact{q1,q2,h1,h2,.cons h3}
theorem PR.snoc{b:List Nat}{q:Nat} :∀{bs:List (List Nat)} {o:Nat} {p:List (Nat×Nat×Nat)},PR o p bs->PR o (p++[(o+bs.flatten.length,b.length,q)]) (bs++[b])
 | [],_,_,.nil=>.cons .nil
 | d::bs,o,_,.cons h=>by
  let:=h.snoc (b:=b) (q:=q);rw[List.flatten_cons,List.length_append,<-Nat.add_assoc];exact .cons this
theorem PR.mod{f:Nat×Nat×Nat->Nat×Nat×Nat}(hf:∀x,(f x).1=x.1/\(f x).2.1=x.2.1):∀{bs:List (List Nat)} {o:Nat} {p:List (Nat×Nat×Nat)} (i:Nat),PR o p bs->PR o (p.modify i f) bs
 | _,_,_,i,.nil=>by rw[List.modify_nil];exact .nil
 | _,_,_,0,.cons (o:=o) (b:=b) (q:=q) h=>by
  rw[List.modify_zero_cons];let:=hf (o,b.length,q);rw[show f (o,b.length,q)=(o,b.length,(f (o,b.length,q)).2.2)from Prod.ext this.1 (Prod.ext this.2 rfl)];exact .cons h
 | _,_,_,i+1,.cons h=>by
  rw[List.modify_succ_cons];exact .cons (PR.mod hf i h)
section
variable{it:Array Keyed}
theorem kA_set(A X:List Nat)(x z n:Nat)(h:n=A.length):(kA it (A++x::X)).setIfInBounds n (kas_item it z)=kA it (A++z::X):=by
 apply Array.toList_inj.mp;subst h;simp [kA,List.set_append_right]
theorem RH:∀(zs X A C:List Nat) (n off:Nat),X.length=zs.length->off+n=A.length->((zs.map (kas_item it)).zipIdx n).foldl (λa (p:Keyed×Nat)=>a.setIfInBounds (off+p.2) p.1) (kA it (A++(X++C)))=kA it (A++(zs++C))
 | [],X,A,C,n,off,hx,ho=>by
  rw[List.length_eq_zero_iff.mp hx]
  rfl
 | z::zs,x::X,A,C,n,off,hx,ho=>by
  rw[nH,List.zipIdx_cons,List.foldl_cons];show List.foldl _ ((kA it (A++(x::(X++C)))).setIfInBounds (off+n) (kas_item it z)) _=_;rw[kA_set A (X++C) x z (off+n) ho];let:=RH zs X (A++[z]) C (n+1) off (by simpa using hx) (by rw[List.length_append];show _=_+1;∎);rw[List.append_assoc,List.append_assoc]at this;exact this
end
theorem YT{E:Value->Shared->Prop}{O:Type}{st st':O}{Q:PUnit->O->Shared->Prop}(h:Q ⟨⟩ st' s):kasC M A E (set st':StateT O Sem PUnit) Q st s:=by
 unfold kasC;rw[StateT.run_set];exact tL h
local macro_rules | `(tactic| trivial)=>do
 let n (s:String):=Lean.mkIdent (.str (.str (.str (.num (.str (.str (.str (.str (.str .anonymous "_private") "PySem") "Builtin") "List") "W1All") 0) "PySem") "Builtin") s)
 `(tactic| first | unfold $(n "gallop") | unfold $(n "mergeLo") | unfold $(n "mergeHi") | unfold $(n "mergeAt") | unfold $(n "setMinGallop"))
section
variable{prog:Program}{w:World}{A:Around}{E:Value->Shared->Prop}{Y:SortKind}{it:Array Keyed}{N:Nat}{lt:Nat->Nat->Bool}{Iv:Shared->Prop}{st:SortSt}{s:Shared}
theorem KY(P a S:List Nat)(i:Nat)(h:i<a.length):(P++(a++S)).getD (P.length+i) 0=a.getD i 0:=by
 rw[EB,uT,uT,uX h]
theorem CQ(ps:List Nat)(k:Nat):ps.toArray.getD k 0=ps.getD k 0:=by simp [Array.getD_eq_getD_getElem?,uT]
theorem RP(P a S:List Nat)(i j:Nat)(hi:i<=j)(hj:j<=a.length):(kA it (P++(a++S))).extract (P.length+i) (P.length+j)=kA it ((a.drop i).take (j-i)):=by
 rw[zU,<-List.drop_drop,List.drop_left' rfl,List.drop_append_of_le_length ∎,List.take_append_of_le_length (by rw[List.length_drop];∎),show P.length+j-(P.length+i)=j-i by ∎]
theorem ts_at(c:Cmp prog w A Y it N lt Iv){Q:Bool->SortSt->Shared->Prop}{B1 B2:List (List Nat)}{a b rest:List Nat}(hA:arrOf st=kA it ((B1++a::b::B2).flatten++rest))(hk:kindOf st=Y)(hf:failedOf st=none)(hP:PR 0 (pendingOf st).toList (B1++a::b::B2))
  (nd:((B1++a::b::B2).flatten++rest).Nodup) (bd:∀z∈(B1++a::b::B2).flatten++rest,z<N) (pa:a.Pairwise (Rl lt)) (pb:b.Pairwise (Rl lt)) (a0:0<a.length) (b0:0<b.length) (hs:Iv s)
  (h:∀cc st' s',Iv s'->cc.Perm (a++b)->cc.Pairwise (Rl lt)->arrOf st'=kA it ((B1++cc::B2).flatten++rest)->kindOf st'=Y->failedOf st'=none->PR 0 (pendingOf st').toList (B1++cc::B2)->Q true st' s'):kasC #[3] A E (mergeAt' B1.length) Q st s:=by
 let fl:∀cc:List Nat,(B1++cc::B2).flatten++rest=B1.flatten++(cc++(B2.flatten++rest)):=λcc=>by simp
 let e0:(B1++a::b::B2).flatten++rest=B1.flatten++(a++(b++(B2.flatten++rest))):=by simp
 rw[e0]at hA nd bd;let hc2:∀cc:List Nat,cc.Perm (a++b)->cc.length=a.length+b.length:=λcc p=>by rw[p.length_eq,List.length_append]
 let g:MG N lt a b:=⟨c.o,by
  let:=(mH.mp nd).2.1;rw[<-List.append_assoc]at this;exact(mH.mp this).1,λz hz=>bd z (gH _ (by rw[<-List.append_assoc];exact List.mem_append_left _ hz)),pa,pb⟩
 generalize hPe:B1.flatten=P at hA nd bd fl;generalize B2.flatten++rest=S at hA nd bd fl;obtain⟨q1,q2,h1,h2,-⟩:=PR.two (c:=a++b) (List.length_append) hP;rw[hPe,Nat.zero_add]at h1 h2;rw[Array.getElem?_toList]at h1 h2;let done:∀(cc:List Nat) (arr:Array Keyed) (g':Nat) (s':Shared),Iv s'->cc.Perm (a++b)->cc.Pairwise (Rl lt)->arr=kA it (P++(cc++S))->Q true (SortSt.mk' (kindOf st) arr (((pendingOf st).setIfInBounds B1.length (P.length,a.length+b.length,q1)).eraseIdxIfInBounds (B1.length+1)) g' (failedOf st)) s':=λcc arr g' s' hs' pc pw ea=>by
  obtain⟨q1',q2',h1',h2',h3⟩:=PR.two (c:=cc) (hc2 cc pc) hP;rw[hPe,Nat.zero_add]at h1' h3;rw[Array.getElem?_toList,h1]at h1';injection h1' with h1'
  injection h1' with _ h1'
  injection h1' with _ h1'
  subst h1';refine h cc _ s' hs' pc pw (ea.trans (by rw[fl])) hk hf ?_;let ep:(((pendingOf st).setIfInBounds B1.length (P.length,a.length+b.length,q1)).eraseIdxIfInBounds (B1.length+1)).toList=((pendingOf st).toList.set B1.length (P.length,a.length+b.length,q1)).eraseIdx (B1.length+1):=by simp
  show PR 0 (((pendingOf st).setIfInBounds B1.length (P.length,a.length+b.length,q1)).eraseIdxIfInBounds (B1.length+1)).toList _;rw[ep];exact h3
 unfold mergeAt'
 trivial
 refine kasC_bind (kasC_get ?_);dsimp only;rw[h1,h2];dsimp only;refine kasC_bind (YT ?_);let hk1:∀{arr:Array Keyed} {pn:Array (Nat×Nat×Nat)} {g':Nat},kindOf (SortSt.mk' (kindOf st) arr pn g' (failedOf st))=Y:=fun {_ _ _} =>hk;let ea:∀i,i<a.length->(P++(a++(b++S))).getD (P.length+i) 0=a.getD i 0:=λi hi=>KY P a (b++S) i hi;let eb:∀i,i<b.length->(P++(a++(b++S))).getD (P.length+a.length+i) 0=b.getD i 0:=λi hi=>by
  let:=KY (P++a) b S i hi
  rwa [List.append_assoc,List.length_append]at this
 let lenE:(P++(a++(b++S))).length=P.length+a.length+b.length+S.length:=by simp only[List.length_append];∎
 let extA:∀k,k<=a.length->(kA it (P++(a++(b++S)))).extract (P.length+k) (P.length+a.length)=kA it (a.drop k):=λk hk=>by
  rw[RP P a (b++S) k a.length hk uP,gD (by rw[List.length_drop];∎)]
 let extB:∀r,r<=b.length->(kA it (P++(a++(b++S)))).extract (P.length+a.length) (P.length+a.length+r)=kA it (b.take r):=λr hr=>by
  let:=RP (it:=it) (P++a) b S 0 r (tF _) hr
  rwa [List.append_assoc,List.length_append,nZ,List.drop_zero,Nat.sub_zero]at this
 let back:∀(k r:Nat) (zs:List Nat),k<=a.length->r<=b.length->zs.length=(a.drop k++b.take r).length->(kA it zs).toList.zipIdx.foldl (λ(x:Array Keyed) (p:Keyed×Nat)=>x.setIfInBounds (P.length+k+p.2) p.1) (kA it (P++(a++(b++S))))=kA it (P++((a.take k++(zs++b.drop r))++S)):=λk r zs hk hr hz=>by
  let q:=RH (it:=it) zs (a.drop k++b.take r) (P++a.take k) (b.drop r++S) 0 (P.length+k) hz.symm (by rw[List.length_append,mJ];∎);let e1:P++a.take k++(a.drop k++b.take r++(b.drop r++S))=P++(a++(b++S)):=by
   conv=>rhs;rw[<-List.take_append_drop k a,<-List.take_append_drop r b]
   simp only[List.append_assoc]
  let e2:P++a.take k++(zs++(b.drop r++S))=P++((a.take k++(zs++b.drop r))++S):=by simp only[List.append_assoc]
  rw[e1,e2]at q;rw[<-q];let e3:(kA it zs).toList=zs.map (kas_item it):=by simp [kA]
  rw[e3]
 generalize hps:P++(a++(b++S))=ps at hA bd ea eb lenE extA extB back;let bN:∀i,i<ps.toArray.size->ps.toArray.getD i 0<N:=λi hi=>by rw[CQ];exact bd _ (vJ (by simpa using hi))
 let aN:∀{i},i<a.length->a.getD i 0<N:=λhi=>g.xN hi;let hA':(sortPriv% PySem.Builtin.SortState.a) st=kA it ps:=hA;rw[hA'];refine kasC_bind (vA ∎ ?_);let eb0:=eb 0 b0;rw[nZ]at eb0;rw[eb0];let bA:∀i,i<a.length->bey lt false (b.getD 0 0) ps.toArray P.length i = !lt (b.getD 0 0) (a.getD i 0):=λi hi=>by
  show(!lt (b.getD 0 0) (ps.toArray.getD (P.length+i) 0))=_;rw[CQ,ea i hi]
 let bB:∀i,i<b.length->bey lt true (a.getD (a.length-1) 0) ps.toArray (P.length+a.length) i=lt (b.getD i 0) (a.getD (a.length-1) 0):=λi hi=>by
  show lt (ps.toArray.getD (P.length+a.length+i) 0) (a.getD (a.length-1) 0)=_;rw[CQ,eb i hi]
 let szE:ps.toArray.size=P.length+a.length+b.length+S.length:=by rw[mC];exact lenE
 refine kasC_bind ?_;rw[wP];refine wA c hk1 (g.yN b0) bN (by rw[szE];∎) a0 hs (λi j hij hj hq=>?_) λk s2 hs2 k1 k2 k3=>?_
 .rw[bA j hj]at hq;rw[bA i ∎];cases q:lt (b.getD 0 0) (a.getD i 0)with
  | false=>rfl
  | true=>
   by_cases z:i=j
   .rw[<-z,q]at hq;exact hq
   .rw[c.o.tr _ _ _ q (qO pa ∎ hj)]at hq;exact hq
 rw[<-wP];dsimp only;let k2:∀i,i<k->∀j,j<b.length->lt (a.getD i 0) (b.getD j 0)=true:=λi hi j hj=>by
  let q:=k2 i hi;rw[bA i ∎]at q;let q:=g.ab (i:=i) (j:=0) ∎ b0 (by simpa using q);by_cases z:j=0
  .rw[z];exact q
  .exact c.o.tr _ _ _ q (qO pb ∎ hj)
 let k3:∀i,k<=i->i<a.length->lt (b.getD 0 0) (a.getD i 0)=true:=λi h1 h2=>by
  let q:=k3 i h1 h2;rw[bA i h2]at q;simpa using q
 by_cases c1:a.length-k=0
 .rw[tO (beq_iff_eq.mpr c1)];refine kasC_pure (done (a++b) _ (gallopOf st) s2 hs2 (List.Perm.refl _) (List.pairwise_append.mpr {pa,pb,λx hx y hy=>?_}) (by rw[<-hps,List.append_assoc]));obtain⟨i,i1,i2,rfl⟩:=kS (xs:=a) (i:=0) (z:=x) (by rwa [List.drop_zero]);obtain⟨j,j1,j2,rfl⟩:=kS (xs:=b) (i:=0) (z:=y) (by rwa [List.drop_zero]);exact k2 i ∎ j j2
 rw[tN (λz=>c1 #[35]),show P.length+k+(a.length-k)-1=P.length+(a.length-1) by ∎];refine kasC_bind (vA ∎ ?_);rw[ea _ ∎];refine kasC_bind ?_;rw[wP];refine wA c hk1 (aN ∎) bN (by rw[szE];∎) ∎ hs2 (λi j hij hj hq=>?_) λr s3 hs3 r1 r2 r3=>?_
 .rw[bB j hj]at hq;rw[bB i ∎];by_cases z:i=j
  .rw[z];exact hq
  .exact c.o.tr _ _ _ (qO pb ∎ hj) hq
 rw[<-wP];dsimp only;let r2:∀i,i<r->lt (b.getD i 0) (a.getD (a.length-1) 0)=true:=λi hi=>by
  let q:=r2 i hi
  rwa [bB i ∎]at q
 let r3:∀i,r<=i->i<b.length->lt (a.getD (a.length-1) 0) (b.getD i 0)=true:=λi h1 h2=>by
  let q:=r3 i h1 h2;rw[bB i h2]at q;exact g.ab ∎ h2 q
 let rp:r≠0:=λz=>by
  let q1:=k3 (a.length-1) ∎ ∎;let q2:=r3 0 ∎ b0;rw[c.o.as _ _ q1]at q2;cases q2
 rw[tN (λz=>rp #[35]),extA k k1,extB r r1];let gd:∀i,(a.drop k).getD i 0=a.getD (k+i) 0:=λi=>by rw[uT,uT,List.getElem?_drop]
 let gt:∀i,i<r->(b.take r).getD i 0=b.getD i 0:=λi hi=>by rw[uT,uT,List.getElem?_take,tO hi]
 let ld:(a.drop k).length=a.length-k:=List.length_drop;let lt':(b.take r).length=r:=by rw[mJ];∎
 let g2:MG N lt (a.drop k) (b.take r):=⟨c.o,g.nd.sublist ((List.drop_sublist k a).append (List.take_sublist r b)),λz hz=>g.bd z (by
  rcases mV.mp hz with hz | hz
  .exact List.mem_append_left _ (List.mem_of_mem_drop hz)
  .exact gH _ (gT hz)),pa.sublist (List.drop_sublist k a),pb.sublist (List.take_sublist r b)⟩
 let h0:lt ((b.take r).getD 0 0) ((a.drop k).getD 0 0)=true:=by
  rw[gt 0 ∎,gd,nZ];exact k3 k uP ∎
 let hl:∀j,j<(b.take r).length->lt ((b.take r).getD j 0) ((a.drop k).getD ((a.drop k).length-1) 0)=true:=λj hj=>by
  rw[gt j ∎,gd,ld,show k+(a.length-k-1)=a.length-1 by ∎];exact r2 j ∎
 let fin:∀zs g' s4,Iv s4->MF lt (a.drop k) (b.take r) zs->kasC #[3] A E (do
   modify λs=>setArr s (List.foldl (λa x=>a.setIfInBounds (P.length+k+x.snd) x.fst) (arrOf s) (kA it zs).toList.zipIdx)
   let __do_lift<-get
   pure (failedOf __do_lift).isNone) Q (qI (SortSt.mk' (kindOf st) (kA it ps) (((pendingOf st).setIfInBounds B1.length (P.length,a.length+b.length,q1)).eraseIdxIfInBounds (B1.length+1)) (gallopOf st) (failedOf st)) g') s4:=λzs g' s4 hs4 mf=>by
  refine kasC_bind (kasC_modify (kasC_bind (kasC_get ?_)));let ef:(failedOf st).isNone=true:=by rw[hf];rfl
  refine kasC_pure ?_;show Q (failedOf st).isNone (SortSt.mk' (kindOf st) (List.foldl (λa x=>a.setIfInBounds (P.length+k+x.snd) x.fst) (kA it ps) (kA it zs).toList.zipIdx) _ g' (failedOf st)) s4;rw[ef,back k r zs k1 r1 mf.pm.length_eq];let inb:∀x,x∈b.take r->∃j,j<r/\x=b.getD j 0:=λx hx=>by
   obtain⟨j,j1,j2,e⟩:=qG hx;exact{j,j1,(e)}
  refine done _ _ g' s4 hs4 ?_ ?_ rfl
  .refine List.Perm.trans (List.Perm.append_left _ (List.Perm.append_right _ mf.pm)) ?_
   conv=>rhs;rw[<-List.take_append_drop k a,<-List.take_append_drop r b]
   simp only[List.append_assoc];exact List.Perm.refl _
  .refine List.pairwise_append.mpr {pa.sublist (List.take_sublist k a),List.pairwise_append.mpr {mf.pw,pb.sublist (List.drop_sublist r b),λx hx y hy=>?_},λx hx y hy=>?_}
   .obtain⟨j,j1,j2,rfl⟩:=kS hy;rcases mV.mp (mf.pm.mem_iff.mp hx)with hx | hx
    .obtain⟨i,i1,i2,rfl⟩:=kS hx;by_cases z:i=a.length-1
     .rw[z];exact r3 j j1 j2
     .exact c.o.tr _ _ _ (qO pa (i:=i) (j:=a.length-1) ∎ ∎) (r3 j j1 j2)
    .obtain⟨i,i1,rfl⟩:=inb x hx;exact qO pb ∎ j2
   .obtain⟨i,i1,i2,rfl⟩:=qG hx;rcases mV.mp hy with hy | hy
    .rcases mV.mp (mf.pm.mem_iff.mp hy)with hy | hy
     .obtain⟨j,j1,j2,rfl⟩:=kS hy;exact qO pa ∎ j2
     .obtain⟨j,j1,rfl⟩:=inb y hy;exact k2 i i1 j ∎
    .obtain⟨j,j1,j2,rfl⟩:=kS hy;exact k2 i i1 j j2
 split
 .exact kasC_bind (ts_lo c g2 hk1 ∎ ∎ h0 hl hs3 fin)
 .exact kasC_bind (ts_hi c g2 hk1 ∎ ∎ h0 hl hs3 fin)
end
structure RI(it:Array Keyed)(Y:SortKind)(lt:Nat->Nat->Bool)(ps:List Nat)(bs:List (List Nat))(rest:List Nat)(st:SortSt):Prop where
 ar:arrOf st=kA it (bs.flatten++rest)
 kd:kindOf st=Y
 fl:failedOf st=none
 pr:PR 0 (pendingOf st).toList bs
 pm:(bs.flatten++rest).Perm ps
 pw:∀b∈bs,b.Pairwise (Rl lt)
 ne:∀b∈bs,0<b.length
section
variable{prog:Program}{w:World}{A:Around}{E:Value->Shared->Prop}{Y:SortKind}{it:Array Keyed}{N:Nat}{lt:Nat->Nat->Bool}{Iv:Shared->Prop}{st:SortSt}{s:Shared}{ps rest:List Nat}{bs:List (List Nat)}
theorem RI.size(h:RI it Y lt ps bs rest st):(pendingOf st).size=bs.length:=by rw[<-Array.length_toList];exact h.pr.len
theorem RI.merge(h:RI it Y lt ps bs rest st)(c:Cmp prog w A Y it N lt Iv)(nd:ps.Nodup)(bd:∀z∈ps,z<N){i:Nat}(hi:i+1<bs.length){Q:Bool->SortSt->Shared->Prop}(hs:Iv s)
  (go:∀bs' st' s',Iv s'->RI it Y lt ps bs' rest st'->bs'.length+1=bs.length->bs'.flatten.length=bs.flatten.length->Q true st' s'):kasC #[3] A E (mergeAt' i) Q st s:=by
 obtain⟨B1,a,b,B2,rfl,rfl⟩:∃B1 a b B2,bs=B1++a::b::B2/\B1.length=i:=by
  refine{bs.take i,bs[i],bs[i+1],bs.drop (i+2), ?_,by rw[mJ];∎}
  conv=>lhs;rw[<-List.take_append_drop i bs]
  congr 1
  rw[List.drop_eq_getElem_cons ∎,List.drop_eq_getElem_cons hi]
 refine ts_at c h.ar h.kd h.fl h.pr (h.pm.nodup_iff.mpr nd) (λz hz=>bd z (h.pm.mem_iff.mp hz)) (h.pw a #[14]) (h.pw b #[14]) (h.ne a #[14]) (h.ne b #[14]) hs λcc st' s' hs' pc pw' ar kd fl pr=>?_;let lc:cc.length=a.length+b.length:=by rw[pc.length_eq,List.length_append]
 let pf:(B1++cc::B2).flatten.Perm (B1++a::b::B2).flatten:=by
  simp only[List.flatten_append,List.flatten_cons];refine List.Perm.append_left _ ?_;rw[<-List.append_assoc];exact List.Perm.append_right _ pc
 refine go (B1++cc::B2) st' s' hs' {ar,kd,fl,pr,(List.Perm.append_right _ pf).trans h.pm,λx hx=>?_,λx hx=>?_} (by simp only[List.length_append,mN];∎) pf.length_eq
 .rcases mV.mp hx with hx | hx
  .exact h.pw x (List.mem_append_left _ hx)
  .rcases nI.mp hx with rfl | hx
   .exact pw'
   .exact h.pw x (by simp [hx])
 .rcases mV.mp hx with hx | hx
  .exact h.ne x (List.mem_append_left _ hx)
  .rcases nI.mp hx with rfl | hx
   .have:=h.ne a #[14]
    ∎
   .exact h.ne x (by simp [hx])
theorem RI.push(h:RI it Y lt ps bs rest st){n:Nat}(n1:1<=n)(n2:n<=rest.length)(p:(rest.take n).Pairwise (Rl lt)):RI it Y lt ps (bs++[rest.take n]) (rest.drop n) (setPending st ((pendingOf st).push (bs.flatten.length,n,0))):=by
 let e:(bs++[rest.take n]).flatten++rest.drop n=bs.flatten++rest:=by simp [List.flatten_append]
 let ln:(rest.take n).length=n:=by rw[mJ];∎
 refine{?_,h.kd,h.fl, ?_, ?_,λb hb=>?_,λb hb=>?_}
 .rw[e];exact h.ar
 .have:=h.pr.snoc (b:=rest.take n) (q:=0);rw[Nat.zero_add,ln]at this;show PR 0 ((pendingOf st).push (bs.flatten.length,n,0)).toList _;rw[Array.toList_push];exact this
 .rw[e];exact h.pm
 .rcases mV.mp hb with hb | hb
  .exact h.pw b hb
  .rw[hJ.mp hb];exact p
 .rcases mV.mp hb with hb | hb
  .exact h.ne b hb
  .rw[hJ.mp hb,ln];exact n1
theorem RI.mod(h:RI it Y lt ps bs rest st)(i pw:Nat):RI it Y lt ps bs rest (setPending st ((pendingOf st).modify i λx=>(x.fst,x.2.fst,pw))):=by
 refine{h.ar,h.kd,h.fl, ?_,h.pm,h.pw,h.ne};show PR 0 ((pendingOf st).modify i λx=>(x.fst,x.2.fst,pw)).toList _;rw[Array.toList_modify];exact PR.mod (f:=λx=>(x.fst,x.2.fst,pw)) (λx=>{rfl,(rfl)}) i h.pr
theorem RI.arr(h:RI it Y lt ps bs rest st){r2:List Nat}(p:r2.Perm rest):RI it Y lt ps bs r2 (setArr st (kA it (bs.flatten++r2))):={rfl,h.kd,h.fl,h.pr,(List.Perm.append_left _ p).trans h.pm,h.pw,h.ne}
theorem RI.len(h:RI it Y lt ps bs rest st):bs.flatten.length+rest.length=ps.length:=by rw[<-List.length_append];exact h.pm.length_eq
theorem RI.few(h:RI it Y lt ps bs rest st):bs.length<=ps.length:=by
 let key:∀bs:List (List Nat),(∀b∈bs,0<b.length)->bs.length<=bs.flatten.length:=λbs=>by
  induction bs with
  | nil=>intro _;exact tE 0
  | cons b bs ih=>
   intro hb;let:=ih λx hx=>hb x (gM _ hx);let:=hb b (hU ..);rw[mN,List.flatten_cons,List.length_append]
   ∎
 let:=key bs h.ne;let:=h.len
 ∎
theorem ts_runs(c:Cmp prog w A Y it N lt Iv){Q:Unit->SortSt->Shared->Prop}(hA:arrOf st=kA it ps)(hk:kindOf st=Y)(hf:failedOf st=none)(hp:pendingOf st = #[])(nd:ps.Nodup)(bd:∀z∈ps,z<N)(hs:Iv s)
  (h:∀qs st' s',Iv s'->qs.Perm ps->qs.Pairwise (Rl lt)->arrOf st'=kA it qs->failedOf st'=none->Q () st' s'):kasC #[3] A E sortRuns' Q st s:=by
 rw[sortRuns'_eq];refine kasC_bind (kasC_get ?_);dsimp only;rw[hA,qT];generalize minRun' ps.length ps.length 0=mr;refine kasC_bind (kJ (kX (λx c st' s'=>∃bs rest,c=(none,bs.flatten.length)/\Iv s'/\RI it Y lt ps bs rest st'/\x<=bs.flatten.length)
  (Q:=λc st' s'=>∃bs lo,c=(none,lo)/\Iv s'/\RI it Y lt ps bs [] st') ?a ?b {[],ps,rfl,hs,{hA,hk,hf,by rw[hp];exact .nil,List.Perm.refl _,λ_ h=>(nomatch h),λ_ h=>(nomatch h)},tE _}) ?d)
 case b=>
  rintro c st' s' ⟨bs,rest,rfl,hs',r,hx⟩;let:=r.len;let e:rest=[]:=List.length_eq_zero_iff.mp ∎;subst e;exact{bs,_,rfl,hs',r}
 case a=>
  rintro x c st' s' _ _ ⟨bs,rest,rfl,hs',r,hx⟩;let rl:=r.len;dsimp only;by_cases e0:bs.flatten.length ≥ ps.length
  .rw[tO e0];let e:rest=[]:=List.length_eq_zero_iff.mp ∎;subst e;exact kasC_pure {bs,_,rfl,hs',r}
  rw[tN e0,show ps.length-bs.flatten.length=rest.length by ∎];let ndr:(bs.flatten++rest).Nodup:=r.pm.nodup_iff.mpr nd;let bdr:∀z∈bs.flatten++rest,z<N:=λz hz=>bd z (r.pm.mem_iff.mp hz);refine kasC_bind (VQ c r.ar r.kd bdr (mH.mp ndr).2.1 ∎ hs' λn r2 s2 hs2 n1 n2 p2 w2=>?_);let q2:=r.arr p2;let l2:=p2.length_eq;let bd2:∀z∈bs.flatten++r2,z<N:=λz hz=>bd z (q2.pm.mem_iff.mp hz);dsimp only;by_cases e1:n<mr
  case' pos=>
   rw[tO e1];refine kasC_bind (kasC_lift (wpAny_rule ?_));refine kasC_bind (ts_bin c q2.ar q2.kd bd2 (p2.nodup_iff.mpr (mH.mp ndr).2.1) n1 ∎ ∎ w2 hs2 λr3 s3 hs3 p3 w3=>?_);let q3:=q2.arr p3;let l3:=p3.length_eq;let n31:1<=min rest.length mr:=∎
   let n32:min rest.length mr<=r3.length:=∎
   rw[tN #[0]]
  case' neg=>
   let q3:=q2;let n31:=n1;let n32:n<=r2.length:=∎
   let w3:=w2;let hs3:=hs2;rw[tN e1]
  all_goals
   refine kasC_bind (kasC_get ?_);split
   .refine kasC_bind (kJ (kX (λ_ c st'' s''=>c=(none,())/\Iv s''/\∃bs',RI it Y lt ps bs' _ st''/\bs'.flatten.length=bs.flatten.length)
     (Q:=λc st'' s''=>c=(none,())/\Iv s''/\∃bs',RI it Y lt ps bs' _ st''/\bs'.flatten.length=bs.flatten.length) ?a2 (λ_ _ _ z=>z) {rfl,hs3,bs,q3,(rfl)}) ?d2)
    case a2=>
     rintro y c st'' s'' _ _ ⟨rfl,hs4,bs',q4,f4⟩;refine kasC_bind (kasC_get ?_);split
     .split
      .exact kasC_pure {rfl,hs4,bs',q4,(f4)}
      .rename_i hz _;let s4:=q4.size;let gt:1<bs'.length:=by
        rw[<-s4];by_cases g1:(pendingOf st'').size>1
        .exact g1
        .rw[tN g1]at hz;cases hz
       refine kasC_bind (q4.merge c nd bd ∎ hs4 λbs5 st5 s5 hs5 q5 l5 f5=>?_);rw[tN #[0]];exact kasC_pure {rfl,hs5,bs5,q5,f5.trans f4}
     .exact kasC_pure {rfl,hs4,bs',q4,(f4)}
    case d2=>
     rintro c st'' s'' ⟨rfl,hs4,bs',q4,f4⟩;dsimp only;refine kasC_bind (kasC_modify (kasC_bind (kasC_modify (kasC_pure ?_))));refine{_,_, ?_,hs4,f4▸(q4.mod ((pendingOf st'').size-1) _).push n31 n32 w3, ?_}
     .rw[List.flatten_append,List.length_append,f4]
      congr 2
      simp only[List.flatten_cons,List.flatten_nil,List.append_nil,mJ]
      ∎
     .rw[List.flatten_append,List.length_append,f4];simp only[List.flatten_cons,List.flatten_nil,List.append_nil,mJ]
      ∎
   .refine kasC_bind (kasC_modify (kasC_pure ?_));refine{_,_, ?_,hs3,q3.push n31 n32 w3, ?_}
    .rw[List.flatten_append,List.length_append]
     congr 2
     simp only[List.flatten_cons,List.flatten_nil,List.append_nil,mJ]
     ∎
    .rw[List.flatten_append,List.length_append];simp only[List.flatten_cons,List.flatten_nil,List.append_nil,mJ]
     ∎
 case d=>
  rintro c st' s' ⟨bs,lo,rfl,hs',r⟩;dsimp only;refine kasC_bind (kJ (kX (λx c st'' s''=>c=(none,())/\Iv s''/\∃bs',RI it Y lt ps bs' [] st''/\bs'.length+x<=ps.length)
   (Q:=λc st'' s''=>c=(none,())/\Iv s''/\∃bs',RI it Y lt ps bs' [] st''/\bs'.length<=1) ?a3 ?b3 {rfl,hs',bs,r,(r.few)}) ?d3)
  case a3=>
   rintro y c st'' s'' _ _ ⟨rfl,hs4,bs',q4,f4⟩;refine kasC_bind (kasC_get ?_);let s4:=q4.size;split
   .exact kasC_pure {rfl,hs4,bs',q4,∎}
   .have ix:∀(p:Prop) [Decidable p],(if p then(pendingOf st'').size-2-1 else(pendingOf st'').size-2)+1<bs'.length:=λp _=>by split<;>∎
    refine kasC_bind (q4.merge c nd bd (ix _) hs4 λbs5 st5 s5 hs5 q5 l5 f5=>?_);rw[tN #[0]];exact kasC_pure {rfl,hs5,bs5,q5,∎}
  case b3=>
   rintro c st'' s'' ⟨rfl,hs4,bs',q4,f4⟩;exact{rfl,hs4,bs',q4,∎}
  case d3=>
   rintro c st'' s'' ⟨rfl,hs4,bs',q4,f4⟩;refine kasC_pure (h _ st'' s'' hs4 q4.pm ?_ q4.ar q4.fl);rw[List.append_nil]
   match bs',f4,q4 with
   | [],_,_=>exact .nil
   | [b],_,q4=>
    rw[show [b].flatten=b by simp];exact q4.pw b (hU ..)
end
def SortsBy(prog:Program)(w:World)(A:Around)(Y:SortKind)(vs:List Value)(R:List Nat->Shared->Prop)(s:Shared):Prop:=
 ∃(lt:Nat->Nat->Bool) (Iv:Shared->Prop),Cmp prog w A Y (pairsOf vs) vs.length lt Iv/\Iv s/\∀p s',Iv s'->p.Perm (List.range vs.length)->p.Pairwise (Rl lt)->R p s'
section
variable{prog:Program}{w:World}{A:Around}{E:Value->Shared->Prop}{Y:SortKind}{s:Shared}{vs:List Value}
theorem YU(it:Array Keyed):kA it (List.range it.size)=it:=by
 unfold kA;refine Array.ext #[14] λi h1 h2=>?_;simp [kas_item,Array.getD,h2]
theorem VP{R:List Nat->Shared->Prop}{Q:Unit->SortSt->Shared->Prop}(h:SortsBy prog w A Y vs R s)(q:∀p st' s',R p s'->p.length=vs.length->arrOf st'=kA (pairsOf vs) p->failedOf st'=none->Q () st' s'):kasC #[3] A E sortRuns' Q (SortSt.mk' Y (pairsOf vs) #[] 7 none) s:=by
 obtain⟨lt,Iv,c,hs,go⟩:=h;let e:kA (pairsOf vs) (List.range vs.length)=pairsOf vs:=by
  let:=YU (pairsOf vs)
  rwa [pairsOf_size]at this
 exact ts_runs c (ps:=List.range vs.length) e.symm rfl rfl rfl List.nodup_range (λz hz=>mX.mp hz) hs λqs st' s' hs' pm pw ar fl=>q qs st' s' (go qs s' hs' pm pw) (by rw[pm.length_eq,List.length_range]) ar fl
theorem snds(p:List Nat):(kA (pairsOf vs) p).map (·.2)=(p.map λi=>vs.getD i Value.none).toArray:=by
 apply Array.toList_inj.mp;rw[Array.toList_map];unfold kA;rw[nX];exact List.map_congr_left λi _=>by show(kas_item (pairsOf vs) i).2=_;rw[kas_item_eq]
variable{h₀:Heap}{L a D:Addr}{m:Str->Option Value}{news:List #[13]}
theorem ts_lsort{its:Array Value}{n:Nat}{g:Obj->List #[13]}{Q:Value->Shared->Prop}(F:Fr h₀ L s.heap m)(N:News h₀ L s.heap news)(U:UpdF D (listOf its n) news g)(he:its.toList=vs)(h2:2<=vs.length)(hz:vs.length<=sizeLine)
  (h:∀e1 h',Fr h₀ L h' m->News h₀ L h' (g (seqObj "list" #[] e1))->
   wpAny #[3] A.in1 (keyKind' vs.toArray) (fun Y s'=>SortsBy prog w A.in1 Y vs (λp s''=>KasFin h₀ L m D e1 (p.map λi=>vs.getD i Value.none) (λs3=>Q .none s3) s'') s') (λ_ _=>False) { s with heap:=h' }) :
  wpAny #[3] A (call (.builtin "list.sort") [.ref D]) Q E s:=by
 subst he;obtain⟨pre,post,en,eg,x1,x2⟩:=U.split;let at0:=N (D,listOf its n) (by rw[en];exact gH _ (.head _));let ho:s.heap.get? D=some (seqObj "list" its.toList.toArray n):=by rw[Array.toArray_toList];exact at0.1
 obtain⟨e1,ho1⟩:∃e1,#[65].get? D=some (seqObj "list" #[] e1):={_,get?_update_seq ho λ_=>#[]};let up:=Heap.SameBut.update s.heap D (Obj.mapSeq λ_=>(#[]:Array Value));let F1:=((kas_fr F up at0.2.1 at0.2.2).push (seqObj "tuple" its.toList.toArray 0)).push (seqObj "list" #[] 0);let N1:News h₀ L ((#[65].push (seqObj "tuple" its.toList.toArray 0)).push (seqObj "list" #[] 0)) (g (seqObj "list" #[] e1)):=λq hq=>by
  rw[eg]at hq;let old:∀b u,#[65].get? b=some u->((#[65].push (seqObj "tuple" its.toList.toArray 0)).push (seqObj "list" #[] 0)).get? b=some u:=λb u e=>gC _ (gC _ e);let keep:∀q,q∈pre∨q∈post->q.1≠D->((#[65].push (seqObj "tuple" its.toList.toArray 0)).push (seqObj "list" #[] 0)).get? q.1=some q.2/\q.1≠L/\h₀.get? q.1=none:=λq hq nd=>by
   let y:=N q (by
    rw[en];rcases hq with hq | hq
    .exact List.mem_append_left _ hq
    .exact gH _ (.tail _ hq))
   exact{old _ _ ((up.2 q.1 nd).trans y.1),y.2}
  rcases mV.mp hq with hq | hq
  .exact keep q (.inl hq) (x1 q hq)
  .rcases nI.mp hq with rfl | hq
   .exact{old _ _ ho1,at0.2}
   .exact keep q (.inr hq) (x2 q hq)
 let ask:=h e1 _ F1 N1;refine wpAny_call_entry slot_list_sort {_,at0.1,rfl} entry_list_sort ?_ (args_list_sort _);rw[list_sort_plain];refine tK (listItems_at ho rfl (tK (listUpdate_at ho rfl (tK (seqEpoch_at ho1 rfl (tK (wpAny_newTuple (tK (wpAny_newList (wpAny_holding ?_) (tF _))) hz)))) (by rw[mC];exact hz) (tF _))));let big:¬its.toList.toArray.size<2:=by rw[mC];∎
 dsimp only;rw[tN big,tN big];refine tK (tM ask (fun Y s1 hk=>?_) λ_ _ x=>x.elim);refine tK (tM (VP (E:=E) (Q:=λ_ st' s'=>∃p:List Nat,p.length=its.toList.length/\arrOf st'=kA (pairsOf its.toList) p/\failedOf st'=none/\KasFin h₀ L m D e1 #[37] (λs3=>Q .none s3) s') hk λp st' s' a b c d=>{p,b,c,d,(a)}) ?_ λ_ _ x=>x);rintro⟨⟨⟩,st'⟩ s2 ⟨p,hp,har,hf,news2,g2,F2,N2,U2,k⟩;dsimp only;obtain⟨pre2,post2,en2,eg2,y1,y2⟩:=U2.split;rw[en2]at N2;let at2:=N2 (D,seqObj "list" #[] e1) (gH _ (.head _));let out:(arrOf st').map (·.2)=List.toArray #[37]:=by rw[har,snds]
 let osz:(List.toArray #[37]).size<=sizeLine:=by rw[mC,mS,hp];exact hz
 rw[out];let up2:=Heap.SameBut.update s2.heap D (Obj.mapSeq λ_=>List.toArray #[37]);obtain⟨c2,hc2⟩:∃c2,(s2.heap.update D (Obj.mapSeq λ_=>List.toArray #[37])).get? D=some (seqObj "list" (List.toArray #[37]) c2):={_,get?_update_seq at2.1 λ_=>_};refine tK (seqEpoch_at at2.1 rfl (tK (listUpdate_at at2.1 rfl ?_ (tF _) (Nat.le_succ_of_le osz))));rw[hf];simp only[bne_self_eq_false,Bool.false_eq_true,if_false];refine tL {_,rfl,k _ c2 (kas_fr F2 up2 at2.2.1 at2.2.2) ?_};rw[eg2];exact news_set N2 y1 y2 up2 hc2
end
end LwR
namespace LwD
open PySem PySem.Spec PyProof.Rows L2 Lw
def qF:List Int->List Int->Bool
 | x::xs,y::ys=>if x=y then qF xs ys else decide (x<y)
 | [],_::_=>true
 | _,[]=>false
theorem QX:∀a b c:List Int,qF a b=true->qF b c=true->qF a c=true
 | [],[],_,h,_=>by simp [qF]at h
 | [],_::_,[],_,h=>by simp [qF]at h
 | [],_::_,_::_,_,_=>by simp [qF]
 | _::_,[],_,h,_=>by simp [qF]at h
 | _::_,_::_,[],_,h=>by simp [qF]at h
 | x::xs,y::ys,z::zs,h1,h2=>by
  let ih:=QX xs ys zs;simp only[qF]at h1 h2 ⊢;by_cases e1:x=y
  .subst e1;rw[tO rfl]at h1;by_cases e2:x=z
   .rw[tO e2]at h2 ⊢;exact ih h1 h2
   .rw[tN e2]at h2 ⊢;exact h2
  .rw[tN e1]at h1;let h1:=mG h1;by_cases e2:y=z
   .subst e2;rw[tN e1];exact mW h1
   .rw[tN e2]at h2;let h2:=mG h2;rw[tN ∎];exact mW ∎
theorem QY:∀a b:List Int,qF a b=true->qF b a=false
 | [],[],h=>by simp [qF]at h
 | [],_::_,_=>by simp [qF]
 | _::_,[],h=>by simp [qF]at h
 | x::xs,y::ys,h=>by
  let ih:=QY xs ys;simp only[qF]at h ⊢;by_cases e1:x=y
  .subst e1;rw[tO rfl]at h ⊢;exact ih h
  .rw[tN e1]at h;let h:=mG h;rw[tN ∎];exact mU ∎
theorem KO:∀a b:List Int,a≠b->qF a b=false->qF b a=true
 | [],[],n,_=>absurd rfl n
 | [],_::_,_,h=>by simp [qF]at h
 | _::_,[],_,_=>by simp [qF]
 | x::xs,y::ys,n,h=>by
  let ih:=KO xs ys;simp only[qF]at h ⊢;by_cases e1:x=y
  .subst e1;rw[tO rfl]at h ⊢;exact ih (λz=>n (by rw[z])) h
  .rw[tN e1]at h;let h:=of_decide_eq_false h;rw[tN ∎];exact mW ∎
def IE(fin:Bool):List Int->List Int->Bool
 | x::xs,y::ys=>if x=y then IE fin xs ys else decide (x<y)
 | _,_=>fin
theorem QZ:∀a b:List Int,IE (decide (a.length<b.length)) a b=qF a b
 | [],[]=>rfl
 | [],_::_=>by simp [IE,qF]
 | _::_,[]=>by simp [IE,qF]
 | x::xs,y::ys=>by
  let ih:=QZ xs ys;simp only[IE,qF,mN,Nat.add_lt_add_iff_right];rw[ih]
def xX(k:List Key):List Int:=k.filterMap fun | .inl i=>some i | .inr _=>none
theorem DX(ns:List Int):xX (ik ns)=ns:=by
 unfold xX ik;induction ns with
 | nil=>rfl
 | cons n r ih=>simp [ih]
theorem KTkeys{aj:List #[57]}{xs:List #[17]}(r:KT H aj xs):aj.map (·.1)=xs.map (·.1):=by
 induction r with
 | nil=>rfl
 | cons h _ ih=>rw[nH,nH,ih,h.1]
section
variable{prog:Program}{w:World}{A:Around}{E:Value->Shared->Prop}{s:Shared}
theorem KN{Q:Bool->Shared->Prop} :∀{as bs:List Value} {xs ys:List Int} (_:IntsAre as xs) (_:IntsAre bs ys) (_:Q (IE fin xs ys) s) (i:Nat),PySem.W.KatLex prog w A b fin Q (as.zip bs) i s
 | _,_,_,_,.nil,_,h,_=>by
  rw[List.zip_nil_left];exact PySem.W.kat_nil (by simpa [IE]using h)
 | _,_,_,_,.cons _ _ _,.nil,h,_=>by
  rw[List.zip_nil_right];exact PySem.W.kat_nil (by simpa [IE]using h)
 | _,_,_,_,.cons n t r,.cons m u r2,h,i=>by
  rw[List.zip_cons_cons];simp only[IE]at h;refine PySem.W.kat_cons (SeqAt.EqAt.int_int _ _ _ _ prog w _ _ ?_);refine PySem.W.kat_go (λe=>PySem.W.kat_yes (KN r r2 (by rwa [tO (by simpa using e)]at h) (i+1))) λe=>PySem.W.kat_no ?_;rw[tN (by simpa using e)]at h;cases hb:(b&&i==0)with
  | true=>exact oneLt_int h
  | false=>exact PySem.W.kat_one _ _ (lt_int h)
end
section
variable{X:Cx}
end
section
variable{X:Cx}
def rSortSn:List V->Hp->VK->Prop:=λxs H Q=>∃(a:Addr) (aj:List #[57]),xs=[.ref a]/\Rd H a (.dT aj)/\(∀p∈aj,∃ns:List Int,p.1=ik ns/\ns≠[])/\
 ∀(ys:List V) (zs:List #[57]),zs.Perm aj->Keyed H ys zs->zs.Pairwise (λp q=>qF (xX p.1) (xX q.1)=true)->New H (.lst ys) Q
theorem LT(hc:X.calm=true):CallR X (.builtin "sorted") rSortSn:=by
 intro ae s σ H xs us Q I r h;obtain⟨a,aj,rfl,ha,hk,q⟩:=h;obtain⟨u,rfl,ru⟩:=vV r;cases ru;obtain⟨z,lo,ks,rel,dd⟩:=AC I.hok ha;obtain⟨o,es,ep,hd1,hd2,hd3,he,his,hn⟩:=id dd;let raw:Raw s.heap a es ep:={o,hd1,hd2,(hd3)};let esz:es.size=aj.length:=by rw[size_of_entries he,<-Paired.length rel]
 obtain⟨m,F⟩:=I.fr;let kn:(aj.map (·.1)).Nodup:=by rw[KTkeys rel];exact hn
 let itup:∀(j:Nat) (h:j<es.size),∃(b:Addr) (ns:List Int) (v:V),es[j].key=.ref b/\H b=some (.tup #[16])/\aj[j]? = some (ik ns,v)/\ns≠[]:=λj hj=>by
  let e1:=entry_at he j;rw[Array.getElem?_eq_getElem hj]at e1;cases e2:ks[j]? with
  | none=>rw[e2]at e1;cases e1
  | some x=>
   rw[e2]at e1;let e3:es[j]=entryOfKey _ x:=Option.some.inj e1;obtain⟨v,m1,m2⟩:=KTgetI rel e2;obtain⟨ns,n1,n2⟩:=hk _ (gL m1);dsimp only at n1;rw[n1]at m1 m2;rw[xM]at m2;exact{x.2.1,ns,v,by rw[e3];rfl,m2,m1,n2}
 refine PySem.W.kdu_sorted (OY lo) (I.ok.hd hc) F KC raw (by rw[esz];exact z) λD h' tk vs F' N' lt hlen hP=>?_;let vtup:∀(j:Nat) (hj:j<vs.length),∃(b:Addr) (ns:List Int) (v:V),vs[j]=.ref b/\H b=some (.tup #[16])/\aj[j]? = some (ik ns,v)/\ns≠[]:=λj hj=>by
  obtain⟨h1,h2⟩:=hP j vs[j] (by simp [hj]);rw[h2];exact itup j h1
 let vl:vs.length=aj.length:=by rw[hlen,esz]
 let kvI:∀(j:Nat) (ns:List Int) (v:V),aj[j]? = some (ik ns,v)->xX (aj.getD j ([],.non)).1=ns:=λj ns v e=>by rw[uT,e];exact DX ns
 let O:Strict (λi j=>qF (xX (aj.getD i ([],.non)).1) (xX (aj.getD j ([],.non)).1)) vs.length:=by
  refine{λa b c=>QX _ _ _,λa b=>QY _ _,λa b ha hb hab hf=>?_};obtain⟨_,ns,v,_,_,e3,_⟩:=vtup a ha;obtain⟨_,ms,v',_,_,e3',_⟩:=vtup b hb;rw[kvI _ _ _ e3,kvI _ _ _ e3']at hf;show qF (xX (aj.getD b ([],.non)).1) (xX (aj.getD a ([],.non)).1)=true;rw[kvI _ _ _ e3,kvI _ _ _ e3'];refine KO _ _ (λz=>hab ?_) hf;let i1:(aj.map (·.1))[a]? = some (ik ns):=by rw[mB,e3];rfl
  let i2:(aj.map (·.1))[b]? = some (ik ns):=by rw[mB,e3',z];rfl
  exact(List.getElem?_inj (by rw[mS];∎) kn).mp (i1.trans i2.symm)
 let fin:∀(idx:List Nat) (h3:Heap) (c tk3:Nat),idx.Perm (List.range aj.length)->idx.Pairwise (λi j=>qF (xX (aj.getD i ([],.non)).1) (xX (aj.getD j ([],.non)).1)=true)->Fr X.base X.env.locals h3 m->News X.base X.env.locals h3 ((D,PySem.W.listOf (idx.map λi=>vs.getD i Value.none).toArray c)::xP X.base s.heap X.env.locals)->
   EP X ae σ Q (.ref D) { s with heap:=h3,toks:=tk3 } :=λidx h3 c tk3 pm pw F3 N3=>by
  let il:idx.length=aj.length:=by rw[pm.length_eq,List.length_range]
  let im:∀i∈idx,i<aj.length:=λi hi=>mX.mp (pm.mem_iff.mp hi);let tr:∀js:List Nat,(∀i∈js,i<aj.length)->∃ys:List V,Vals ys (js.map λi=>vs.getD i Value.none)/\Keyed H ys (js.map λi=>aj.getD i ([],.non)):=by
   intro js;induction js with
   | nil=>exact λ_=>{[],.nil,rfl,λi y p e=>by simp at e}
   | cons j js ih=>
    intro hj;obtain⟨ys,r1,r2,r3⟩:=ih λi hi=>hj i (gM _ hi);let hj1:=hj j (hU ..);obtain⟨b,ns,x,e1,e2,e3,_⟩:=vtup j (by rw[vl];exact hj1);refine{.ref b::ys, ?_,by simp [r2],λi y p ey ep=>?_}
    .rw[nH];refine .cons ?_ r1;rw[uT,uY (by rw[vl];exact hj1),e1]
     rfl
    .cases i with
     | zero=>
      simp only[nH,List.getElem?_cons_zero,Option.some.injEq]at ey ep;rw[uT,e3]at ep;subst ey;subst ep;exact{b,ns,rfl,e2,(rfl)}
     | succ i=>
      simp only[nH,List.getElem?_cons_succ]at ey ep;exact r3 i y p ey ep
  obtain⟨ys,rv,hy⟩:=tr idx im;let yl:ys.length=aj.length:=by rw[hy.1,mS];exact il
  let nb:=BE (ho:=.lst ys) (tk:=tk3) I F F3 N3 lt λe=>{by rw[yl];exact z,_,c,rv,e};let pz:(idx.map λi=>aj.getD i ([],.non)).Perm aj:=by
   let:=pm.map λi=>aj.getD i ([],V.non);rw[zF]at this;exact this
  exact{.ref D,_,nb.2,rfl,(q ys _ pz hy (List.pairwise_map.mpr pw)).at nb.1}
 let nD:=N' (D,PySem.W.listOf vs.toArray 0) (hU ..);by_cases h2:vs.length<2
 .refine CV (n:=0) nD.1 h2 ?_;obtain⟨c,hat⟩:=sortedHeap_at (vs:=vs) (n:=0) (out:=vs.toArray) nD.1;let old:∀b u,b≠D->h'.get? b=some u->(sortedHeap h' D vs vs.toArray).get? b=some u:=λb u hb e=>by
   rw[sortedHeap_old hb (nP e)];exact e
  let er:(List.range aj.length).map (λi=>vs.getD i Value.none)=vs:=by rw[<-vl];exact zF vs _
  refine fin (List.range aj.length) _ c tk (List.Perm.refl _) (by
   rw[<-vl];let:vs.length=0∨vs.length=1:=∎
   rcases this with z | z<;>rw[z]<;>simp) {?_,λb u e=>old b u (λy=>by rw[y,nD.2.2]at e;cases e) (F'.keep b u e),F'.above} (λp hp=>?_)
  .obtain⟨ob,es',ep',e1,e2⟩:=F'.ns;exact{ob,es',ep',old _ _ (Ne.symm nD.2.1) e1,e2}
  .rw[er]at hp;rcases nI.mp hp with rfl | hp
   .exact{hat,(nD.2)}
   .have y:=N' p (gM _ hp);exact{old _ _ (nS (lt p hp)) y.1,y.2}
 .have hd:∀q∈xP X.base s.heap X.env.locals,q.1≠D:=λq hq=>nS (lt q hq);refine LwR.ts_lsort (vs:=vs) (its:=vs.toArray) F' N' (.head hd) rfl ∎ (by rw[vl];exact z) λe1 h4 F4 N4=>?_;let in4:∀b xs,H b=some (.tup xs)->∃its:List Value,Vals xs its/\IsTup h4 b its.toArray:=λb xs e=>by
   obtain⟨_,its,rv,⟨ob,ho,hc2⟩,_⟩:=(show ObjOk X.prog X.w H s.heap b (.tup xs)from I.hok b _ e);refine{its,rv,ob, ?_,hc2};cases y:X.base.get? b with
   | some u=>
    let y2:=I.bk b u y;rw[ho]at y2;cases y2;exact F4.keep b _ y
   | none=>exact(N4 (b,ob) (gM _ (zR (λy2=>by rw[y2,I.free]at e;cases e) y ho))).1
  let tups:∀l:List Value,(∀v∈l,v∈vs)->∃fs:List Value,PySem.W.KatTups h4 l fs/\fs.length=l.length/\∀f∈fs,∃n t,f=Value.int n t:=by
   intro l;induction l with
   | nil=>exact λ_=>{[],.nil,rfl,λ_ y=>nomatch y}
   | cons v r ih=>
    intro hm;obtain⟨fs,t1,t2,t3⟩:=ih λv' hv'=>hm v' (gM _ hv');obtain⟨j,hj,ev⟩:=List.getElem_of_mem (hm v (hU ..));obtain⟨b,ns,x,g1,g2,g3,g4⟩:=vtup j hj;obtain⟨its,rv,ob,ho,hc2,nn,hdt⟩:=in4 b _ g2
    match ns,g4,rv with
    | n::nr,_,.cons (b:=iv) (l₂:=ir) rr rt=>
     obtain⟨tt,rfl⟩:=rr;rw[<-ev,g1];exact{.int n tt::fs,.cons ho hc2 hdt #[14] t1,by simp [t2],λf hf=>(nI.mp hf).elim (λy=>{n,tt,(y)}) (t3 f)}
  obtain⟨fs,t1,t2,t3⟩:=tups vs λ_ y=>y;refine PySem.W.kat_kind (T:=.type "int") t1 ∎ (λf hf=>?_) #[0] ?_
  .obtain⟨n,t,rfl⟩:=t3 f hf;exact PySem.W.Looks.of_pure rfl
  .refine{λi j=>qF (xX (aj.getD i ([],.non)).1) (xX (aj.getD j ([],.non)).1),λs'=>s' = { s with heap:=h4,toks:=tk },{λi j s' C hi hj hs' hC=>?_,O},rfl,λp s' hs' pm pw=>?_}
   .subst hs';obtain⟨b,ns,x,g1,g2,g3,_⟩:=vtup i hi;obtain⟨b',ns',x',g1',g2',g3',_⟩:=vtup j hj;obtain⟨its,rv,ob,ho,hc2,nn,hdt⟩:=in4 b _ g2;obtain⟨its',rv',ob',ho',hc2',nn',hdt'⟩:=in4 b' _ g2';let hC:=hC _ rfl;unfold PySem.W.kas_cmp;rw[PySem.W.kas_item_eq,PySem.W.kas_item_eq];dsimp only;rw[show vs.getD i Value.none=.ref b by rw[uT,uY hi,g1];rfl,show vs.getD j Value.none=.ref b' by rw[uT,uY hj,g1'];rfl];rw[kvI _ _ _ g3,kvI _ _ _ g3']at hC;let i1:=qW rv;let i2:=qW rv';refine PySem.W.kat_lt ho hdt ho' hdt' (KN i1 i2 ?_ 0);rw[mC,mC,vD i1,vD i2,QZ];exact hC
   .subst hs';exact PySem.W.KasFin.intro F4 N4 (.head hd) λh5 c F5 N5=>fin p h5 c tk (by rw[<-vl];exact pm) pw F5 N5
end
end LwD
namespace LwI
open PySem PySem.Spec PyProof.Rows
open Sem (wp)
section
local macro_rules | `(panic! $s:str)=>return Lean.mkIdent ((Lean.Name.str (.str (.num (.str (.str (.str (.str (.str .anonymous "_private") "PySem") "Builtin") "Int") "W0All") 0) "PySem") "Builtin")++s.getString.toName)
local macro_rules | `(tactic| trivial)=>do
 let n (s:String):=Lean.mkIdent (.str (.str (.str (.num (.str (.str (.str (.str (.str .anonymous "_private") "PySem") "Builtin") "Int") "W0All") 0) "PySem") "Builtin") s)
 `(tactic| first | unfold $(n "intFromObject") | unfold $(n "numeralText?") | unfold $(n "intFromText") | unfold $(n "readNumeral") | unfold $(n "prefixBase?") | unfold $(n "numeralDigits?") | unfold $(n "digitValue?"))
end
end LwI
namespace L2
open PySem PySem.Spec PyProof.Rows Lw
section
variable{X:Cx}
end
end L2
namespace L2
open PySem PySem.Spec PyProof.Rows
section
variable{X:Cx}
end
end L2
namespace LwD
open PySem PySem.Spec PyProof.Rows L2 Lw PySem.W
section
variable{prog:Program}{w:World}{A:Around}{E:Value->Shared->Prop}{s:Shared}{h₀:Heap}{L:Addr}{m:Str->Option Value}{news:List #[13]}
end
section
variable{X:Cx}
end
section
variable{X:Cx}{e e2:Expr}{kpos p pos:Pos}{t:TA}
end
end LwD
namespace LwS
open PySem PySem.Builtin.Str
structure Mark(sep:Str)(k c:Nat):Prop where
 one:sep.cps.toList[k]? = some c
 only:∀j,j<k->sep.cps.toList[j]?≠some c
 kind:strKind sep=1
open LwI
structure Trm where
 ns:List Int
 t:Int
 b:Int
structure TmOk(ad:Nat)(x:Trm):Prop where
 len:x.ns.length=ad
 nn:∀n∈x.ns,0<=n
 deg:x.ns.sum<=16
 pos:0<x.b
 low:Int.gcd x.t x.b=1
 nz:x.t≠0
 st:x.t.natAbs<2^782
 sb:x.b.natAbs<2^680
end LwS
namespace Lw
open PySem PySem.Spec PyProof.Rows L2
section
variable{X:Cx}
def tF2(m:Str)(ta:TE):TE:=fun O H Q=>ta O H λx H1=>∃i:Int,x=.int i/\i.natAbs.log2<1920/\m.length<=sizeLine/\(m++(toString i:Str)).length<=sizeLine/\Q (.str (m++(toString i:Str))) H1
theorem pe_f2{m:Str}{k:Nat}(hm:m.length<=sizeLine)(ha:PE X a ta):PE X (.JoinedStr [.Constant (.str m) k p2,.FormattedValue a (-1) none p1] pos) (tF2 m ta):=by
 intro ae s O H Q I h;let e1:Str.empty++m=m:=Str.empty_append m;refine JoinedStr_many (joinParts_cons (Calls.Constant_str ?_));show(Str.empty++m).length<=sizeLine/\wpAny _ _ (joinParts (Str.empty++m) _) _ _ { s with toks:=s.toks+1 };rw[e1];refine{hm,joinParts_cons (FormattedValue_plain (thn (ha ae _ O H _ (I.tok _) h) λv s1 ⟨x,H1,I1,r1,i,ex,f1,_,hl,q1⟩=>?_))};subst ex;obtain⟨t,rfl⟩:=r1;exact formatField_int_small f1 {hl,joinParts_nilE (joinParts_nil {.str _,H1,(I1.tok _).tok _,{_,rfl},q1} hl)}
def rNeC:R2:=λx y H Q=>∃(l m:Addr) (xs:List Addr),x=.ref l/\y=.ref m/\H l=some (.lst (xs.map V.ref))/\H m=some (.lst (xs.map V.ref))/\Q (.bl false) H
theorem HN:∀{xs:List Addr} {us:List Value},Vals (xs.map V.ref) us->us=xs.map Value.ref
 | [],_,.nil=>rfl
 | _::_,_,.cons r t=>by
  cases r;rw[HN t]
  rfl
theorem op_neC(hu:X.A.units+1<cLine):OpR X (compareOp .NotEq) rNeC:=by
 intro ae s O H x y v u Q I rx ry h;obtain⟨l,m,xs,rfl,rfl,hl,hm,q⟩:=h;cases rx;cases ry;obtain⟨its,r1,p1,_⟩:=I.list (SqL.of (K:=X.K) hl);obtain⟨its2,r2,p2,_⟩:=I.list (SqL.of (K:=X.K) hm);let e1:=HN r1;let e2:=HN r2;subst e1 e2;refine SeqAt.RcNeAt.lists (e:=λ_=>true) p1.isList p2.isList rfl ∎ (λj h1 h2=>?_) _ _ _ _ {.bl false,H,I, ?_,q}
 .have u1:∃a,(xs.map Value.ref).toArray[j]=Value.ref a:=by simp
  obtain⟨a,ea⟩:=u1;rw[ea];exact SeqAt.EqAt.same _
 .have e:((List.range (xs.map Value.ref).toArray.size).all λ_=>true)=true:=List.all_eq_true.mpr λ_ _=>rfl;rw[e]
  rfl
end
end Lw
namespace LwD
open PySem PySem.Spec PyProof.Rows L2 Lw
section
variable{prog:Program}{w:World}{A:Around}{E:Value->Shared->Prop}{h:Heap}{g:Array GenState}{d:Drawn}{t:Nat}{os:OsState}{a:Addr}{o:Obj}
end
theorem zC:plainId "dict.update.loop" = true:=by decide +kernel
theorem DU:entryFor table "dict.update.loop" = some Builtin.«dict.update.loop»:=entryFor_of_tree (by kernel_rfl)
section
variable{prog:Program}{w:World}{A:Around}{E:Value->Shared->Prop}
abbrev tkd(prog:Program)(w:World):=tupleKind (jU prog w)
def PairAt(prog:Program)(w:World)(h:Heap)(v:Value)(x:List Key×Addr×Value):Prop:=∃r,v=.ref r/\IsTup h r #[.ref x.2.1,x.2.2]/\(tkd prog w).is h x.1 x.2.1
theorem PairAt.keep{h h':Heap}(p:PairAt prog w h v x)(k:∀b u,h.get? b=some u->h'.get? b=some u):PairAt prog w h' v x:=by
 obtain⟨r,e,⟨o,h1,h2⟩,q,its,n,h3,h4⟩:=p;exact{r,e,{o,k _ _ h1,h2},q,its,n,k _ _ h3,h4}
def puts(xs ps:List #[17]):List #[17]:=ps.foldl (λacc x=>storedH acc x.1 x.2.1 x.2.2) xs
theorem CT(xs:List #[17])(k:List Key)(a:Addr)(v:Value):(storedH xs k a v).length<=xs.length+1:=by
 unfold storedH;split<;>simp
end
section
variable{prog:Program}{w:World}{A:Around}{E:Value->Shared->Prop}{s:Shared}
end
section
variable{X:Cx}
def PairsIn(H:Hp)(ys:List V)(aj:List #[57]):Prop:=Paired (λ(y:V) (p:List Key×V)=>∃r b,y=.ref r/\Rd H r (.tup [.ref b,p.2])/\H b=some (.tup (p.1.map kV))) ys aj
theorem DE:∀(ps xs:List #[17]),((xs++ps).map (·.1)).Nodup->puts xs ps=xs++ps
 | [],xs,_=>(List.append_nil xs).symm
 | p::ps,xs,h=>by
  let hn:atKey xs p.1=none:=by
   refine atKey_none_of_get λj q e=>?_;rw[mT,nH]at h;exact(mH.mp h).2.2 p.1 (nT.mpr {_,gL e,rfl}) p.1 (hU ..) rfl
  show puts (storedH xs p.1 p.2.1 p.2.2) ps=_;rw[storedH_new hn,DE ps _ (by rw[List.append_assoc];exact h),List.append_assoc]
  rfl
end
section
variable{prog:Program}{w:World}{A:Around}{E:Value->Shared->Prop}{s:Shared}
theorem ED{α:Type}(f:α->Int):∀(l:List α),(l.map f).Nodup->∀e∈l,(l.filter λx=>f x==f e).length<=1
 | [],_,e,he=>nomatch he
 | a::l,hn,e,he=>by
  rw[nH,List.nodup_cons]at hn;by_cases z:f a=f e
  .have:(l.filter λx=>f x==f e)=[]:=by
    rw[List.filter_eq_nil_iff];intro x hx;simp only[beq_iff_eq];exact λy=>hn.1 (z▸y▸nT.mpr {x,hx,(rfl)})
   rw[mR,this];split<;>simp
  .rw[mR,tN (by simpa using z)];rcases nI.mp he with rfl | he
   .exact absurd rfl z
   .exact ED f l hn.2 e he
theorem NA{xs:List #[17]}{Q:Unit->Shared->Prop}(hdo:d≠o)(hoS:(o==sysModules)=false)(hd:s.heap.DictOfH (tkd prog w) d [])(ho:s.heap.DictOfH (tkd prog w) o xs)
  (hh:(xs.map λx=>(tkd prog w).hash x.1).Nodup) (hz:xs.length<=sizeLine) (hQ:∀h',h'.DictOfH (tkd prog w) d xs->Heap.SameBut d s.heap h'->Q () { s with heap:=h' }):wpAny #[3] A (Builtin.Dict.mergeDict nm d o) Q E s:=by
 obtain⟨od,esd,epd,hod,hcd,hdd,hed,hid,hnd⟩:=id hd;obtain⟨oo,eso,epo,hoo,hco,hdo',heo,hio,hno⟩:=id ho;let d0:esd = #[]:=by simpa using hed
 subst d0;let lz:eso.size=xs.length:=size_of_entries heo;unfold Builtin.Dict.mergeDict;rw[tN (by simpa using hdo)];unfold Builtin.Dict.showsAll;rw[tN (by rw[hoS];exact gY)];refine tK (tL ?_);refine tK (wpAny_dictEntries hoo hdo' ?_);dsimp only;by_cases he:xs=[]
 .subst he;let e0:eso = #[]:=by simpa using heo
  subst e0;rw[tN #[14]];refine tK (wpAny_dictEpoch hoo hdo' ?_);refine tK (wpAny_dictEntries hoo hdo' ?_);refine tK ?_;rw[Std.Legacy.Range.forIn_eq_forIn_range'];refine tL ?_;exact tL (hQ s.heap hd (Heap.SameBut.refl _ _))
 .have few:(decide (eso.size<=8)&&eso.all λe=>(keyPart e.key).isSome)=false:=by
   obtain⟨x,r,rfl⟩:∃x r,xs=x::r:=by cases xs with | nil=>exact absurd rfl he | cons x r=>exact⟨x,r,rfl⟩
   let:eso.all (λe=>(keyPart e.key).isSome)=false:=by
    rw[<-Array.all_toList,heo]
    rfl
   rw[this,Bool.and_false]
  rw[few,tO #[0]];refine tK (wpAny_dictEntries hod hdd ?_);rw[tO #[0]];refine tK ?_;unfold Builtin.Dict.entriesForEmpty;refine tK (wpAny_dictEntries hoo hdo' ?_);let body:∀e∈eso.toList,∀(s':Shared),s'=s->∀{Q':ForInStep PUnit->Shared->Prop},Q' (.yield PUnit.unit) s'->wpAny #[3] A (do
   let q<-Builtin.Dict.quietEq e.key
   if (!q)=true then
    if (eso.filter (·.hash==e.hash)).size>1 then(do let _<-(unsupported s!"{nm}:keys-of-equal-hash" :Sem PUnit);pure (ForInStep.yield PUnit.unit))else pure (ForInStep.yield PUnit.unit)
   else pure (ForInStep.yield PUnit.unit):Sem (ForInStep PUnit)) Q' E s':=by
   rintro e hm s' rfl Q' hq;let hm':=hm;rw[heo]at hm;obtain⟨x,hx,rfl⟩:=nT.mp hm;refine tK ?_;show wpAny _ _ (Builtin.Dict.quietEq (.ref x.2.1)) _ _ _;unfold Builtin.Dict.quietEq;refine tK (wpAny_specialOf (hio x hx).typeIs F.slot_tuple_eq.lookup (tL ?_));rw[tO #[0],tN ?_]
   .exact tL hq
   .have:=ED (λe:DictEntry=>e.hash) eso.toList (by rw[heo,nX];exact hh) _ hm';rw[<-Array.toList_filter,Array.length_toList]at this;exact Nat.not_lt.mpr this
  refine tK ?_;rw[<-Array.forIn_toList];refine wpAny_forIn_list _ (λrest _ s'=>s'=s/\∃pre,eso.toList=pre++rest) _ ?_ ?_ _ _ {rfl,[],rfl}
  .rintro e rest b s' ⟨rfl,pre,hp⟩;refine body e (by rw[hp];simp) _ rfl ?_;exact{rfl,pre++[e],by rw[hp];simp}
  .rintro b s' ⟨rfl,_⟩;refine tL ?_;rw[tO (by
    let:eso≠#[]:=λz=>he (List.length_eq_zero_iff.mp (by rw[<-lz,z];rfl));simpa using this)]
   refine tK (wpAny_updateDictKeysTo hod hdd (tL (hQ _ {_,_,epd+1,Heap.get?_update_self _ hod (Obj.isFreed_of_dict (Obj.data_mapDictKeys hdd _)),hcd.mapDictKeys _,Obj.data_mapDictKeys hdd _,heo,λx hx=>?_,hno} #[70])) ∎);exact(tkd prog w).keeps (hio x hx) hod hdd #[70]
theorem UO{xs:List #[17]}{Q:Value->Shared->Prop}(hoS:(o==sysModules)=false)(ho:s.heap.DictOfH (tkd prog w) o xs)(hh:(xs.map λx=>(tkd prog w).hash x.1).Nodup)(hz:xs.length<=sizeLine)
  (h:∀h',h'.DictOfH (tkd prog w) s.heap.objs.size xs->(∀b u,s.heap.get? b=some u->h'.get? b=some u)->Q (.ref s.heap.objs.size) { s with heap:=h' }) :
  wpAny #[3] A (call (.type "dict") [.ref o]) Q E s:=by
 refine callType_codes (Q₁:=λobj s₁=>obj=.ref s.heap.objs.size/\s₁ = { s with heap:=s.heap.push { cls:=.type "dict",data:=.dict #[] } }) F.kt_called_dict (F.kt_typeCall_dict_1 _) F.entry_dict_init (kt_code_dict_new _ {rfl,(rfl)}) ?_;rintro obj s₁ ⟨rfl,rfl⟩;let hnew:(s.heap.push { cls:=.type "dict",data:=.dict #[] }).DictOfH (tkd prog w) s.heap.objs.size []:={_,#[],0,gU _ rfl,{rfl,rfl,(rfl)},rfl,rfl,(λx hx=>nomatch hx),mZ};let ho':(s.heap.push { cls:=.type "dict",data:=.dict #[] }).DictOfH (tkd prog w) o xs:=by
  obtain⟨oo,es,ep,g1,g2,g3,g4,g5,g6⟩:=ho;exact{oo,es,ep,gC _ g1,g2,g3,g4,λx hx=>let ⟨q,its,n,i1,i2⟩:=g5 x hx;{q,its,n,gC _ i1,i2},g6}
 let hdo:s.heap.objs.size≠o:=by
  obtain⟨_,_,_,hg,_⟩:=ho;exact λe=>absurd (nP hg) (by rw[e];exact nJ _)
 let ty:∀{h1:Heap} {a:Addr} {ys:List #[17]},h1.DictOfH (tkd prog w) a ys->(⟨h1,s.gens,s.drawn,s.toks,s.os⟩:Shared).TypeIs (.ref a) "dict":=λD=>let ⟨q,_,_,g1,g2,_⟩:=D;{q,g1,(g2.1)};refine{ty hnew,F.args_dict_init_2 _ _, ?_};unfold Builtin.«dict.__init__»;refine tK ?_;unfold Builtin.Dict.selfAndRest;refine tK (wpAny_notOrdered_dict (ty hnew) ?_);show wpAny _ _ (pure (s.heap.objs.size,[Value.ref o])) _ _ _;refine tL ?_;show wpAny _ _ (Builtin.Dict.updateFrom "dict.__init__" s.heap.objs.size (.ref o) [] .none) _ _ _;unfold Builtin.Dict.updateFrom;refine tK (wpAny_typeOf (ty ho') ?_);rw[tN #[0]];refine tK ?_;unfold Builtin.Dict.merge;refine tK ?_;unfold Builtin.Dict.readDirectly;refine tK (wpAny_isInstance (ty ho') isSubtype_dict_dict ?_);simp only[Bool.not_true,Bool.false_eq_true,if_false];refine tK (wpAny_specialOf (ty ho') F.slot_dict_iter.lookup (tL ?_));simp only[beq_self_eq_true,if_true];refine tK (tL ?_);refine NA hdo hoS hnew ho' hh hz λh' hd' hs'=>?_;show wpAny _ _ (Builtin.Dict.addKeywords s.heap.objs.size [] >>= _) _ _ _;refine tK (tL (tL {rfl,h h' hd' λb u e=>?_}));exact(hs'.2 b (nS (nP e))).trans (gC _ e)
end
section
variable{X:Cx}
end
def UZ:Nat->Nat->List (List Int)
 | 0,_=>[[]]
 | m+1,s=>(List.range (s+1)).flatMap λi=>(UZ m (s-i)).map λr=>(i:Int)::r
theorem EM:∀(m s:Nat) (ns:List Int),ns.length=m->(∀n∈ns,0<=n)->ns.sum<=s->ns∈UZ m s
 | 0,_,ns,h,_,_=>by rw[List.length_eq_zero_iff.mp h];exact hJ.mpr rfl
 | m+1,s,[],h,_,_=>by cases h
 | m+1,s,n::r,h,hp,hs=>by
  let hn:=hp n (hU ..);obtain⟨i,rfl⟩:=gA hn;let hr:0<=r.sum:=by
   let:∀l:List Int,(∀x∈l,0<=x)->0<=l.sum:=λl=>by
    induction l with
    | nil=>exact λ_=>tJ _
    | cons a l ih=>
     intro h;let h1:=h a (hU ..);let h2:=ih λx hx=>h x (gM _ hx);rw[nM];∎
   exact this r λx hx=>hp x (gM _ hx)
  rw[nM]at hs;let hi:i<=s:=∎
  refine List.mem_flatMap.mpr {i,mX.mpr ∎,nT.mpr {r, ?_,rfl}};exact EM m (s-i) r #[62] (λx hx=>hp x (gM _ hx)) ∎
def hT(ns:List Int):Int:=reduceHash (Builtin.Tuple.tupleHashOf (ns.map hashInt))
structure PwS(ad:Nat)(ns:List Int):Prop where
 len:ns.length=ad
 nn:∀n∈ns,0<=n
 deg:ns.sum<=8
theorem yP{α β:Type}{f:α->β} :∀{l:List α},(l.map f).Nodup->∀{a b:α},a∈l->b∈l->f a=f b->a=b
 | [],_,_,_,h,_,_=>nomatch h
 | x::r,hn,a,b,ha,hb,e=>by
  rw[nH,List.nodup_cons]at hn;rcases nI.mp ha with ea | ka
  .rcases nI.mp hb with eb | kb
   .rw[ea,eb]
   .exact absurd (nT.mpr {b,kb,by rw[<-e,ea]}) hn.1
  .rcases nI.mp hb with eb | kb
   .exact absurd (nT.mpr {a,ka,by rw[e,eb]}) hn.1
   .exact yP hn.2 ka kb e
theorem RK(P:Program)(w:World)(ns:List Int):(tkd P w).hash (ik ns)=hT ns:=by
 show reduceHash (Builtin.Tuple.tupleHashOf ((ik ns).map (keyH w)))=_;unfold hT
 congr 2
 show List.map (keyH w) (ns.map Sum.inl)=_;rw[nX]
 rfl
section
variable{X:Cx}
end
section
variable{prog:Program}{w:World}{A:Around}{E:Value->Shared->Prop}{s:Shared}
end
section
variable{X:Cx}
end
section
variable{prog:Program}{w:World}{A:Around}{E:Value->Shared->Prop}{s:Shared}{d it:Addr}{es:Array DictEntry}{ep i:Nat}
end
section
variable{X:Cx}
end
end LwD
namespace Lw
open PySem PySem.Spec PyProof.Rows L2
section
variable{X:Cx}
end
section
variable{X:Cx}
theorem xU{i:Nat}{py spos:Pos}(hN:X.N.Nodup)(hi:X.N[i]? = some y)(hx:Loc X.env.scope y){own:Nat}{idx:List Nat}{N:List Str}{scope:Scope}{cl:List (Str×Addr)}(hc:X.calm=true)
  (hk:scope.kind=.function) (hclos:closureFor scope X.env=pure cl) (hcell:∀x∈scope.names,x.2≠.cell) (hnames:∀x∈scope.names,x.2=.local->scope.names.lookup x.1=some .local)
  (hsub:∀x c,cl.lookup x=some c->X.env.cells.lookup x=some c) (hhas:∀x,(#[12].names.lookup x=some .cell∨#[12].names.lookup x=some .free)->∃c,cl.lookup x=some c)
  (hlen:N.length=own+idx.length)
  (hidx:∀(k j:Nat) (x:Str),idx[k]? = some j->N[own+k]? = some x->X.N[j]? = some x/\X.env.kindOf x=some .cell/\#[12].names.lookup x=some .cell/\X.env.scope.names.lookup x=some .cell)
  (hit:PI X target iter wi) (hg:∀C fp s2 H2,PG #[7] target g) (he:∀C fp s2 H2,PE #[7] elt te)
  (hsw:swapsWith (.ListComp elt [{target,iter,[],0}] scope pos) (some (.Name y py)) spos.line X.env=pure true:=by rfl)
  (hs:∀x,foldedSetIterable iter X.env x=pure x:=by intro _;rfl) (hfn:X.fn y=true∨X.env.scope.names.lookup y=some .local:=by first | exact .inl rfl | exact .inr rfl | assumption):PS X (.Assign [.Name y py] (.ListComp elt [{target,iter,[],0}] scope pos) spos) (xS (MM own idx wi g te) (jP i)):=by
 intro ae s O H D I h;rw[exec_Assign_Name_used _ _ _ _ hsw];refine tK (wpAny_standAt (tK ?_));show wpAny _ X.A (do let _<-comprehension (.ListComp elt [⟨target,iter,[],0⟩] scope pos) scope X.env _ (newList []) false (eval iter X.env) (some (assign (.Name y py) X.env))) _ _ s;exact tK (tM (wG {hk,hclos,hcell,hnames,hsub,hhas,hlen,(hidx)} hc I hit h rfl hs (data:=.seq ([]:List Value).toArray) (tF _) rfl HY (B:=BF X target elt) (λV=>AG V) codeAny_compStart_list (cgoF hg he) (YM hN hi hx hfn)) (λ_ s' hq=>tL (tL hq)) λ_ _ e=>e)
end
section
variable{prog:Program}{w:World}{A:Around}{R:Result->Shared->Prop}{s:Shared}
theorem LO(I:Nat->Shared->Prop)
  (turn:∀n s,I n s->wpAny #[3] A (pyNext it) (λr s₁=>match r with
   | none=>R (.ok .next) s₁
   | some v=>wpAny #[3] A (letOwnedTupleGo target it v) (λ_ s₁'=>wpAny #[3] A (assign target env v) (λ_ s₂=>wpAny #[3] A (isTrue c env (eval c env)) (λb s₂'=>if b=true then wpAny #[3] A (eval elt env) (λx s₃=>
     wpAny #[3] A (call (.builtin "list.append") [acc,x]) (λ_ s₄=>∃m,m<n/\I m s₄) (notedBy #[3] A env λe s'=>R (.error e) s') s₃)
     (notedBy #[3] A env λe s'=>R (.error e) s') s₂' else ∃m,m<n/\I m s₂') (notedBy #[3] A env λe s'=>R (.error e) s') s₂) (notedBy #[3] A env λe s'=>R (.error e) s') s₁') (notedBy #[3] A env λe s'=>R (.error e) s') s₁) (notedBy #[3] A env λe s'=>R (.error e) s') s)
  (n:Nat) (h:I n s) :
  codeAny #[3] A (.compLoop (.ListComp elt [{target,iter,[c],0}] scope pos) 0 it acc env) R s:=by
 refine codeAny_loop rfl I (λn s hI=>?_) n h;show wpAny _ _ ((compTurn (.ListComp elt [{target,iter,[c],0}] scope pos) 0 it acc env).onRaise (λx=>do noteFrame x env;theTreesLotGoes x)) _ _ s;refine wpAny_noted ?_;rw[compTurn_list];refine tK #[63];cases r with
 | none=>exact tL h₁
 | some v=>
  refine tK (tM h₁ (λ_ s₁' h₁'=>?_) λ_ _ h'=>h');refine tK (tM h₁' (λ_ s₂ h₂=>?_) λ_ _ h'=>h');refine tK ?_;rw[List.forIn_cons];dsimp only;rw[tO rfl];refine tK (tK (tM h₂ (λb s₂' hb=>tL ?_) λ_ _ h'=>h'));dsimp only;rw[List.forIn_nil];refine tL ?_;cases b with
  | true=>
   rw[tO rfl]at hb ⊢;refine tK ?_;exact(tK (tM hb (λx s₃ h₃=>tK (tM h₃
    (λ_ s₄ h₄=>tL (tL {rfl,(h₄)})) λ_ _ h'=>h')) λ_ _ h'=>h'))
  | false=>
   rw[tN gY]at hb ⊢;exact tL {rfl,(hb)}
end
section
variable{X:Cx}
end
end Lw
namespace LwD
open PySem PySem.Spec PyProof.Rows L2 Lw
section
variable{prog:Program}{w:World}{A:Around}{E:Value->Shared->Prop}{s:Shared}
end
section
variable{X:Cx}
end
section
variable{X:Cx}{k v:Expr}{tk tv:TE}{pos:Pos}
def ML(tk tv:TE):TE:=fun O H Q=>∀p,H p=none->tk O (upd H p (.dT [])) λx H1=>tv O H1 λy H2=>H2 p=some (.dT [])/\∃(b:Addr) (ks:List Key),x=.ref b/\H2 b=some (.tup (ks.map kV))/\Q (.ref p) (upd H2 p (.dT [(ks,y)]))
theorem JT(hu:X.A.units<cLine)(hk:PE X k tk)(hv:PE X v tv):PE X (.Dict [some k] [v] pos) (ML tk tv):=by
 intro ae s O H Q I q;let hn:=I.hok.fresh (tE s.heap.objs.size);let I1:=I.laid (a:=s.heap.objs.size) (o:=.dT []) (h':=s.heap.push { cls:=.type "dict",data:=.dict #[] }) (t':=s.toks) (λ_ _ q=>gC _ q) uP (EG s.heap I.big);refine wpAny_Dict_any rfl rfl #[14] #[14] (pairTrees_cons_walk (thn (hk ae _ O _ _ I1 (q _ hn)) λu s1 ⟨x,H1,I2,rx,q1⟩=>thn (hv ae s1 O H1 _ I2 q1) λu2 s2 ⟨y,H2,I3,ry,e,b,ks,ex,eb,q2⟩=>pairTrees_nil_walk ?_));subst ex;cases rx;unfold storeAll;rw[List.forIn_cons];obtain⟨z,hd,xs,rel,dd⟩:=RW I3.hok e;cases rel;refine tK (tK (wpAny_dictSet_heap (hsz:=by decide) (knd:=tkd X.prog X.w) hu (yI I3.hok eb) dd λh' dd' hs=>tL ?_));dsimp only;rw[List.forIn_nil];refine tL {.ref s.heap.objs.size,_, ?_,rfl,q2};obtain⟨o,es,ep,hq,h2,h3,h4,_,h5⟩:=dd';refine yG I3 #[69] hs {o,(hq)} {show 1<=sizeLine by decide,hd,_, ?_,o,es,ep,hq,h2,h3,h4,h5};refine .cons {rfl, ?_,ry} .nil;rw[jG (KD eb e #[27])];exact eb
end
end LwD
namespace L2
open PySem PySem.Spec PyProof.Rows
section
variable{X:Cx}
end
end L2
namespace Lw
open PySem PySem.Spec PyProof.Rows L2
theorem RD{Y:Type}{aj:List (Y×V)}{vs:List (Y×Value)}(r:KV aj vs){i:Nat}{k:Y}(h:aj[i]? = some (k,x)):∃u,vs[i]? = some (k,u)/\RelV x u:=by
 unfold KV at r;induction r generalizing i with
 | nil=>simp at h
 | cons p t ih=>
  cases i with
  | zero=>
   cases (Option.some.inj h);rename_i b bs _;exact{b.2,by let e:k=b.1:=p.1;show some b=some (k,b.2);rw[e],p.2}
  | succ i=>exact ih (i:=i) h
theorem HM(h:(jU P w).is k u=true):RelV (kV k) u:=by
 rcases qH (show DV k u=true from h)with⟨i,t,rfl,rfl⟩ | ⟨x,t,rfl,rfl⟩
 .exact{t,(rfl)}
 .exact{t,(rfl)}
def Iti(d:Addr)(o:Obj)(aj:List (Key×V)):It:=
 ⟨λi H=>H d=some (.frz o (.dK aj))/\i<aj.length,
  λi H v H'=>∃p k x,H p=none/\v=.ref p/\aj[i]? = some (k,x)/\H'=upd H p (.tup [kV k,x]),
  λi H=>H d=some (.frz o (.dK aj))/\i=aj.length⟩
theorem MA{P:Program}{w:World}{K:tP}{es:List Expr}{x1}{pos:Pos}(d it:Addr){o:Obj}{ens:Array DictEntry}{ep:Nat}{aj:List (Key×V)}(ho:o.data=.dict ens ep):Turn P w K (.Tuple es x1 pos) (Iti d o aj) [it] it (λi h=>∃ok ov,IsItemIter h it d i aj.length ep ok ov) where
 mem:=by simp
 obj:=λi h st b hb=>by
  let e:b=it:=by simpa using hb
  subst e;obtain⟨ok,ov,st⟩:=st;exact{_,st,λv q=>by cases (show Data.fields _=Data.cell v from q)}
 keep:=λi h h' st k=>by
  obtain⟨ok,ov,st⟩:=st;exact{ok,ov,k it #[14] _ st}
 item:=by
  intro X hP hw hK hc i ae s O H E I hf st hg;subst hP hw hK;obtain⟨hd,hi⟩:=hg;obtain⟨go,ob⟩:=I.hok d _ hd;obtain⟨z,lo,vs,rel,o',es',ep',g',xo,hdat,hk,hp,hn⟩:=#[66];rw[go]at g';cases g';rw[ho]at hdat;cases hdat;let hlen:vs.length=aj.length:=rel.length.symm;let at':s.heap.DictAt (jU X.prog X.w) d vs ep:={o,ens,go,xo,ho,hk,hp,(hn)};obtain⟨⟨k,x⟩,hkx⟩:∃kx,aj[i]? = some kx:={aj[i],by simp [hi]};obtain⟨u,hu,ru⟩:=RD rel hkx;obtain⟨ok,ov,st⟩:=st;rw[<-hlen]at st;refine wpAny_pyNext_items_item st at' hu λkey g hkey out new _ kk=>{_,rfl, ?_};refine wpAny_letOwnedTupleGo_items out λg2 z2 sb=>?_;let il:it<s.heap.objs.size:=nP st;let fr:H s.heap.objs.size=none:=I.hok.fresh uP ;let fp:∀b∈[it],FpOk X ae (upd H s.heap.objs.size (.tup [kV k,x])) b:=λb hb=>by
   let e:b=it:=by simpa using hb
   subst e;exact{by rw[jG (nS il)];exact(hf b hb).1,(hf b hb).2}
  let I1:Inv X ae O (upd H s.heap.objs.size (.tup [kV k,x])) { s with heap:=s.heap.push { cls:=.type "tuple",data:=.seq #[key,u] } } :=I.laid (t':=s.toks) (λb u e=>gC _ e) uP {by simp [sizeLine],[key,u],.cons (HM hkey) (.cons ru .nil),{_,gU _ rfl,rfl,_,rfl},.of (gU _ rfl) rfl};let I2:Inv X ae O (upd H s.heap.objs.size (.tup [kV k,x])) { s with heap:=g2 } :=by
   refine Inv.turnedL (s:={ s with heap:=s.heap.push { cls:=.type "tuple",data:=.seq #[key,u] } }) (h':=g2) (t':=s.toks) I1 fp λb o hb y=>?_;let hb:b≠it:=λz=>hb (by simp [z]);rcases Heap.get?_push_cases y with⟨e1,e2⟩ | e1
   .rw[e1,e2];exact sb.extBut _ _ (Nat.ne_of_gt il) new
   .exact sb.extBut _ _ hb (kk b o hb e1)
  rw[hlen]at z2;exact{.ref s.heap.objs.size,_,I2,rfl,{_,k,x,fr,rfl,hkx,rfl},{_,_,z2},λb hb=>(fp b hb).1}
 done:=by
  intro X hP hw hK hc i ae s O H E I hf st hg;subst hP hw hK;obtain⟨hd,hi⟩:=hg;obtain⟨go,ob⟩:=I.hok d _ hd;obtain⟨z,lo,vs,rel,o',es',ep',g',xo,hdat,hk,hp,hn⟩:=#[66];rw[go]at g';cases g';rw[ho]at hdat;cases hdat;let hlen:vs.length=aj.length:=rel.length.symm;let at':s.heap.DictAt (jU X.prog X.w) d vs ep:={o,ens,go,xo,ho,hk,hp,(hn)};obtain⟨ok,ov,st⟩:=st;rw[<-hlen]at st;exact wpAny_pyNext_items_end (I.ok.hd hc) st at' (by rw[gJ];∎) λg eb=>{rfl,Inv.turnedL (t':=s.toks) I hf λb o hb y=>eb b o (λz=>hb (by simp [z])) y}
 self:=λ_ _ _ _ _ st h=>by
  obtain⟨ok,ov,st⟩:=st;exact PySem.W.kcp_self st h
section
variable{X:Cx}
theorem TH{E:Value->Shared->Prop}{s:Shared}{Q:Value->Shared->Prop}(lo:(d==sysModules)=false)(hm:s.heap.DictOf (jU prog w) d vs)(q:Q (.ref s.heap.objs.size) { s with heap:=s.heap.push { cls:=.type "dict_items",data:=.fields #[.ref d] } }) :
  wpAny #[3] A (call (.builtin "dict.items") [.ref d]) Q E s:=
 call_meetsIn PySem.F.slot_dict_items hm.typeIs PySem.F.entry_dict_items (PySem.F.args_dict_items_1 _) (meets_dict_items (jU prog w) d lo) {{vs,(hm)},q}
def iItems(te:TE):TI:=fun O H R=>te O H λv H1=>∃d o aj,v=.ref d/\H1 d=some (.frz o (.dK aj))/\R (Iti d o aj) H1
theorem yL{es:List Expr}{x1}{tp:Pos}{o:Expr}{to:TE}{apos cpos:Pos}(ho:PE X o to)(hbase:attributeBase o "items" X.env (eval o X.env)=eval o X.env:=by rfl)(hline:(apos.endLine==cpos.line)=true:=by rfl) :
  PI X (.Tuple es x1 tp) (.Call (.Attribute o "items" apos) [] [] cpos) (iItems to):=by
 intro ae s O H R I h;refine wpAny_Call_method0_late hbase hline (thn (ho ae s O H _ I h) λv s1 ⟨x,H1,I1,r1,q1⟩=>?_);obtain⟨d,ob,aj,rfl,hd,q⟩:=q1;cases r1;obtain⟨go,ok⟩:=I1.hok d _ hd;obtain⟨z,lo,vs,rel,dd⟩:=(show ObjOk X.prog X.w H1 s1.heap d (.dK aj)from ok);obtain⟨o',es',ep,g',xo,hdat,hk,hp,hn⟩:=id dd;rw[go]at g';cases g';let hlen:vs.length=aj.length:=rel.length.symm;refine{"dict","dict.items",PySem.F.plainAttrs_dict,PySem.F.slot_dict_items,PySem.F.type_dict_items,{_,go,xo.1},(λa e=>by cases e;exact{_,go,xo.2.1}),Calls.callWith_builtin rfl (PySem.evalArgs_none ?_)};refine TH lo dd ?_;let at1:#[34].DictAt (jU X.prog X.w) d vs ep:={ob,es',gC _ go,xo,hdat,hk,hp,hn};refine wpAny_pyIter_items (s:={ s1 with heap:=s1.heap.push { cls:=.type "dict_items",data:=.fields #[.ref d] } }) {_,gU _ rfl,rfl,rfl} at1 ?_;let psz:#[34].objs.size=s1.heap.objs.size+1:=nG ..;refine{_,[#[34].objs.size],_,_,H1,rfl,I1.kept (t':=s1.toks) λb o e=>gC _ (gC _ e),MA d _ hdat,{_,_,by rw[<-hlen];exact gU _ rfl},λb hb=>?_,q};let e:b=#[34].objs.size:=by simpa using hb
 let hb':s1.heap.objs.size<=b:=by rw[e,psz];exact Nat.le_succ _
 exact I1.fpOk hb' (I1.hok.fresh hb')
end
theorem wD{d:Addr}{o:Obj}{aj:List (Key×V)}{g:TG}{tb:TS}{D:Ends}{O:L2.St}{H:Hp}(Pv:Nat->L2.St->Hp->Prop)(h0:Pv 0 O H)(hl:∀i O H,i<=aj.length->Pv i O H->H d=some (.frz o (.dK aj)))
  (hs:∀i k x p O H,aj[i]? = some (k,x)->H p=none->Pv i O H->g (.ref p) O (upd H p (.tup [kV k,x])) fun O2 H2=>tb { D with nx:=Pv (i+1),ct:=Pv (i+1),bk:=D.nx } O2 H2) (hd:∀O H,Pv aj.length O H->D.nx O H) :
  ∃W:Nat->Nat->L2.St->Hp->Prop,(∃m,W 0 m O H)/\∀i m O H,W i m O H->
   ((Iti d o aj).stop i H/\D.nx O H)∨((Iti d o aj).go i H/\∃N:L2.St->Hp->Prop,(∀O' H',N O' H'->∃m',m'<m/\W (i+1) m' O' H')/\∀x H',(Iti d o aj).yld i H x H'->g x O H' fun O2 H2=>tb { D with nx:=N,ct:=N,bk:=D.nx } O2 H2):=by
 refine{λi m O H=>m=aj.length-i/\i<=aj.length/\Pv i O H,{aj.length,by simp,tF _,h0}, ?_};rintro i m O H ⟨rfl,hi,p⟩;let q:=hl i O H hi p;by_cases hlt:i<aj.length
 .refine .inr {{q,(hlt)},Pv (i+1),fun O' H' p'=>{aj.length-(i+1),∎,rfl,hlt,p'},λv H' y=>?_};obtain⟨r,k,x,hr,rfl,hx,rfl⟩:=y;exact hs i k x r O H hx hr p
 .have ei:i=aj.length:=∎
  subst ei;exact .inl {{q,(rfl)},hd O H p}
section
variable{X:Cx}{ae:List #[13]}{O:L2.St}{H:Hp}{s:Shared}
theorem Inv.freezeK(I:Inv X ae O H s)(e:H d=some (.dK aj)):∃o,Inv X ae O (upd H d (.frz o (.dK aj))) s:=by
 let ob:ObjOk X.prog X.w H s.heap d (.dK aj):=I.hok d _ e;obtain⟨z,lo,xs,rel,o,es,ep,ho,r⟩:=id ob;refine{o, ?_};let ne:∀{b:Addr} {u:HO},H b=some u->(∀k,u≠.dK k)->upd H d (.frz o (.dK aj)) b=some u:=fun {b u} q n=>by
  rw[jG (λy=>by rw[y,e]at q;cases q;exact n _ rfl)];exact q
 refine I.step (h':=s.heap) (g':=s.gens) (t':=s.toks) (d':=s.drawn) (ch:=[]) (λ_ y=>nomatch y) (λb u _ _ _ q _=>q) (λb u _ _ _ q _=>{u.slots,(q)}) (λb u _ _ q=>?_) (λb u _ q=>{u,(q)}) (λb xs q=>ne q λ_ y=>by cases y) (λb u v q=>ne q λ_ y=>by cases y)
  (λb ps q=>{#[],by rw[ne q λ_ y=>by cases y];simp}) (λm hm=>hm) ?_ I.bare
 .rw[jG (λy=>by rw[y,e]at q;cases q)];exact q
 .intro b u q;by_cases hb:b=d
  .subst hb;rw[jE]at q;cases q;exact{ho,ob.stay (λc v _ q=>q) (λc q=>ne q λ_ y=>by cases y) λc xs q=>ne q λ_ y=>by cases y}
  .rw[jG hb]at q;exact(I.hok b u q).stay (λc v _ q=>q) (λc q=>ne q λ_ y=>by cases y) λc xs q=>ne q λ_ y=>by cases y
end
section
variable{X:Cx}
def tFrzK(te:TE):TE:=fun O H Q=>te O H λv H1=>∃d aj,v=.ref d/\H1 d=some (.dK aj)/\∀o,Q v (upd H1 d (.frz o (.dK aj)))
theorem PQ(h:PE X e te):PE X e (tFrzK te):=by
 intro ae s O H Q I hq;refine thn (h ae s O H _ I hq) λu s1 ⟨x,H1,I1,r1,q1⟩=>?_;obtain⟨d,aj,rfl,hd,k⟩:=q1;obtain⟨o,I2⟩:=Inv.freezeK I1 hd;exact{.ref d,_,I2,r1,k o}
end
open LwD
section
variable{X:Cx}
def jN(aj:List (Key×V)):List Int:=aj.map λp=>match p.1 with | .inl i=>i | .inr _=>0
theorem FD :∀{es:List DictEntry} {vs:List (Key×Value)},Pairs (jU prog w) es vs->∀(j:Nat) (h:j<es.length),∃k u,vs[j]? = some (k,u)/\(jU prog w).is k es[j].key=true:=by
 intro es vs h;induction h with
 | nil=>intro j h;exact absurd h (Nat.not_lt_zero _)
 | cons h1 h2 t ih=>
  intro j hj;cases j with
  | zero=>exact{_,_,rfl,h1}
  | succ j=>exact ih j (by simpa using hj)
theorem IR:∀{xs:List V} {us:List Value},xs.length=us.length->(∀(j:Nat) (x:V) (u:Value),xs[j]? = some x->us[j]? = some u->RelV x u)->Vals xs us
 | [],[],_,_=>.nil
 | [],_::_,h,_=>by simp at h
 | _::_,[],h,_=>by simp at h
 | x::xs,u::us,h,f=>.cons (f 0 x u rfl rfl) (IR #[62] λj y v hy hv=>f (j+1) y v (by simpa using hy) (by simpa using hv))
end
section
variable{X:Cx}
def rSortKn:List V->Hp->VK->Prop:=λxs H Q=>∃(a:Addr) (aj:List (Key×V)),xs=[.ref a]/\Rd H a (.dK aj)/\(∀p∈aj,∃i:Int,p.1=.inl i)/\
 ∀ns:List Int,ns.Perm (jN aj)->ns.Pairwise (λx y=>x<y)->New H (.lst #[16]) Q
theorem NL{aj:List (Key×V)}(hk:∀p∈aj,∃i:Int,p.1=.inl i)(hn:(aj.map (·.1)).Nodup):(jN aj).Nodup:=by
 refine List.pairwise_map.mpr ((List.pairwise_map.mp hn).imp_of_mem fun {p r} hp hr ne=>?_);obtain⟨i,hi⟩:=hk p hp;obtain⟨j,hj⟩:=hk r hr;rw[hi,hj]at ne;rw[hi,hj];exact λz=>ne (by rw[show i=j from z])
theorem KV_keys{aj:List (Key×V)}{vs:List (Key×Value)}(r:KV aj vs):aj.map (·.1)=vs.map (·.1):=by
 induction r with
 | nil=>rfl
 | cons h _ ih=>rw[nH,nH,ih,h.1]
theorem LU(hc:X.calm=true):CallR X (.builtin "sorted") rSortKn:=by
 intro ae s σ H xs us Q I r h;obtain⟨a,aj,rfl,ha,hk,q⟩:=h;obtain⟨u,rfl,ru⟩:=vV r;cases ru;obtain⟨z,lo,ks,rel,dd⟩:=AE I.hok ha;obtain⟨o,es,ep,hd1,hd2,hd3,he,hp,hn⟩:=id dd;let raw:Raw s.heap a es ep:={o,hd1,hd2,(hd3)};let esz:es.size=aj.length:=by rw[rel.length,<-hp.length];simp
 obtain⟨m,F⟩:=I.fr;refine PySem.W.kdu_sorted (OY lo) (I.ok.hd hc) F KC raw (by rw[esz];exact z) λD h' tk vs F' N' lt hlen hP=>?_;let vl:vs.length=aj.length:=by rw[hlen,esz]
 let kl:(jN aj).length=aj.length:=by unfold jN;rw[mS]
 let vv:Vals ((jN aj).map V.int) vs:=by
  refine IR (by rw[mS,kl,vl]) λj x u hx hu=>?_;obtain⟨hj,e⟩:=hP j u hu;let hj':j<es.toList.length:=by simpa using hj
  obtain⟨k,u',h1,h2⟩:=FD hp j hj';let jk:j<aj.length:=by rw[<-esz];exact hj
  obtain⟨u2,g1,_⟩:=RD rel (i:=j) (k:=aj[j].1) (x:=aj[j].2) (by rw[uY jk]);rw[h1]at g1;cases g1;obtain⟨i,hi⟩:=hk aj[j] (mO jk);let ex:x=.int i:=by
   unfold jN at hx;rw[nX,mB,uY jk]at hx;let hx:=Option.some.inj hx;rw[<-hx];show V.int (match aj[j].1 with | .inl i=>i | .inr _=>0)=_;rw[hi]
  rw[hi]at h2;let r2:=HM h2;rw[ex,e];let r2:RelV (V.int i) (es.toList[j]).key:=r2;simpa using r2
 let ia:IntsAre vs (jN aj):=qW vv;let hd:∀q∈xP X.base s.heap X.env.locals,q.1≠D:=λq hq=>nS (lt q hq);let nD:=N' (D,PySem.W.listOf vs.toArray 0) (hU ..);let kn:(jN aj).Nodup:=NL hk (by rw[KV_keys rel];exact hn);let O:Strict (λi j=>decide ((jN aj).getD i 0<(jN aj).getD j 0)) vs.length:=by
  refine{λa b c h1 h2=>mW (Int.lt_trans (mG h1) (mG h2)),λa b h1=>mU (by let:=mG h1;∎),λa b ha hb hab hf=>mW ?_};let h1:=of_decide_eq_false hf;let e1:(jN aj).getD a 0=(jN aj)[a]' ∎:=by simp [uT,show a<(jN aj).length by ∎]
  let e2:(jN aj).getD b 0=(jN aj)[b]' ∎:=by simp [uT,show b<(jN aj).length by ∎]
  let ne:(jN aj).getD a 0≠(jN aj).getD b 0:=by
   rw[e1,e2];exact λz=>hab ((List.getElem_inj kn).mp z)
  ∎
 let at':∀j,j<vs.length->∃t,vs.getD j Value.none=.int ((jN aj).getD j 0) t:=λj hj=>by
  obtain⟨n,t,g1,g2⟩:=vL ia hj;exact{t,by rw[uT,uT,uY hj,g1,g2];rfl}
 let fin:∀(idx:List Nat) (h3:Heap) (c tk3:Nat),idx.Perm (List.range vs.length)->idx.Pairwise (λi j=>decide ((jN aj).getD i 0<(jN aj).getD j 0)=true)->Fr X.base X.env.locals h3 m->News X.base X.env.locals h3 ((D,PySem.W.listOf (idx.map λi=>vs.getD i Value.none).toArray c)::xP X.base s.heap X.env.locals)->
   EP X ae σ Q (.ref D) { s with heap:=h3,toks:=tk3 } :=λidx h3 c tk3 pm pw F3 N3=>by
  let im:∀i∈idx,i<vs.length:=λi hi=>mX.mp (pm.mem_iff.mp hi);let rv:Vals ((idx.map λi=>(jN aj).getD i 0).map V.int) (idx.map λi=>vs.getD i Value.none):=by
   rw[nX];clear pm pw N3;induction idx with
   | nil=>exact .nil
   | cons j js ih=>
    obtain⟨t,e⟩:=at' j (im j (hU ..));rw[nH,nH];exact .cons (by rw[e];exact{t,(rfl)}) (ih λi hi=>im i (gM _ hi))
  let il:idx.length=vs.length:=by rw[pm.length_eq,List.length_range]
  let nb:=BE (ho:=.lst ((idx.map λi=>(jN aj).getD i 0).map V.int)) (tk:=tk3) I F F3 N3 lt λe=>{by rw[mS,mS,il,vl];exact z,_,c,rv,e};let er:(List.range vs.length).map (λi=>(jN aj).getD i 0)=jN aj:=by rw[show vs.length=(jN aj).length by ∎];exact zF (jN aj) 0
  let pz:(idx.map λi=>(jN aj).getD i 0).Perm (jN aj):=by
   let:=pm.map λi=>(jN aj).getD i 0
   rwa [er]at this
  exact{.ref D,_,nb.2,rfl,(q _ pz (List.pairwise_map.mpr (pw.imp λh=>mG h))).at nb.1}
 by_cases h2:vs.length<2
 .refine CV (n:=0) nD.1 h2 ?_;obtain⟨c,hat⟩:=sortedHeap_at (vs:=vs) (n:=0) (out:=vs.toArray) nD.1;let old:∀b u,b≠D->h'.get? b=some u->(sortedHeap h' D vs vs.toArray).get? b=some u:=λb u hb e=>by
   rw[sortedHeap_old hb (nP e)];exact e
  let er:(List.range vs.length).map (λi=>vs.getD i Value.none)=vs:=zF vs _;refine fin (List.range vs.length) _ c tk (List.Perm.refl _) (by
   let:vs.length=0∨vs.length=1:=∎
   rcases this with z | z<;>rw[z]<;>simp) {?_,λb u e=>old b u (λy=>by rw[y,nD.2.2]at e;cases e) (F'.keep b u e),F'.above} (λp hp=>?_)
  .obtain⟨ob,es',ep',e1,e2⟩:=F'.ns;exact{ob,es',ep',old _ _ (Ne.symm nD.2.1) e1,e2}
  .rw[er]at hp;rcases nI.mp hp with rfl | hp
   .exact{hat,(nD.2)}
   .have y:=N' p (gM _ hp);exact{old _ _ (nS (lt p hp)) y.1,y.2}
 .refine LwR.ts_lsort (vs:=vs) (its:=vs.toArray) F' N' (.head hd) rfl ∎ (by rw[vl];exact z) λe1 h4 F4 N4=>?_;let ty:∀v∈vs,∃n t,v=Value.int n t:=λv hv=>by
   obtain⟨j,hj,rfl⟩:=List.getElem_of_mem hv;obtain⟨n,t,_,g2⟩:=vL ia hj;exact{n,t,(g2)}
  refine PySem.W.kas_kind (T:=.type "int") ∎ (λv hv=>?_) #[0] #[0] ?_
  .obtain⟨n,t,rfl⟩:=ty v hv;exact PySem.W.Looks.of_pure rfl
  .refine{λi j=>decide ((jN aj).getD i 0<(jN aj).getD j 0),λs'=>s' = { s with heap:=h4,toks:=tk },{λi j s' C hi hj hs' hC=>?_,O},rfl,λp s' hs' pm pw=>?_}
   .subst hs';let hC:=hC _ rfl;obtain⟨t,e1⟩:=at' i hi;obtain⟨u,e2⟩:=at' j hj;unfold PySem.W.kas_cmp;rw[PySem.W.kas_item_eq,PySem.W.kas_item_eq];dsimp only;rw[e1,e2,keyLt'_oneType];exact oneLt_int hC
   .subst hs';exact PySem.W.KasFin.intro F4 N4 (.head hd) λh5 c F5 N5=>fin p h5 c tk pm pw F5 N5
end
end Lw
namespace Lw
open PySem PySem.Spec PyProof.Rows L2
section
variable{X:Cx}
def tFrzB(te:TE):TE:=fun O H Q=>te O H λv H1=>∃d aj,v=.ref d/\Rd H1 d (.dK aj)/\∀(o:Obj) (H2:Hp),H2 d=some (.frz o (.dK aj))->But d H1 H2->(∀c,H2 c=none->H1 c=none)->Q v H2
theorem CC(h:PE X e te):PE X e (tFrzB te):=by
 intro ae s O H Q I hq;refine thn (h ae s O H _ I hq) λu s1 ⟨v,H1,I1,r,d,aj,ev,rd,q⟩=>?_;rcases rd with e | ⟨o,e⟩
 .obtain⟨o,I2⟩:=Inv.freezeK I1 e;refine{v,_,I2,r,q o _ jE (λc u h n=>by rw[jG n];exact h) λc n=>?_};by_cases z:c=d
  .rw[z,jE]at n;cases n
  .rw[jG z]at n;exact n
 .exact{v,H1,I1,r,q o H1 e (λ_ _ h _=>h) λ_ n=>n}
end
def Itw(d:Addr)(o:Obj)(aj:List (Key×V)):It:=
 ⟨λi H=>H d=some (.frz o (.dK aj))/\i<aj.length,
  λi H v H'=>H'=H/\∃k,aj[i]? = some (k,v),
  λi H=>H d=some (.frz o (.dK aj))/\i=aj.length⟩
theorem SN{P:Program}{w:World}{K:tP}{tg:Expr}(d it:Addr){o:Obj}{ens:Array DictEntry}{ep:Nat}{aj:List (Key×V)}(ho:o.data=.dict ens ep):Turn P w K tg (Itw d o aj) [it] it (λi h=>h.IsValIter it d i aj.length ep) where
 mem:=by simp
 obj:=λi h st b hb=>by
  let e:b=it:=by simpa using hb
  subst e;obtain⟨o,e,_,dd⟩:=st;exact{_,e,λv q=>by rw[dd]at q;cases q}
 keep:=λi h h' st k=>st.at λo e=>k it #[14] o e
 item:=by
  intro X hP hw hK hc i ae s O H E I hf st hg;subst hP hw hK;obtain⟨hd,hi⟩:=hg;obtain⟨go,ob⟩:=I.hok d _ hd;obtain⟨z,lo,vs,rel,o',es',ep',g',xo,hdat,hk,hp,hn⟩:=#[66];rw[go]at g';cases g';rw[ho]at hdat;cases hdat;let hlen:vs.length=aj.length:=rel.length.symm;let at':s.heap.DictAt (jU X.prog X.w) d vs ep:={o,ens,go,xo,ho,hk,hp,(hn)};obtain⟨⟨k,x⟩,hkx⟩:∃kx,aj[i]? = some kx:={aj[i],by simp [hi]};obtain⟨u,hu,ru⟩:=RD rel hkx;rw[<-hlen]at st;refine wpAny_pyNext_values_item st at' hu λh' st' sb=>{_,rfl, ?_};obtain⟨o9,e9,c9,d9⟩:=id st';refine FM (s:={ s with heap:=h' }) e9 c9 d9 #[0] ?_;rw[hlen]at st';exact{x,H,Inv.turnedL (t':=s.toks) I hf λb o hb y=>sb.extBut b o (λz=>hb (by simp [z])) y,ru,{rfl,k,(hkx)},st',λb hb=>(hf b hb).1}
 done:=by
  intro X hP hw hK hc i ae s O H E I hf st hg;subst hP hw hK;obtain⟨hd,hi⟩:=hg;obtain⟨go,ob⟩:=I.hok d _ hd;obtain⟨z,lo,vs,rel,o',es',ep',g',xo,hdat,hk,hp,hn⟩:=#[66];rw[go]at g';cases g';rw[ho]at hdat;cases hdat;let hlen:vs.length=aj.length:=rel.length.symm;let at':s.heap.DictAt (jU X.prog X.w) d vs ep:={o,ens,go,xo,ho,hk,hp,(hn)};rw[<-hlen]at st;exact wpAny_pyNext_values_end (I.ok.hd hc) st at' (by rw[gJ];∎) λg eb=>{rfl,Inv.turnedL (t':=s.toks) I hf λb o hb y=>eb b o (λz=>hb (by simp [z])) y}
 self:=λ_ _ _ _ _ st h=>wpAny_pyIter_valiter st h
section
variable{X:Cx}
theorem TF{E:Value->Shared->Prop}{s:Shared}{Q:Value->Shared->Prop}(lo:(d==sysModules)=false)(hm:s.heap.DictOf (jU prog w) d vs)(q:Q (.ref s.heap.objs.size) { s with heap:=s.heap.push { cls:=.type "dict_values",data:=.fields #[.ref d] } }) :
  wpAny #[3] A (call (.builtin "dict.values") [.ref d]) Q E s:=
 call_meetsIn PySem.F.slot_dict_values hm.typeIs PySem.F.entry_dict_values (PySem.F.args_dict_values_1 _) (meets_dict_values (jU prog w) d lo) {{vs,(hm)},q}
def iVals(te:TE):TI:=fun O H R=>te O H λv H1=>∃d o aj,v=.ref d/\H1 d=some (.frz o (.dK aj))/\R (Itw d o aj) H1
theorem pi_vals{tg:Expr}{o:Expr}{to:TE}{apos cpos:Pos}(ho:PE X o to)(hbase:attributeBase o "values" X.env (eval o X.env)=eval o X.env:=by rfl)(hline:(apos.endLine==cpos.line)=true:=by rfl) :
  PI X tg (.Call (.Attribute o "values" apos) [] [] cpos) (iVals to):=by
 intro ae s O H R I h;refine wpAny_Call_method0_late hbase hline (thn (ho ae s O H _ I h) λv s1 ⟨x,H1,I1,r1,q1⟩=>?_);obtain⟨d,ob,aj,rfl,hd,q⟩:=q1;cases r1;obtain⟨go,ok⟩:=I1.hok d _ hd;obtain⟨z,lo,vs,rel,dd⟩:=(show ObjOk X.prog X.w H1 s1.heap d (.dK aj)from ok);obtain⟨o',es',ep,g',xo,hdat,hk,hp,hn⟩:=id dd;rw[go]at g';cases g';let hlen:vs.length=aj.length:=rel.length.symm;refine{"dict","dict.values",PySem.F.plainAttrs_dict,PySem.F.slot_dict_values,PySem.F.type_dict_values,{_,go,xo.1},(λa e=>by cases e;exact{_,go,xo.2.1}),Calls.callWith_builtin rfl (PySem.evalArgs_none ?_)};refine TF lo dd ?_;let at1:#[31].DictAt (jU X.prog X.w) d vs ep:={ob,es',gC _ go,xo,hdat,hk,hp,hn};refine wpAny_pyIter_values (s:={ s1 with heap:=s1.heap.push { cls:=.type "dict_values",data:=.fields #[.ref d] } }) {_,gU _ rfl,rfl,rfl} at1 ?_;let psz:#[31].objs.size=s1.heap.objs.size+1:=nG ..;refine{_,[#[31].objs.size],_,_,H1,rfl,I1.kept (t':=s1.toks) λb o e=>gC _ (gC _ e),SN d _ hdat,by rw[<-hlen];exact{_,gU _ rfl,rfl,rfl},λb hb=>?_,q};let e:b=#[31].objs.size:=by simpa using hb
 let hb':s1.heap.objs.size<=b:=by rw[e,psz];exact Nat.le_succ _
 exact I1.fpOk hb' (I1.hok.fresh hb')
end
theorem ZN{d:Addr}{o:Obj}{aj:List (Key×V)}{g:TG}{tb:TS}{D:Ends}{O:L2.St}{H:Hp}(Pv:Nat->L2.St->Hp->Prop)(h0:Pv 0 O H)(hl:∀i O H,i<=aj.length->Pv i O H->H d=some (.frz o (.dK aj)))
  (hs:∀i k x O H,aj[i]? = some (k,x)->Pv i O H->g x O H fun O2 H2=>tb { D with nx:=Pv (i+1),ct:=Pv (i+1),bk:=D.nx } O2 H2) (hd:∀O H,Pv aj.length O H->D.nx O H) :
  ∃W:Nat->Nat->L2.St->Hp->Prop,(∃m,W 0 m O H)/\∀i m O H,W i m O H->
   ((Itw d o aj).stop i H/\D.nx O H)∨((Itw d o aj).go i H/\∃N:L2.St->Hp->Prop,(∀O' H',N O' H'->∃m',m'<m/\W (i+1) m' O' H')/\∀x H',(Itw d o aj).yld i H x H'->g x O H' fun O2 H2=>tb { D with nx:=N,ct:=N,bk:=D.nx } O2 H2):=by
 refine{λi m O H=>m=aj.length-i/\i<=aj.length/\Pv i O H,{aj.length,by simp,tF _,h0}, ?_};rintro i m O H ⟨rfl,hi,p⟩;let q:=hl i O H hi p;by_cases hlt:i<aj.length
 .refine .inr {{q,(hlt)},Pv (i+1),fun O' H' p'=>{aj.length-(i+1),∎,rfl,hlt,p'},λv H' y=>?_};obtain⟨rfl,k,hx⟩:=y;exact hs i k v O H' hx p
 .have ei:i=aj.length:=∎
  subst ei;exact .inl {{q,(rfl)},hd O H p}
def VW(td ty tx:TE):TE:=fun O H Q=>td O H λx H1=>∃a,x=.ref a/\IsD H1 a/\ty O H1 λy H2=>tx O H2 λz H3=>∃aj k,H3 a=some (.dK aj)/\y=kV k/\aj.length<sizeLine/\(∀v,kK aj k=some v->Q v H3)/\(kK aj k=none->Q z (upd H3 a (.dK (qB aj k z))))
section
variable{X:Cx}{o e f:Expr}{td ty tx:TE}{apos cpos:Pos}
theorem d_setdef{aj:List (Key×V)}{E:Value->Shared->Prop}{Q:Value->Shared->Prop}(I:Inv X ae O H s)(ea:H a=some (.dK aj))(l:aj.length<sizeLine)(ry:RelV (kV k) u)(rz:RelV z r)
  (h1:∀v w' s',kK aj k=some v->Inv X ae O H s'->RelV v w'->Q w' s') (h2:kK aj k=none->∀s',Inv X ae O (upd H a (.dK (qB aj k z))) s'->Q r s'):wpAny #[1] A (call (.builtin "dict.setdefault") [.ref a,u,r]) Q E s:=by
 obtain⟨zl,hd,vs,rel,dd⟩:=RX I.hok ea;let hz:vs.length<=sizeLine:=by rw[<-rel.length];exact zl
 let hl:(qB aj k z).length<=sizeLine:=by let:=vW aj k z;∎
 let rv:=rel.val k;refine call_meetsIn PySem.F.slot_dict_setdefault dd.typeIs PySem.F.entry_dict_setdefault (PySem.F.args_dict_setdefault_3 _ _ _) (kt_meets_setdefault (jU X.prog X.w) a (BG ry) hd r) {vs,dd,hz,λv hv=>?_,λhn h' dd' hs=>?_}
 .cases q:kK aj k with
  | none=>rw[q,hv]at rv;exact absurd rv (λz=>by cases z)
  | some v'=>
   rw[q,hv]at rv;exact h1 v' v _ q (I.tok _) rv
 .cases q:kK aj k with
  | some v'=>rw[q,hn]at rv;exact absurd rv (λz=>by cases z)
  | none=>
   let he:∃q,h'.get? a=some q:=let ⟨q,_,_,hq,_⟩:=dd';{q,(hq)};exact h2 q _ (yG I (by rw[ea];exact True.intro) hs he (EH hl hd (rel.put k rz) dd'))
theorem JS(ho:PE X o td)(he:PE X e ty)(hf:PE X f tx)(m:M2 X o "setdefault" apos e f cpos):PE X (.Call (.Attribute o "setdefault" apos) [e,f] [] cpos) (VW td ty tx):=by
 intro ae s O H Q I h;refine wpAny_Call_method m.base m.few m.line PySem.F.plainAttrs_dict PySem.F.slot_dict_setdefault PySem.F.type_dict_setdefault (thn (ho ae s O H _ I h) λu s1 ⟨x,H1,I1,rx,a,ex,d,q1⟩=>?_);subst ex;obtain rfl:u=Value.ref a:=rx;obtain⟨t1,t2,_⟩:=NK I1 d;refine{t1,t2, ?_};rw[m.trees];refine Calls.callWith_builtin rfl (Calls.evalArgs_plain (Calls.spliced_cons (thn (he ae s1 O H1 _ I1 q1) λiv s2 ⟨y,H2,I2,ry,q2⟩=>
  Calls.spliced_cons (thn (hf ae s2 O H2 _ I2 q2) λfv s3 ⟨z,H3,I3,rz,aj,k,ea,ey,lz,q3,q4⟩=>Calls.spliced_nil ?_))))
 subst ey;exact d_setdef I3 ea lz ry rz (λv w' s4 l I4 rw'=>{v,_,I4,rw',q3 v l}) λn s4 I4=>{z,_,I4,rz,q4 n}
end
open LwD
section
variable{X:Cx}
def rMaxK(d:Int):List V->Hp->VK->Prop:=λxs H Q=>∃(a:Addr) (aj:List (Key×V)),xs=[.ref a]/\Rd H a (.dK aj)/\(∀p∈aj,∃i:Int,p.1=.inl i)/\(aj=[]->Q (.int d) H)/\∀m,m∈jN aj->(∀x∈jN aj,x<=m)->Q (.int m) H
theorem UV{d:Int}(hc:X.calm=true)(I:Inv X ae O H s)(ha:Rd H a (.dK aj))(hk:∀p∈aj,∃i:Int,p.1=.inl i)
  (q0:aj=[]->Q (.int d) H) (q1:∀m,m∈jN aj->(∀x∈jN aj,x<=m)->Q (.int m) H):wpAny #[1] X.A (call (.builtin "max") [.ref a] [(Str.ofString "default",.int d t)]) #[60] X.xe s:=by
 obtain⟨z,lo,ks,rel,dd⟩:=AE I.hok ha;obtain⟨o,es,ep,hd1,hd2,hd3,he,hp,hn⟩:=id dd;let raw:Raw s.heap a es ep:={o,hd1,hd2,(hd3)};let esz:es.size=aj.length:=by rw[rel.length,<-hp.length];simp
 let al:a<s.heap.objs.size:=raw.lt;let kl:(jN aj).length=aj.length:=by unfold jN;rw[mS]
 generalize hns:jN aj=ns at q1 kl;let key:∀(j:Nat) (h:j<es.size),∃t,es[j].key=.int (ns.getD j 0) t:=λj h=>by
  let hj':j<es.toList.length:=by simpa using h
  obtain⟨k,u',h1,h2⟩:=FD hp j hj';let jk:j<aj.length:=by rw[<-esz];exact h
  obtain⟨u2,g1,_⟩:=RD rel (i:=j) (k:=aj[j].1) (x:=aj[j].2) (by rw[uY jk]);rw[h1]at g1;cases g1;obtain⟨i,hi⟩:=hk aj[j] (mO jk);rw[hi]at h2;let r2:RelV (V.int i) (es.toList[j]).key:=HM h2;let en:ns.getD j 0=i:=by
   rw[<-hns];unfold jN;rw[uT,mB,uY jk];show(match aj[j].1 with | .inl i=>i | .inr _=>0)=i;rw[hi]
  rw[en];obtain⟨t,ht⟩:=r2;exact{t,by simpa using ht}
 refine LwMx.mx_call (DC lo raw ?_);refine{s.heap.objs.size,_,_,_,_,_,λi j=>decide (ns.getD i 0>ns.getD j 0),rfl,FB #[51] (nS al),{{_,gU _ rfl,rfl,rfl},raw.keep λo e=>gC _ e}, ?_, ?_, ?_, ?_}
 .intro b hb;show b<(s.heap.push _).objs.size;rw[nG];simp only[nI,mK,or_false]at hb;rcases hb with rfl | rfl
  .exact mQ _
  .exact Nat.lt_succ_of_lt al
 .refine CmpOf.ints_gt (λi=>ns.getD i 0) λi v hv=>?_;obtain⟨hi,e⟩:=hv;obtain⟨t,ht⟩:=key i hi;exact{t,by rw[e,ht]}
 .intro zz h' tk k;let z':aj=[]:=List.length_eq_zero_iff.mp (by omega);refine{.int d,H,I.kept (t':=tk) (λb o e=>k b o ?_ (gC _ e)),{t,(rfl)},q0 z'};simp;exact nS (nP e)
 .intro zz v h' tk hv k;obtain⟨b1,b2⟩:=LwMx.best_is ns (es.size-1) (by omega);generalize argBest #[36] (es.size-1)=i at hv b1 b2;obtain⟨hi,e⟩:=hv;obtain⟨t,ht⟩:=key i hi;let il:i<ns.length:=by omega
  let gi:ns[i]? = some (ns.getD i 0):=by rw[uT,uY il];rfl
  refine{.int (ns.getD i 0),H,I.kept (t':=tk) (λb o e=>k b o ?_ (gC _ e)),{t,by rw[e,ht]},q1 _ (gL gi) λx hx=>?_}
  .simp;exact nS (nP e)
  .obtain⟨j,hj⟩:=gK.mp hx;let hjl:=(uW.mp hj).1;let:=b2 j (by omega);rw[uT (l:=ns) (i:=j),hj]at this;exact this
variable{p pos kpos:Pos}{e e2:Expr}{es:List Expr}{t tk:TA}
def tMaxK(t tk:TA):TE:=fun O H Q=>t O H λvs H1=>tk O H1 λzs H2=>∃d,zs=[.int d]/\rMaxK d vs H2 Q
theorem pe_maxK(hc:X.calm=true)(hg:Gl X "max")(hm:X.mg "max" = none)(ha:PA X [e] t)(hk:PK X [{some "default",e2,kpos}] tk)
  (hall:#[15].all (·.1.isSome)=true:=by rfl) (hks:#[15].filterMap (·.1)=[Str.ofString "default"]:=by rfl)
  (he:starEach [e] X.env=[(false,eval e X.env)]:=by rfl)
  (hpl:((backTo pos (starEach [e] X.env)).any (·.1)||#[15].any (·.1.isNone))=false:=by rfl) :
  PE X (.Call (.Name "max" p) [e] [{some "default",e2,kpos}] pos) (tMaxK t tk):=by
 intro ae s O H Q I h;refine wpAny_Call_Name_kw (yH I hg hm (show bootBuiltins "max" = some (.builtin "max") by decide +kernel) ?_ #[0] #[0]);refine PySem.W.callWith_of (P:=λ_=>True) hpl (λ_ _=>{_,.inr (.inl rfl),PySem.W.Looks.of_pure rfl}) (evalArgs_kw2 hall (thn #[46] λus s1 ⟨vs,H1,I1,r,q⟩=>?_) he);refine thn (hk pos ae s1 O H1 _ I1 q) λws s2 ⟨zs,H2,I2,rz,q2⟩=>{trivial, ?_};rw[hks];obtain⟨d,rfl,a,aj,rfl,ra,hk',q0,q1⟩:=q2;obtain⟨u,rfl,ru⟩:=vV r;cases ru;obtain⟨u,rfl,⟨t,rfl⟩⟩:=vV rz;exact UV hc I2 ra hk' q0 q1
end
end Lw
namespace L2
open PySem PySem.Spec PyProof.Rows
section
variable{prog:Program}{w:World}{A:Around}{E:Value->Shared->Prop}{s:Shared}
theorem TJ{n:Int}{Q:Value->Shared->Prop}(hr:IsRange s.heap r 0 n 1 t u v)(h0:0<=n)(h1:n<2^62)
  (h:Q (.ref s.heap.objs.size) { s with heap:=s.heap.push { cls:=.type "range_iterator",data:=.fields #[rawInt (n-1),rawInt n,rawInt (-1)] } }) :
  wpAny #[3] A (call (.builtin "range.__reversed__") [.ref r]) Q E s:=by
 let hT:s.TypeIs (.ref r) "range":={_,hr,rfl};refine wpAny_call_entry F.slot_range_reversed hT F.entry_range_reversed ?_ (F.args_range_reversed_1 _);unfold Builtin.«range.__reversed__»;refine tK (wpAny_of_eq (a:=Value.ref r) rfl ?_);let rf:∀{Q':Int×Int×Int->Shared->Prop} {E':Value->Shared->Prop},Q' (0,n,1) s->wpAny #[3] A.in1 (Builtin.Range.rangeFields (.ref r)) Q' E' s:=fun {Q' E'} hq=>by
  unfold Builtin.Range.rangeFields;refine tK (wpAny_field hr rfl (x:=.int 0 t) rfl (tK (tL ?_)));refine tK (wpAny_field hr rfl (x:=.int n u) rfl (tK (tL ?_)));refine tK (wpAny_field hr rfl (x:=.int 1 v) rfl (tK (tL ?_)));exact tL hq
 refine tK (rf ?_);let sz:Builtin.Range.rangeSize 0 n 1=n:=by rw[rangeSize_one];split<;>∎
 let sm:(Builtin.Range.rangeFitsLong 0&&Builtin.Range.rangeFitsLong n&&Builtin.Range.rangeFitsLong 1&&Builtin.Range.rangeFitsLong (-1)&&Builtin.Range.rangeFitsLong (0-1)&&Builtin.Range.rangeFitsLong n)=true:=by
  simp only[Builtin.Range.rangeFitsLong,Bool.and_eq_true,decide_eq_true_eq]
  ∎
 dsimp only;rw[sz,sm];rw[tN #[0]];let e:0+(n-1)*1=n-1:=∎
 rw[e];exact tK (wpAny_newObj_type (tL {_,rfl,h}))
theorem code_rev{n:Int}{Q₁:Value->Shared->Prop}(hr:IsRange s.heap r 0 n 1 t u v)(h0:0<=n)(h1:n<2^62)
  (h:Q₁ (.ref s.heap.objs.size) { s with heap:=s.heap.push { cls:=.type "range_iterator",data:=.fields #[rawInt (n-1),rawInt n,rawInt (-1)] } }) :
  codeAny #[3] A (.call (.builtin "reversed.__new__") {[.type "reversed",.ref r],[]}) (wants Q₁ E) s:=by
 let hT:s.TypeIs (.ref r) "range":={_,hr,rfl};refine codeAny_of_tree ?_;show wpAny _ A.in1 (do checkBuiltinCall "reversed.__new__" {[.type "reversed",.ref r],[]};again (.builtin "reversed.__new__" {[.type "reversed",.ref r],[]})) _ _ s;refine tK (wpAny_of_eq (F.newCall_reversed_1 _) (tL {plainId_quiet F.plain_reversed_new _,codeAny_builtin F.entry_reversed_new ?_}));rw[Around.under_plainId F.plain_reversed_new _];unfold Builtin.«reversed.__new__»;refine tK (wpAny_of_eq (newClass_reversed _) ?_);try dsimp only
 refine tK (wpAny_of_eq (a:=()) (by first | rfl | kernel_rfl) ?_);refine tK (wpAny_of_eq (a:=()) (by first | rfl | kernel_rfl) ?_);try dsimp only
 refine tK (wpAny_specialOf hT F.slot_range_reversed.lookup ?_);try dsimp only
 refine tK (wpAny_of_eq (F.slot_range_reversed.bind _) ?_);try dsimp only
 first
 | rw[tN (show ¬((Value.builtin "range.__reversed__"==Value.none)=true)from gY)]
 | (show wpAny _ _ (if (Value.builtin "range.__reversed__"==Value.none)=true then _ else _) _ _ _;rw[tN (show ¬((Value.builtin "range.__reversed__"==Value.none)=true)from gY)])
 refine tK (wpAny_rule ?_);refine tK (m:=runValue (.call (.builtin "range.__reversed__") {[.ref r],[]})) (show wpAny _ _ (call (.builtin "range.__reversed__") [.ref r]) _ _ _ from TJ hr h0 h1 ?_);first
 | exact tL h
 | exact tK (tL (tL h))
theorem BK:isSubtype (.type "range_iterator") (.type "reversed")=pure false:=by rw[isSubtype_type];kernel_rfl
theorem call_rev{n:Int}{Q:Value->Shared->Prop}(hr:IsRange s.heap r 0 n 1 t u v)(h0:0<=n)(h1:n<2^62)
  (h:Q (.ref s.heap.objs.size) { s with heap:=s.heap.push { cls:=.type "range_iterator",data:=.fields #[rawInt (n-1),rawInt n,rawInt (-1)] } }) :
  wpAny #[3] A (call (.type "reversed") [.ref r]) Q E s:=by
 refine callType_other (U:="range_iterator") (Q₁:=λobj s₁=>obj=.ref s.heap.objs.size/\s₁ = { s with heap:=s.heap.push { cls:=.type "range_iterator",data:=.fields #[rawInt (n-1),rawInt n,rawInt (-1)] } }) #[2] F.create_reversed {_,_,F.mro_reversed} F.made_reversed BK (F.typeCall_reversed_1 _) (code_rev hr h0 h1 {rfl,(rfl)}) ?_;rintro obj s₁ ⟨rfl,rfl⟩;exact{{_,gU _ rfl,rfl},h}
end
def Itd(n:Nat):It:={λi _=>i<n,λi H x H'=>H'=H/\x=.int ((n:Int)-1-i),λi _=>n<=i}
theorem SS{P:Program}{w:World}{K:tP}{tg:Expr}(it:Addr)(n:Nat):Turn P w K tg (Itd n) [it] it (λi h=>IsRangeIter h it (((n:Int)-1)+(i:Nat)*(-1)) ((n:Int)-(i:Nat)) (-1)) where
 mem:=by simp
 obj:=λi h st b hb=>by
  let e:b=it:=by simpa using hb
  subst e;exact⟨_,st,λv z=>by
   let z':Data.fields _=Data.cell v:=z;cases z'⟩
 keep:=λi h h' st k=>k it #[14] _ st
 item:=by
  intro X hP hw hK hc i ae s O H E I hf st hg;subst hP hw hK;obtain⟨f0,f1,f2,f3,f4,f5⟩:=hf it #[14];let W:=Walks.range (prog:=X.prog) (w:=X.w) (I.ok.hd hc) it ((n:Int)-1) (-1) n;refine W.item i s _ _ hg st λv h' tk hv st' kk=>?_;obtain⟨t,rfl⟩:=hv;let I1:Inv X ae O H { s with heap:=h',toks:=tk } :=I.turned (λb o hb e=>kk b o (by simpa using hb) e) f0 f1 f3 f4 f5;refine{_,rfl,FM (s:={ s with heap:=h',toks:=tk }) (n:="range_iterator") st' rfl rfl #[0] {.int ((n:Int)-1-i),H,I1,{t, ?_},{rfl,(rfl)},st',λb hb=>(hf b hb).1}};rw[show(n:Int)-1+(i:Int)*(-1)=(n:Int)-1-i by ∎]
 done:=by
  intro X hP hw hK hc i ae s O H E I hf st hg;subst hP hw hK;obtain⟨f0,f1,f2,f3,f4,f5⟩:=hf it #[14];exact wpAny_pyNext_range_end (I.ok.hd hc) st (by let:n<=i:=hg;∎) λh' eb=>{rfl,I.turned (t':=s.toks) (λb o hb e=>eb b o hb e) f0 f1 f3 f4 f5}
 self:=λ_ _ _ _ _ st h=>wpAny_pyIter_rangeiter st h
section
variable{X:Cx}{tg:Expr}
def rRange:List V->Hp->VK->Prop:=λxs H Q=>∃n:Int,xs=[.int n]/\∀p,H p=none->Q (.ref p) (upd H p (.rng 0 n))
theorem NU:CallR X (.type "range") rRange:=by
 intro ae s O H xs us Q I r h;obtain⟨n,rfl,q⟩:=h;obtain⟨u,rfl,t,rfl⟩:=vV r;refine call_range_1 {.ref s.heap.objs.size,_,I.laid (a:=s.heap.objs.size) (o:=.rng 0 n) (λb u e=>gC _ e) uP {_,_,_,gU _ rfl},rfl,q _ (I.hok.fresh uP)}
def iRev(ta:TA):TI:=fun O H R=>ta O H λvs H1=>∃(r:Addr) (n:Nat),vs=[.ref r]/\H1 r=some (.rng 0 n)/\n<2^62/\R (Itd n) H1
theorem pi_rev(hg:Gl X "reversed")(hm:X.mg "reversed" = none)(ha:PA X [a] ta)(hs:starEach [a] X.env=[(false,eval a X.env)]:=by rfl):PI X tg (.Call (.Name "reversed" p) [a] [] pos) (iRev ta):=by
 intro ae s O H R I h;refine Call_ (yH I hg hm (show bootBuiltins "reversed" = some (.type "reversed") by decide +kernel) (PyProof.Rows.callWith_type1 #[39] hs rfl));obtain⟨r,n,e,hr,hn,q⟩:=q1;subst e;obtain⟨u,rfl,ru⟩:=vV r1;cases ru;obtain⟨t,u,v,ho⟩:=(show ObjOk X.prog X.w H1 s1.heap r (.rng 0 n)from I1.hok r _ hr);refine call_rev ho ∎ ∎ (wpAny_pyIter_rangeiter (gU _ rfl) ?_);refine{s1.heap.objs.size,[s1.heap.objs.size],_,_,H1,rfl,I1.kept (t':=s1.toks) λb o e=>gC _ e,SS _ n, ?_,λb hb=>?_,q}
 .show IsRangeIter _ _ _ _ _;rw[show(n:Int)-1+((0:Nat):Int)*(-1)=n-1 by ∎,show(n:Int)-((0:Nat):Int)=n by ∎];exact gU _ rfl
 .have e:b=s1.heap.objs.size:=by simpa using hb
  subst e;exact I1.fpOk uP (I1.hok.fresh uP)
end
open Lw
section
variable{X:Cx}{pos:Pos}
theorem wI:∀{xs:List V} {us:List Value},Vals xs us->Vals xs.reverse us.reverse
 | _,_,.nil=>.nil
 | _,_,.cons h t=>by rw[List.reverse_cons,List.reverse_cons];exact(wI t).append (.cons h .nil)
def tBackL(K:tP)(te:TE)(ts:TO):TE:=fun O H Q=>te O H λx H1=>ts O H1 λo H2=>o=some (-1)/\∃a xs,x=.ref a/\SqL K H2 a xs/\New H2 (.lst xs.reverse) Q
theorem XC{e st:Expr}{te:TE}{ts:TO}{p2:Pos}(he:PE X e te)(hs:PO X (some st) ts):PE X (.Subscript e (.Slice none none (some st) p2) pos) (tBackL X.K te ts):=by
 intro ae s O H Q I h;refine Subscript_ (thn (he ae s O H _ I h) λv s1 ⟨x,H1,I1,r1,q1⟩=>?_);refine wpAny_Slice ?_;rw[evalPart_none];refine tL (tL (thn (hs ae s1 O H1 _ I1 q1) λvs s2 ⟨o,H2,I2,po,eo,a,xs,ex,hx,q⟩=>?_));subst eo ex;cases r1;cases po with
 | int i u=>
 let I3:Inv X ae O H2 { s2 with heap:=s2.heap.push { cls:=.type "slice",data:=.fields #[.none,.none,.int (-1) u] } } :=I2.kept (t':=s2.toks) λb ob q=>gC _ q;obtain⟨its,r,ht,hz⟩:=I3.list hx;let hl:its.toArray.size=xs.length:=by rw[mC];exact r.length.symm
 show wpAny #[1] X.A (subscriptTail e (.Slice none none (some st) p2) (.ref a) (.ref s2.heap.objs.size)) #[60] X.xe { s2 with heap:=s2.heap.push { cls:=.type "slice",data:=.fields #[.none,.none,.int (-1) u] } };refine tail_any (ops:=[.ref a,.ref s2.heap.objs.size]) ht.isList.typeIs slot_list_getitem.lookup ?_ (by with_unfolding_all rfl);refine wpAny_getItem_list_slice ht.isList (Heap.IsSliceOf.new ..) .none .none (.int (-1) u) #[0] ?_ (by rw[hl];exact hz);rw[PySem.W.krv_pick];let n:=I3.hok.fresh (tE (s2.heap.push { cls:=.type "slice",data:=.fields #[.none,.none,.int (-1) u] }).objs.size);refine{.ref _,_,I3.laid (t':=s2.toks) (o:=.lst xs.reverse) (λb ob q=>gC _ q) uP ?_,rfl,q _ _ n (Lw.jO _ n) jE};exact{by rw[List.length_reverse];exact hz,_,0,wI r,gU _ rfl}
end
section
variable{prog:Program}{w:World}{A:Around}{E:Value->Shared->Prop}{s:Shared}
end
section
variable{X:Cx}{pos:Pos}
end
structure ZL(z TI TO i1 i2 l1 l2:Addr)(k:Nat)(h:Heap):Prop where
 zz:IsZip h z TI TO .none
 ti:IsPair h TI (.ref i1) (.ref i2)
 to:∃a b,IsPair h TO a b
 one:h.IsListIter i1 l1 k
 two:h.IsListIter i2 l2 k
section
variable{X:Cx}
end
end L2
namespace L2
open PySem PySem.Spec PyProof.Rows
section
variable{prog:Program}{w:World}{A:Around}{E:Value->Shared->Prop}{s:Shared}
end
section
variable{X:Cx}{tg:Expr}
end
end L2
namespace Lw
open PySem PySem.Spec PyProof.Rows L2
section
variable{X:Cx}
end
section
variable{prog:Program}{w:World}{A:Around}{E:Value->Shared->Prop}{s:Shared}
end
section
variable{X:Cx}
end
section
variable{prog:Program}{w:World}{A:Around}{R:Result->Shared->Prop}{s:Shared}
theorem ES(I:Nat->Shared->Prop)
  (turn:∀n s,I n s->wpAny #[3] A (pyNext it) (λr s₁=>match r with
   | none=>R (.ok .next) s₁
   | some v=>wpAny #[3] A (letOwnedTupleGo target it v) (λ_ s₁'=>wpAny #[3] A (assign target env v) (λ_ s₂=>wpAny #[3] A (eval kx env) (λx s₃=>wpAny #[3] A (eval vx env) (λy s₃'=>
     wpAny #[3] A (dictSet D x y) (λ_ s₄=>∃m,m<n/\I m s₄) (notedBy #[3] A env λe s'=>R (.error e) s') s₃') (notedBy #[3] A env λe s'=>R (.error e) s') s₃)
     (notedBy #[3] A env λe s'=>R (.error e) s') s₂) (notedBy #[3] A env λe s'=>R (.error e) s') s₁') (notedBy #[3] A env λe s'=>R (.error e) s') s₁) (notedBy #[3] A env λe s'=>R (.error e) s') s)
  (n:Nat) (h:I n s) :
  codeAny #[3] A (.compLoop (.DictComp kx vx [{target,iter,[],0}] scope pos) 0 it (.ref D) env) R s:=by
 refine codeAny_loop rfl I (λn s hI=>?_) n h;show wpAny _ _ ((compTurn (.DictComp kx vx [{target,iter,[],0}] scope pos) 0 it (.ref D) env).onRaise (λx=>do noteFrame x env;theTreesLotGoes x)) _ _ s;refine wpAny_noted ?_;rw[compTurn_dict];refine tK #[63];cases r with
 | none=>exact tL h₁
 | some v=>
  refine tK (tM h₁ (λ_ s₁' h₁'=>?_) λ_ _ h'=>h');refine tK (tM h₁' (λ_ s₂ h₂=>?_) λ_ _ h'=>h');refine tK ?_;rw[List.forIn_nil];refine tL ?_;dsimp only;rw[tO rfl];refine tK (tK (tM h₂ (λx s₃ h₃=>tK (wpAny_holding (tM h₃ (λy s₃' h₃'=>tK (wpAny_standAt (wpAny_holding (tM h₃' (λ_ s₄ h₄=>tL {rfl,(h₄)}) λ_ _ h'=>h')))) λ_ _ h'=>h'))) λ_ _ h'=>h'))
end
section
variable{X:Cx}
abbrev BD(X:Cx)(target kx vx:Expr)(env:Env)(a:Addr)(R:Result->Shared->Prop)(v:Value)(K:Shared->Prop)(s:Shared):Prop:=
 wpAny #[1] X.A (assign target env v) (λ_ s₂=>wpAny #[1] X.A (eval kx env) (λx s₃=>wpAny #[1] X.A (eval vx env) (λy s₃'=>
  wpAny #[1] X.A (dictSet a x y) (λ_ s₄=>K s₄) (notedBy #[1] X.A env λe s'=>R (.error e) s') s₃') (notedBy #[1] X.A env λe s'=>R (.error e) s') s₃) (notedBy #[1] X.A env λe s'=>R (.error e) s') s₂) (notedBy #[1] X.A env λe s'=>R (.error e) s') s
end
def DCompGoK(O0:L2.St)(J:It)(g:TG)(tk tv:TE)(Q:VK)(p:Addr)(H':Hp):Prop:=
 ∃W:Nat->Nat->List (Key×V)->Hp->Prop,(∃m,W 0 m [] H')/\∀i m ys H2,W i m ys H2->H2 p=some (.dK ys)/\ys.length<sizeLine/\
  ((J.stop i H2/\Q (.ref p) H2)∨(J.go i H2/\∀x H3,J.yld i H2 x H3->g x O0 H3 fun O4 H4=>Keep O0 O4/\tk O4 H4 λy H5=>tv O4 H5 λv H6=>∃(k:Key),y=kV k/\H6 p=some (.dK ys)/\∃m',m'<m/\W (i+1) m' (qB ys k v) (upd H6 p (.dK (qB ys k v)))))
def tDCompK(own:Nat)(idx:List Nat)(wi:TI)(g:TG)(tk tv:TE):TE:=fun O H Q=>wi O H λJ H1=>∀p H',H1 p=none->Same H1 H'->H' p=some (.dK [])->
 DCompGoK #[48] J g tk tv Q p H'
section
variable{X:Cx}
theorem d_setK{E:Value->Shared->Prop}{aj:List (Key×V)}{Q:Unit->Shared->Prop}(I:Inv X ae O H s)(e:H a=some (.dK aj))(l:aj.length<sizeLine)(ry:RelV (kV k) u)(rv:RelV v r)
  (h:∀s',Inv X ae O (upd H a (.dK (qB aj k v))) s'->Q () s'):wpAny #[1] A (dictSet a u r) Q E s:=by
 obtain⟨z,hd,vs,rel,dd⟩:=RX I.hok e;let hz:vs.length<=sizeLine:=by rw[<-rel.length];exact z
 let hl:(qB aj k v).length<=sizeLine:=by let:=vW aj k v;∎
 refine wpAny_dictSet_pairs (hsz:=hz) (BG ry) dd λh' dd' hs=>h _ ?_;let he:∃q,h'.get? a=some q:=let ⟨q,_,_,hq,_⟩:=dd';{q,(hq)};exact yG I #[69] hs he (EH hl hd (rel.put k rv) dd')
theorem new_dK(s2:Shared)(H1:Hp)(h:Heap)(I2:Inv X ae O H1 s2)(hD:h.get? s2.heap.objs.size=some { cls:=.type "dict",dict:=none,data:=.dict #[] 0 }):ObjOk X.prog X.w (upd H1 s2.heap.objs.size (.dK [])) h s2.heap.objs.size (.dK []):=
 {tF _,beq_eq_false_iff_ne.mpr (Ne.symm (nS I2.big)),[],.nil,_,#[],0,hD,{rfl,rfl,(rfl)},rfl,(λ_ he=>by simp at he),Pairs.nil,mZ}
theorem cgoK(hg:∀C fp s2 H2,PG #[7] target g)(hkx:∀C fp s2 H2,PE #[7] kx tk)(hvx:∀C fp s2 H2,PE #[7] vx tv)(C:Addr)(fp:List Addr)(s2:Shared)(H2:Hp)(J:It)(p:Addr)(H':Hp)(R:Result->Shared->Prop)
  (h:DCompGoK O0 J g tk tv Q p H'):CGo #[7] O0 J (BD X target kx vx (compEnvC scope cl C X.env) p R) (λH=>Q (.ref p) H) H':=by
 obtain⟨W,⟨m0,w0⟩,turn⟩:=h;refine{λi m H=>∃ys,W i m ys H,{m0,[],w0}, ?_};rintro i m H3 ⟨ys,w⟩;obtain⟨hp3,hz3,hw⟩:=turn i m ys H3 w;refine hw.imp id λ⟨go,step⟩=>{go,λx H5 y5 pns u s5 K I5 r5 hK=>?_};refine tM (hg _ _ _ _ _ s5 _ H5 x u _ I5 r5 (step x H5 y5)) (λ_ s6 ⟨O6,H6,I6,kp6,q6⟩=>?_) λ_ _ z=>z.elim;refine tM (hkx _ _ _ _ _ s6 O6 H6 _ I6 q6) (λy s7 ⟨yv,H7,I7,r7,q7⟩=>?_) λ_ _ z=>z.elim;refine tM (hvx _ _ _ _ _ s7 O6 H7 _ I7 q7) (λv' s7' ⟨vv,H7',I7',r7',q7'⟩=>?_) λ_ _ z=>z.elim;obtain⟨k',ey,e7,m',hm',w7⟩:=q7';subst ey;exact d_setK (X:=jL X N scope cl C fp s2 H2) (A:=X.A) I7' e7 hz3 r7 r7' λs8 I8=>hK _ _ _ m' I8 kp6 hm' {_,w7}
theorem AS{own:Nat}{idx:List Nat}{N:List Str}{scope:Scope}{cl:List (Str×Addr)}(hc:X.calm=true)
  (hk:scope.kind=.function) (hclos:closureFor scope X.env=pure cl) (hcell:∀x∈scope.names,x.2≠.cell) (hnames:∀x∈scope.names,x.2=.local->scope.names.lookup x.1=some .local)
  (hsub:∀x c,cl.lookup x=some c->X.env.cells.lookup x=some c) (hhas:∀x,(#[12].names.lookup x=some .cell∨#[12].names.lookup x=some .free)->∃c,cl.lookup x=some c)
  (hlen:N.length=own+idx.length)
  (hidx:∀(k j:Nat) (x:Str),idx[k]? = some j->N[own+k]? = some x->X.N[j]? = some x/\X.env.kindOf x=some .cell/\#[12].names.lookup x=some .cell/\X.env.scope.names.lookup x=some .cell)
  (hi:PI X target iter wi) (hg:∀C fp s2 H2,PG #[7] target g) (hkx:∀C fp s2 H2,PE #[7] kx tk) (hvx:∀C fp s2 H2,PE #[7] vx tv)
  (hs:∀x,foldedSetIterable iter X.env x=pure x:=by intro _;rfl):PE X (.DictComp kx vx [{target,iter,[],0}] scope pos) (tDCompK own idx wi g tk tv):=by
 intro ae s O H Q I h;rw[arm_eval_DictComp];exact wG {hk,hclos,hcell,hnames,hsub,hhas,hlen,(hidx)} hc I hi h rfl hs (data:=.dict #[] 0) (tF _) rfl new_dK (B:=BD X target kx vx) (λV=>ES V) codeAny_compStart_dict (cgoK hg hkx hvx) YN
end
section
variable{X:Cx}
end
section
variable{X:Cx}
def rSumL(K:tP):List V->Hp->VK->Prop:=λxs H Q=>∃(a:Addr) (ns:List Int),xs=[.ref a]/\SqL K H a #[16]/\Q (.int ns.sum) H
theorem FT(hc:X.calm=true):CallR X (.builtin "sum") (rSumL X.K):=by
 intro ae s O H xs us Q I r h;obtain⟨a,ns,rfl,hq,q⟩:=h;obtain⟨u,rfl,ru⟩:=vV r;cases ru;obtain⟨its,rv,p,hz⟩:=I.list hq;let i1:IntsAre its ns:=qW rv;let hl:=vD i1;let ha:a<s.heap.objs.size:=by
  obtain⟨o,n,e,_⟩:=p;exact nP e
 refine PySem.call_sum_walkG (wpAny_pyIter_list p.isList ?_);refine{s.heap.objs.size,_,_,_,_,_,λi=>ns.getD i 0,rfl,Walks.list #[51] s.heap.objs.size a (nS ha) its.toArray,{{_,gU _ rfl,rfl,rfl},p.isList.at λo e=>gC _ e}, ?_, ?_, ?_}
 .intro b hb;show b<(s.heap.push _).objs.size;rw[nG];simp only[nI,mK,or_false]at hb;rcases hb with rfl | rfl
  .exact mQ _
  .exact Nat.lt_succ_of_lt ha
 .intro i v hv;let hv':its[i]? = some v:=by simpa using hv
  obtain⟨hi,e⟩:=uW.mp hv';obtain⟨n,t,e1,e2⟩:=vL i1 hi;exact{t,by dsimp only;rw[<-e,e2,uT,e1];rfl}
 .intro h' tk t' k;let e:preSum (λi=>ns.getD i 0) its.toArray.size=ns.sum:=by
   rw[mC,hl,yD ns _ uP,mL]
  rw[e];refine{.int ns.sum,H,I.kept (t':=tk) (λb o q=>?_),{t',(rfl)},q};exact k b o (by simp;exact nS (nP q)) (gC _ q)
theorem dlen{E:Value->Shared->Prop}{s:Shared}{es:Array DictEntry}{ep:Nat}{Q:Value->Shared->Prop}(lo:(d==sysModules)=false)(r:LwD.Raw s.heap d es ep)
  (q:Q (.int es.size s.toks) { s with toks:=s.toks+1 }):wpAny #[3] A (call (.builtin "dict.__len__") [.ref d]) Q E s:=by
 obtain⟨o,ho,hc,hdat⟩:=id r;refine wpAny_call_entry PySem.F.slot_dict_len r.ty PySem.F.entry_dict_len ?_ (PySem.F.args_dict_len_1 _);unfold Builtin.«dict.__len__» Builtin.Dict.dictSlotNone Builtin.Dict.pendingCount dictSize;refine tK (tK (wpAny_notOrdered_dict r.ty (show wpAny _ _ (pure (Value.ref d)) _ _ s from tL ?_)));refine tK (show wpAny _ _ (pure d) _ _ s from tL ?_);refine tK (tK (wpAny_dictEntries ho hdat (tL ?_)));rw[tN (by rw[lo];exact gY)];refine tK (tL ?_);refine tK (wpAny_mkInt (tL {_,rfl, ?_}));simpa using q
def rLenT:List V->Hp->VK->Prop:=λxs H Q=>∃a aj,xs=[V.ref a]/\Rd H a (.dT aj)/\Q (.int aj.length) H
theorem UX:CallR X (.builtin "len") rLenT:=by
 intro ae s O H xs us Q I r h;obtain⟨a,aj,rfl,ha,q⟩:=h;obtain⟨u,rfl,ru⟩:=vV r;cases ru;obtain⟨z,lo,ks,rel,dd⟩:=AC I.hok ha;obtain⟨o,es,ep,hd1,hd2,hd3,he,his,hn⟩:=id dd;let raw:LwD.Raw s.heap a es ep:={o,hd1,hd2,(hd3)};let l1:es.size=aj.length:=(size_of_entries he).trans (Paired.length rel).symm;rw[sizeLine_eq]at z;refine PyProof.Rows.call_len_slot (n:=es.size) raw.ty PySem.F.slot_dict_len (λQ' h=>dlen lo raw h) ∎ ∎ {.int es.size,H,I.tok _,{_,rfl}, ?_};rw[l1];exact q
end
section
variable{prog:Program}{w:World}{A:Around}{R:Result->Shared->Prop}{s:Shared}
end
def CompGoFI(O0:L2.St)(J:It)(g:TG)(tt:TT)(te:TE)(Q:VK)(p:Addr)(H':Hp):Prop:=
 ∃W:Nat->Nat->List V->Hp->Prop,(∃m,W 0 m [] H')/\∀i m ys H2,W i m ys H2->H2 p=some (.lst ys)/\ys.length<sizeLine/\
  ((J.stop i H2/\Q (.ref p) H2)∨(J.go i H2/\∀x H3,J.yld i H2 x H3->g x O0 H3 fun O4 H4=>Keep O0 O4/\tt O4 H4 λb H5=>if b=true then te O4 H5 λy H6=>H6 p=some (.lst ys)/\∃m',m'<m/\W (i+1) m' (ys++[y]) (upd H6 p (.lst (ys++[y])))else ∃m',m'<m/\W (i+1) m' ys H5))
def tCompFI(own:Nat)(idx:List Nat)(wi:TI)(g:TG)(tt:TT)(te:TE):TE:=fun O H Q=>wi O H λJ H1=>∀p H',H1 p=none->Same H1 H'->H' p=some (.lst [])->
 CompGoFI #[48] J g tt te Q p H'
section
variable{X:Cx}
abbrev BI(X:Cx)(target c elt:Expr)(env:Env)(a:Addr)(R:Result->Shared->Prop)(v:Value)(K:Shared->Prop)(s:Shared):Prop:=
 wpAny #[1] X.A (assign target env v) (λ_ s₂=>wpAny #[1] X.A (isTrue c env (eval c env)) (λb s₂'=>if b=true then wpAny #[1] X.A (eval elt env) (λx s₃=>
  wpAny #[1] X.A (call (.builtin "list.append") [.ref a,x]) (λ_ s₄=>K s₄) (notedBy #[1] X.A env λe s'=>R (.error e) s') s₃) (notedBy #[1] X.A env λe s'=>R (.error e) s') s₂' else K s₂') (notedBy #[1] X.A env λe s'=>R (.error e) s') s₂) (notedBy #[1] X.A env λe s'=>R (.error e) s') s
theorem cgoFI(hg:∀C fp s2 H2,PG #[7] target g)(ht:∀C fp s2 H2,PT #[7] c tt)(he:∀C fp s2 H2,PE #[7] elt te)(C:Addr)(fp:List Addr)(s2:Shared)(H2:Hp)(J:It)(p:Addr)(H':Hp)(R:Result->Shared->Prop)
  (h:CompGoFI O0 J g tt te Q p H'):CGo #[7] O0 J (BI X target c elt (compEnvC scope cl C X.env) p R) (λH=>Q (.ref p) H) H':=by
 obtain⟨W,⟨m0,w0⟩,turn⟩:=h;refine{λi m H=>∃ys,W i m ys H,{m0,[],w0}, ?_};rintro i m H3 ⟨ys,w⟩;obtain⟨hp3,hz3,hw⟩:=turn i m ys H3 w;refine hw.imp id λ⟨go,step⟩=>{go,λx H5 y5 pns u s5 K I5 r5 hK=>?_};refine tM (hg _ _ _ _ _ s5 _ H5 x u _ I5 r5 (step x H5 y5)) (λ_ s6 ⟨O6,H6,I6,kp6,q6⟩=>?_) λ_ _ z=>z.elim;refine tM (ht _ _ _ _ _ s6 O6 H6 _ I6 q6) (λb s6' ⟨H6',I6',q6'⟩=>?_) λ_ _ z=>z.elim;cases b with
 | false=>
  rw[tN gY]at q6' ⊢;obtain⟨m',hm',w7⟩:=q6';exact hK _ _ _ m' I6' kp6 hm' {_,w7}
 | true=>
  rw[tO rfl]at q6' ⊢;refine tM (he _ _ _ _ _ s6' O6 H6' _ I6' q6') (λy s7 ⟨yv,H7,I7,r7,e7,m',hm',w7⟩=>?_) λ_ _ z=>z.elim;refine tM #[44] (λ_ s8 ⟨_,H8,I8,_,q8⟩=>?_) λ_ _ z=>z.elim;subst q8;exact hK _ _ _ m' I8 kp6 hm' {_,w7}
end
end Lw
namespace LwD
open PySem PySem.Spec PyProof.Rows L2
section
variable{prog:Program}{w:World}{A:Around}{E:Value->Shared->Prop}{s:Shared}{d it vw:Addr}{es:Array DictEntry}{ep i:Nat}
end
section
variable{X:Cx}
end
end LwD
namespace Lw
open PySem PySem.Spec PyProof.Rows L2
section
variable{X:Cx}
theorem JR{i:Nat}{py spos:Pos}(hN:X.N.Nodup)(hi:X.N[i]? = some y)(hx:Loc X.env.scope y){own:Nat}{idx:List Nat}{N:List Str}{scope:Scope}{cl:List (Str×Addr)}(hc:X.calm=true)
  (hk:scope.kind=.function) (hclos:closureFor scope X.env=pure cl) (hcell:∀x∈scope.names,x.2≠.cell) (hnames:∀x∈scope.names,x.2=.local->scope.names.lookup x.1=some .local)
  (hsub:∀x c,cl.lookup x=some c->X.env.cells.lookup x=some c) (hhas:∀x,(#[12].names.lookup x=some .cell∨#[12].names.lookup x=some .free)->∃c,cl.lookup x=some c)
  (hlen:N.length=own+idx.length)
  (hidx:∀(k j:Nat) (x:Str),idx[k]? = some j->N[own+k]? = some x->X.N[j]? = some x/\X.env.kindOf x=some .cell/\#[12].names.lookup x=some .cell/\X.env.scope.names.lookup x=some .cell)
  (hit:PI X target iter wi) (hg:∀C fp s2 H2,PG #[7] target g) (ht:∀C fp s2 H2,PT #[7] c tt) (he:∀C fp s2 H2,PE #[7] elt te)
  (hsw:swapsWith (.ListComp elt [{target,iter,[c],0}] scope pos) (some (.Name y py)) spos.line X.env=pure true:=by rfl)
  (hs:∀x,foldedSetIterable iter X.env x=pure x:=by intro _;rfl) (hfn:X.fn y=true∨X.env.scope.names.lookup y=some .local:=by first | exact .inl rfl | exact .inr rfl | assumption):PS X (.Assign [.Name y py] (.ListComp elt [{target,iter,[c],0}] scope pos) spos) (xS (tCompFI own idx wi g tt te) (jP i)):=by
 intro ae s O H D I h;rw[exec_Assign_Name_used _ _ _ _ hsw];refine tK (wpAny_standAt (tK ?_));show wpAny _ X.A (do let _<-comprehension (.ListComp elt [⟨target,iter,[c],0⟩] scope pos) scope X.env _ (newList []) false (eval iter X.env) (some (assign (.Name y py) X.env))) _ _ s;exact tK (tM (wG {hk,hclos,hcell,hnames,hsub,hhas,hlen,(hidx)} hc I hit h rfl hs (data:=.seq ([]:List Value).toArray) (tF _) rfl HY (B:=BI X target c elt) (λV=>LO V) codeAny_compStart_list (cgoFI hg ht he) (YM hN hi hx hfn)) (λ_ s' hq=>tL (tL hq)) λ_ _ e=>e)
end
section
variable{X:Cx}{CX:CXT}{k:Nat}{f:Addr}{fd:FuncData}{ps ks:List Str}{sp:Sp}{E:XK}{x:Str}{p pos:Pos}{kws:List Keyword}{tk:TA}{g:List Value->List Value->List Value}{gV:List V->List V->List V}
end
mutual
inductive DecK(K:tP)(H:Hp):V->PyData->Prop where
 | bl (b:Bool):DecK K H (.bl b) (.bool b)
 | int (i:Int):DecK K H (.int i) (.int i)
 | tup {a:Addr} {xs:List V} {ds:List PyData} (e:SqT K H a xs) (h:DecKs K H xs ds):DecK K H (.ref a) (.tuple ds)
inductive DecKs(K:tP)(H:Hp):List V->List PyData->Prop where
 | nil:DecKs K H [] []
 | cons {x:V} {d:PyData} {xs:List V} {ds:List PyData} (h:DecK K H x d) (t:DecKs K H xs ds):DecKs K H (x::xs) (d::ds)
end
section
variable{X:Cx}
mutual
theorem DecK.reads{s:Shared}(I:Inv X ae O H s):∀{x:V} {d:PyData} {u:Value},DecK X.K H x d->RelV x u->∃as,Reads s.heap u d as
 | _,_,_,.bl b,r=>by cases r;exact{_,.bool b}
 | _,_,_,.int i,r=>by obtain⟨t,rfl⟩:=r;exact{_,.int i t}
 | _,_,_,.tup e h,r=>by
  cases r;obtain⟨its,rv,⟨o,ho,hc,n,hd⟩,_⟩:=I.tuple e;obtain⟨as,ra⟩:=DecKs.reads I h rv;exact{_,.tuple ho hc hd (by simpa using ra)}
theorem DecKs.reads{s:Shared}(I:Inv X ae O H s):∀{xs:List V} {ds:List PyData} {us:List Value},DecKs X.K H xs ds->Vals xs us->∃as,ReadsAll s.heap us ds as
 | _,_,_,.nil,r=>by cases r;exact{_,.nil}
 | _,_,_,.cons h t,r=>by
  cases r with
  | cons q r=>
   obtain⟨as,ra⟩:=DecK.reads I h q;obtain⟨bs,rb⟩:=DecKs.reads I t r;exact{_,.cons ra rb}
end
end
section
variable{X:Cx}
end
theorem rvT{K:tP}{H:Hp}{p:Addr}{xs:List V}{i:Int}{v:V}{Q:VK}{O:L2.St}{a:Nat}(e1:O[a]? = some (some (.ref p)))(h:SqT K H p xs)(e:atI xs i=some v)(q:Q v H):tOp (TK K) (jZ a) (tC (.int i)) O H Q:={_,e1,p,xs,i,v,rfl,rfl,h,e,q}
theorem rvL{K:tP}{H:Hp}{p:Addr}{xs:List V}{i:Int}{v:V}{Q:VK}{O:L2.St}{a:Nat}(e1:O[a]? = some (some (.ref p)))(h:SqL K H p xs)(e:atI xs i=some v)(q:Q v H):tOp (JN K) (jZ a) (tC (.int i)) O H Q:={_,e1,p,xs,i,v,rfl,rfl,h,e,q}
theorem gT2{K:tP}{H:Hp}{a:Addr}{x y:V}{i j n:Nat}{O:L2.St}{Q:L2.St->Hp->Prop}(h:SqT K H a [x,y])(hn:2=n)(q:Q ((O.set i (some x)).set j (some y)) H):EC K n (vM (jP i) (vM (jP j) gNil)) (.ref a) O H Q:={a,_,rfl,h,hn,_,_,rfl,_,_,rfl,rfl,q}
theorem oVV{C:Int->Int->Prop}{g:Int->Int->V}{a b:Nat}{x y:Int}(e1:O[a]? = some (some (.int x)))(e2:O[b]? = some (some (.int y)))(c:C x y)(q:Q (g x y) H):tOp (rI C g) (jZ a) (jZ b) O H Q:={_,e1,_,e2,_,_,rfl,rfl,c,q}
theorem ZF{xs:List V}{i:Int}{j a:Nat}{Q:L2.St->Hp->Prop}(e:O[a]? = some (some (.ref p)))(h:H p=some (.lst xs))(hj:ixN xs.length i=some j)(q:Q O (upd H p (.lst (xs.set j v)))):LA (jZ a) (tC (.int i)) rSetL v O H Q:={_,e,p,xs,i,j,rfl,rfl,h,hj,q}
def Tape(cl:Addr)(H:Hp)(tp:Addr)(B:Int):Prop:=∃(ns:List Int) (spot rest left:Int),H tp=some (.lst [.ref cl,.int spot,.int rest,.int left])/\H cl=some (.lst #[16])/\ns.length<=63/\0<=spot/\spot<=B
theorem Tape.mono{B B':Int}(e:Same H H')(hB:B<=B')(h:Tape cl H tp B):Tape cl H' tp B':=by
 obtain⟨ns,spot,rest,left,h1,h2,h3,h4,h5⟩:=h;exact{ns,spot,rest,left,e _ _ h1,e _ _ h2,h3,h4,∎}
def spGcd:Sp:=λvs H Q _=>∃a b:Int,vs=[.int a,.int b]/\0<b/\b.natAbs<2^8000/\Q (.int (Int.gcd a b)) H
def spDraw:Sp:=λvs H Q _=>∃(tp:Addr) (ad B:Int),vs=[.ref tp,.int ad]/\∃cl,Tape cl H tp B/\B<2^40/\0<ad/\ad<2^100/\
 ∀(r:Int) (H':Hp),0<=r->r<ad->Tape cl H' tp (B+1)->But tp H H'->Q (.int r) H'
theorem LK{ad B:Int}{a:Nat}(e:O[a]? = some (some (.ref tp)))(hT:Tape cl H tp B)(h1:B<2^40)(h2:0<ad)(h3:ad<2^100)(k:∀(r:Int) (H':Hp),0<=r->r<ad->Tape cl H' tp (B+1)->But tp H H'->Q (.int r) H'):IW spDraw [] E0 (vY (jZ a) (vY (tC (.int ad)) tNil)) O H Q:={_,e,tp,ad,B,rfl,cl,hT,h1,h2,h3,k}
def yR(t b:Int):Int:=(if b<0 then 0-t else t)/(Int.gcd t b:Int)
def zK(t b:Int):Int:=(if b<0 then 0-b else b)/(Int.gcd t b:Int)
def LowFit(t b:Int):Prop:=b.natAbs<2^8000∨(t.natAbs<2^13400/\b.natAbs<2^13400)
def spLow:Sp:=λvs H Q _=>∃t b:Int,vs=[.int t,.int b]/\b≠0/\LowFit t b/\
 ∀(p:Addr) (H':Hp),H p=none->Same H H'->H' p=some (.tup [.int (yR t b),.int (zK t b)])->Q (.ref p) H'
def ON(K:tP):Sp:=λvs H Q _=>∃(a:Addr) (ns:List Int),vs=[.ref a]/\SqL K H a #[16]/\ns.length<=63/\∀H',Q (.bl true) H'
structure Txt(mg:Str->Option Value):Prop where
 isi:mg "isinstance" = none
 len:mg "len" = none
 int:mg "int" = none
 bool:mg "bool" = none
 tup:mg "tuple" = none
 lst:mg "list" = none
 abs:mg "abs" = none
 rng:mg "range" = none
 lbits:∃t,mg "LONG_BITS" = some (.int 8000 t)
 sum:mg "sum" = none
 zip:mg "zip" = none
 sorted:mg "sorted" = none
 dct:mg "dict" = none
 max:mg "max" = none
 rev:mg "reversed" = none
 verr:mg "ValueError" = none
 degree:∃t,mg "MOST_DEGREE" = some (.int 16 t)
 terms:∃t,mg "MOST_TERMS" = some (.int 500 t)
 pack:∃t,mg "PACK" = some (.int 256 t)
 short:∃t,mg "SHORT_BITS" = some (.int 1500 t)
structure Df(K:tP)(mg:Str->Option Value)(x:Str)(st:Stmt)(ps:List Str)(f:Addr)(fd:FuncData):Prop where
 F:Fun K x x st f fd
 b:Binds K fd ps []
 m:mg x=some (.ref f)
structure DG(P:Program)(w:World)(K:tP)(mg:Str->Option Value)(base:Heap)(n:Nat)(x:Str)(st:Stmt)(ps:List Str)(sp:Sp):Prop where
 ex:∃f fd,Df K mg x st ps f fd/\FnOk P w K mg base CX0 n f fd ps sp
theorem mkD{P:Program}{w:World}{K:tP}{mg:Str->Option Value}{base:Heap}{n:Nat}{x:Str}{st:Stmt}{ps:List Str}{sp:Sp}{f:Addr}{fd:FuncData}(D:Df K mg x st ps f fd)(G:FnOk P w K mg base CX0 n f fd ps sp):DG P w K mg base n x st ps sp:={_,_,D,G}
theorem cal{X:Cx}{n:Nat}{x:Str}{st:Stmt}{ps:List Str}{sp:Sp}{e:Expr}{es:List Expr}{t:TA}{p pos:Pos}(G:DG X.prog X.w X.K X.mg X.base n x st ps sp)(hr:Room n X.A)(ha:PA X (e::es) t)(hg:Gl X x:=by exact rfl)(hdb:#[20]=false:=by decide)(he:starEach (e::es) X.env=(false,eval e X.env)::starEach es X.env:=by rfl)(hpl:#[47].any (·.1)=false:=by rfl) :
  PE X (.Call (.Name x p) (e::es) [] pos) (IW sp [] E0 t):=by
 obtain⟨f,fd,D,F⟩:=G.ex;exact kU F hr hg D.m D.F.kp D.b .nil vI ha hdb he hpl
theorem scK{N P:List Str}{sc:Scope}(h:sc.kind=.function/\sc.isCoroutine=false/\sc.isGenerator=false/\N.Nodup/\N.take P.length=P/\(∀x∈P,sc.names.lookup x=some .local∨sc.names.lookup x=some .cell)/\∀y∈sc.names,y.2≠.free):FnScope N P sc:={h.1,h.2.1,h.2.2.1,h.2.2.2.1,h.2.2.2.2.1,h.2.2.2.2.2.1,(h.2.2.2.2.2.2)}
variable{P:Program}{w:World}{K:tP}{mg:Str->Option Value}{base:Heap}{f fd:_}
theorem scGcd:FnScope ["one","other"] ["one","other"] (jI SZ):=scK #[2]
theorem QH :MtR X "int.bit_length" (λx xs H Q=>∃i:Int,x=.int i/\xs=[]/\Q (.int (Builtin.Int.intBits i:Nat)) H):=by
 intro ae s O H x xs v us Q I rx rs q;obtain⟨i,rfl,rfl,q⟩:=q;obtain⟨t,rfl⟩:=rx;cases rs;exact call_int_bit_length {.int (Builtin.Int.intBits i:Nat),H,I.tok _,{_,rfl},q}
theorem MY(F:Fun K "greatest_divisor" "greatest_divisor" SZ f fd)(T:Txt mg):FnOk P w K mg base CX0 1 f fd ["one","other"] spGcd:=by
 obtain⟨tl,hl⟩:=T.lbits;refine F.ok scGcd #[9] #[4]
 .obtain⟨a,b,rfl,_⟩:=h
  rfl
 .obtain⟨a,b,rfl,hb,hs,k⟩:=h;refine⟨_,jC (JQ PassesOwn.never (jX XH (pv 1) jB (kM _))
    (jF (qJ (jX wJ (WZ PySem.F.plainAttrs_int slot_int_bit_length type_int_bit_length QH (pv 1)) (qD (v:=.int 8000) (by rfl) hl {_,rfl}) (kM _)) FC
     (jF (MU (i:=0) (j:=1) rfl scGcd.nd rfl rfl #[0] rfl rfl (jA (pv 1) (jA (jJ vT (pv 0) (pv 1)) jD)) rfl)))))
   (jF (jR (pv 0))), ?_⟩
  try dsimp only[cxK]
  refine IQ (fun O H1=>H1=H/\∃p q:Int,O=[some (.int p),some (.int q)]/\0<=q/\(0<q∨0<=p)/\q.natAbs<2^8000/\Int.gcd p q=Int.gcd a b)
   (fun O _=>match O with | [_,some (.int q)]=>q.toNat | _=>0) {rfl,a,b,rfl,∎,.inl hb,hs,rfl} ?_ ?_
  .rintro O H1 ⟨rfl,p,q,rfl,h0,h1,hq8,h2⟩;refine{_,rfl,rfl,_,rfl, ?_};refine wH (λe=>?_) (λe=>?_)
   .have hq:0<q:=by
     let:q≠0:=λz=>by simp [z]at e
     ∎
    let hbits:(Builtin.Int.intBits q)<=8000:=PySem.intBits_le_iff.mpr hq8;refine{_,rfl,rfl,_,rfl,rfl,_,_,rfl,rfl,_,rfl,yT (mU ∎) ?_};refine{_,rfl,_,rfl,_,rfl,_,_,rfl,rfl,hq,_,_,rfl, ?_};let m1:=Int.emod_nonneg p (b:=q) ∎;let m2:=Int.emod_lt_of_pos p hq;let m3:(p%q).natAbs<=q.natAbs:=∎
    refine{{rfl,q,p%q,rfl,m1,.inr h0,gX m3 hq8,(LwM.KZ p q).trans h2}, ?_};show(p%q).toNat<q.toNat
    ∎
   .have hq:q=0:=by
     by_cases z:q=0
     .exact z
     .exact absurd (by simp [z]) e
    subst hq;refine{_,rfl, ?_};let:p=((Int.gcd a b:Nat):Int):=by
     rw[<-h2,Int.gcd_zero_right]
     ∎
    rw[this];exact k
  .rintro O H1 Q1 Q2 hQ ⟨v,e,hs,k',ek,q⟩;exact{v,e,hs,k',ek,hQ _ _ q}
theorem scLow:FnScope ["top","bottom","one","other"] ["top","bottom"] (jI SY):=scK #[2]
theorem XN(F:Fun K "_law_low" "_law_low" SY f fd)(T:Txt mg):FnOk P w K mg base CX0 1 f fd ["top","bottom"] spLow:=by
 refine F.ok scLow #[9] #[4]
 .obtain⟨t,b,rfl,_⟩:=h
  rfl
 .obtain⟨t,b,rfl,hb,hs,k⟩:=h;refine⟨_,jC (qJ (jX JW (pv 1) jB (kM _)) (jF (MU (i:=0) (j:=1) rfl scLow.nd rfl rfl #[0] rfl rfl (jA (jJ AT jB (pv 0)) (jA (jJ AT jB (pv 1)) jD)) rfl)) jY)
   (jC (jM (i:=2) scLow.nd rfl #[5] (kL call_abs (by rfl) T.abs boot_abs (jA (pv 0) jD)))
   (jC (jM (i:=3) scLow.nd rfl #[5] (pv 1))
   (jC (JQ PassesOwn.never (jX wJ (pv 2) jB (kM _)) (jF (MU (i:=2) (j:=3) rfl scLow.nd rfl rfl #[0] rfl rfl (jA (jJ vT (pv 3) (pv 2)) (jA (pv 2) jD)) rfl)))
   (jF (jR (pe_tup (jA (jJ LwD.uG (pv 0) (pv 3)) (jA (jJ LwD.uG (pv 1) (pv 3)) jD)))))))), ?_⟩
  try dsimp only[cxK]
  refine{_,rfl,_,_,rfl,rfl,_,rfl, ?_};let fin:∀t' b':Int,0<b'->(∀q:Int,0<q->q<=b'->LwD.CDivP t' q/\LwD.CDivP b' q)->t'=(if b<0 then 0-t else t)->b'=(if b<0 then 0-b else b)->Int.gcd t' b'=Int.gcd t b->
    (vB (xS (tCB (λxs H Q=>∃i,xs=[V.int i]/\Q (.int (if i<0 then -i else i)) H) (vY (jZ 0) tNil)) (jP 2)) (vB (xS (jZ 1) (jP 3)) (vB (MD (OI (tOp (rI0 λi j=>V.bl (decide (j<i))) (jZ 2) (tC (.int 0)))) (tPar 2 3 (vY (tOp #[8] (jZ 3) (jZ 2)) (vY (jZ 2) tNil)))) (ME (tTup (vY (tOp (rI LwD.CDivP λi j=>.int (i/j)) (jZ 0) (jZ 3)) (vY (tOp (rI LwD.CDivP λi j=>.int (i/j)) (jZ 1) (jZ 3)) tNil))))))) { nx:=λ_ H'=>Q .non H',rt:=Q } [some (.int t'),some (.int b'),none,none] H:=by
   intro t' b' hb' hs' et eb hg;refine{_,rfl,_,rfl,_,rfl, ?_};refine IQ (fun O H1=>H1=H/\∃p q:Int,O=[some (.int t'),some (.int b'),some (.int p),some (.int q)]/\0<=p/\0<q/\Int.gcd q p=Int.gcd t b)
    (fun O _=>match O with | [_,_,some (.int p),_]=>p.toNat | _=>0) {rfl,_,b',rfl,by split<;>∎,hb', ?_} ?_ ?_
   .rw[<-hg,Int.gcd_comm t'];split
    .exact Int.gcd_neg
    .rfl
   .rintro O H1 ⟨rfl,p,q,rfl,h0,h1,h2⟩;refine{_,rfl,_,_,rfl,rfl,_,rfl, ?_};refine wH (λe=>?_) (λe=>?_)
    .have hp:0<p:=mG e;refine{_,rfl,_,rfl,_,_,rfl,rfl,hp,_,rfl,_,_,rfl, ?_};let m1:=Int.emod_nonneg q (b:=p) ∎;let m2:=Int.emod_lt_of_pos q hp;refine{{rfl,q%p,p,rfl,m1,hp,(LwM.KZ q p).trans h2}, ?_};show(q%p).toNat<p.toNat
     ∎
    .have hp:p=0:=by
      let:¬0<p:=λz=>e (mW z)
      ∎
     subst hp;let hq:q=((Int.gcd t b:Nat):Int):=by
      rw[<-h2,Int.gcd_zero_right]
      ∎
     let gb:q<=b':=by
      rw[hq,<-hg];exact LwM.ZC t' b' hb'
     obtain⟨c1,c2⟩:=hs' q h1 gb;refine{_,rfl,_,rfl,_,_,rfl,rfl,c1,_,rfl,_,rfl,_,_,rfl,rfl,c2,uR, ?_};refine fresh λp H' n s1 e1=>k p H' n s1 ?_;rw[e1,hq,et,eb]
     rfl
   .rintro O H1 Q1 Q2 hQ ⟨v,e,i,j,e1,e2,k',ek,q⟩;exact{v,e,i,j,e1,e2,k',ek,hQ _ _ q}
  let hs2:∀t' b':Int,t'.natAbs=t.natAbs->b'.natAbs=b.natAbs->0<b'->∀q:Int,0<q->q<=b'->LwD.CDivP t' q/\LwD.CDivP b' q:=λt' b' e1 e2 h0 q h1 h2=>by
   rcases hs with hs | ⟨ha,hb2⟩
   .have hq:q.natAbs<2^8000:=gX ∎ hs;exact{LwD.LR {h1,(hq)},LwD.LR {h1,(hq)}}
   .exact{LwD.zH h1 uP (by rw[e1];exact ha),LwD.zH h1 uP (by rw[e2];exact hb2)}
  by_cases n:b<0
  .refine DY (mW n) ?_;refine{_,rfl,_,_,rfl,rfl,_,rfl,_,_,rfl,rfl,_,_,rfl, ?_};refine fin (0-t) (0-b) ∎ (hs2 _ _ ∎ ∎ ∎) (by rw[tO n]) (by rw[tO n]) ?_;rw[Int.zero_sub,Int.zero_sub,Int.neg_gcd,Int.gcd_neg]
  .refine yT (mU n) ?_;exact fin t b ∎ (hs2 _ _ rfl rfl ∎) (by rw[tN n]) (by rw[tN n]) rfl
theorem QM{t b:Int}(h:0<b):yR t b=t/(Int.gcd t b:Int)/\zK t b=b/(Int.gcd t b:Int):=by
 unfold yR zK;rw[tN ∎,tN ∎];exact{rfl,(rfl)}
theorem at_ints{ns:List Int}{i:Int}(h0:0<=i)(h1:i<ns.length):∃c:Int,atI #[16] i=some (.int c):=by
 obtain⟨j,rfl⟩:=gA h0;let hj:j<ns.length:=∎
 exact{ns[j],zI (by simp [hj])}
theorem scDraw:FnScope ["tape","many","spot","cell","some","rest"] ["tape","many"] (jI CY):=scK #[2]
theorem QA(F:Fun K "_law_draw" "_law_draw" CY f fd)(T:Txt mg):FnOk P w K mg base CX0 1 f fd ["tape","many"] spDraw:=by
 refine F.ok scDraw #[9] #[4]
 .obtain⟨tp,ad,B,rfl,_⟩:=h
  rfl
 .obtain⟨tp,ad,B,rfl,cl,⟨ns,spot,rest,left,h1,h2,h3,h4,h5⟩,hB,hm,hm2,k⟩:=h;let hne:cl≠tp:=by
   rintro rfl;rw[h1]at h2;injection h2 with h2
   injection h2 with h2
   cases ns with
   | nil=>cases h2
   | cons n r=>injection h2 with z;cases z
  refine⟨_,jC (qJ (jX BC (jT qQ (pv 0) jB #[11]) jB (kM _))
    (jC (jM (i:=2) scDraw.nd rfl #[5] (jT qQ (pv 0) jB #[11]))
    (jC (xA (jJ qA (pv 2) jB) (yX (pv 0) jB vZ))
    (jC (jM (i:=3) scDraw.nd rfl #[5] jB)
    (jC (qJ (jX wJ (kL qR (by rfl) T.len PySem.boot_len (jA (jT qQ (pv 0) jB #[11]) jD)) jB (kM _))
     (jF (jM (i:=3) scDraw.nd rfl #[5] (jT qQ (jT qQ (pv 0) jB #[11]) (jJ vT (pv 2) (kL qR (by rfl) T.len PySem.boot_len (jA (jT qQ (pv 0) jB #[11]) jD))) #[11]))) jY)
    (jC (qJ (PW.pt (WO (jX op_ge (pv 2) (kL qR (by rfl) T.len PySem.boot_len (jA (jT qQ (pv 0) jB #[11]) jD)) (kM _)) (MS (jX JW (pv 3) (jJ HW jB jB) (kM _)))))
     (jC (jM (i:=4) scDraw.nd rfl #[5] (jJ qA (jJ qA (jJ vT (jJ wO (pv 2) (pv 2)) jB) (jJ wO jB (pv 2))) jB))
     (jC (jM (i:=4) scDraw.nd rfl #[5] (jJ vT (jJ wO (jJ qA (jJ vT (pv 3) jB) jB) (pv 4)) jB))
     (jF (jR (jJ vT (jJ vT (jJ qA (jJ op_fdiv (jJ vT (jJ wO (pv 4) (pv 4)) jB) jB) (jJ wO jB (pv 2))) jB) (pv 1)))))) jY)
    (jC (xA (jJ AT (pv 3) (jJ HW jB jB)) (yX (pv 0) jB vZ))
    (jF (xA jB (yX (pv 0) jB vZ))))))))) jY)
   (jC (xA (jJ AT (jT qQ (pv 0) jB #[11]) jB) (yX (pv 0) jB vZ))
   (jC (jM (i:=5) scDraw.nd rfl #[5] (jT qQ (pv 0) jB #[11]))
   (jC (xA (jJ qV (pv 5) (pv 1)) (yX (pv 0) jB vZ))
   (jF (jR (jJ vT (pv 5) (pv 1))))))), ?_⟩
  try dsimp only[cxK]
  let hmd:ad.natAbs<2^8000:=by
   let:ad.natAbs<2^100:=by
    let h:((2^100:Nat):Int)=2^100:=by decide
    ∎
   exact gZ this (gO #[0] #[0])
  let tail:∀(spot' rest' left':Int) (a b c d:Option V) (H1:Hp),H1 tp=some (.lst [.ref cl,.int spot',.int rest',.int left'])->But tp H H1->0<=spot'->spot'<=B+1->
    (vB (xS (tOp (rI0 λi j=>V.int (i-j)) (tOp (JN K) (jZ 0) (tC (.int 3))) (tC (.int 1))) (LA (jZ 0) (tC (.int 3)) rSetL))
     (vB (xS (tOp (JN K) (jZ 0) (tC (.int 2))) (jP 5))
     (vB (xS (tOp (rI CDivL λi j=>.int (i/j)) (jZ 5) (jZ 1)) (LA (jZ 0) (tC (.int 2)) rSetL))
     (ME (tOp #[8] (jZ 5) (jZ 1)))))) { nx:=λ_ H'=>Q .non H',rt:=Q } [some (.ref tp),some (.int ad),a,b,c,d] H1:=by
   intro spot' rest' left' a b c d H1 g1 g2 g3 g4;refine(rvL rfl (SqL.of g1) rfl {_,_,rfl,rfl, ?_});refine ZF rfl g1 rfl ?_;refine(rvL rfl (SqL.of jE) rfl ?_);refine oVV rfl rfl {hm,(hmd)} (ZF rfl jE rfl ?_);refine{_,rfl,_,rfl,_,_,rfl,rfl,hm, ?_};refine k _ _ (Int.emod_nonneg _ ∎) (Int.emod_lt_of_pos _ hm) {ns,spot',_,_,jE, ?_,h3,g3,g4} ?_
   .rw[jG hne,jG hne];exact g2 _ _ h2 hne
   .exact(g2.trans (But.upd _ _ _)).trans (But.upd _ _ _)
  refine(rvL rfl (SqL.of h1) rfl {rfl,_,rfl, ?_});by_cases hl:left=0
  .subst hl;refine DY #[0] ?_;refine(rvL rfl (SqL.of h1) rfl ?_);refine{_,rfl,_,_,rfl,rfl,ZF rfl h1 rfl ?_};let T1:∀o,(upd H tp o) cl=some (.lst #[16]):=λo=>by
    rw[jG hne];exact h2
   let mid:∀(cell:Int) (b c:Option V),(vB (tIfS (tOr (OI (tOp (rI0 λi j=>V.bl (decide (j<=i))) (jZ 2) (tCB (λxs H Q=>∃p ys,xs=[V.ref p]/\(SqL K H p ys∨SqT K H p ys)/\Q (.int ys.length) H) (vY (tOp (JN K) (jZ 0) (tC (.int 0))) tNil))))
      (OI (tOp (rI0 λi j=>V.bl (decide (i<j))) (jZ 3) (tOp (rI CPow λi j=>.int (i^j.toNat)) (tC (.int 10)) (tC (.int 18))))))
     (vB (xS (tOp #[54] (tOp #[54] (tOp #[8] (tOp #[22] (jZ 2) (jZ 2)) (tC (.int 10007))) (tOp #[22] (tC (.int 61)) (jZ 2))) (tC (.int 7))) (jP 4))
     (vB (xS (tOp #[8] (tOp #[22] (tOp #[54] (tOp #[8] (jZ 3) (tC (.int 999983))) (tC (.int 3))) (jZ 4)) (tC (.int 1000003))) (jP 4))
     (ME (tOp #[8] (tOp #[8] (tOp #[54] (tOp (rI CDiv λi j=>.int (i/j)) (tOp #[8] (tOp #[22] (jZ 4) (jZ 4)) (tC (.int 999979))) (tC (.int 3))) (tOp #[22] (tC (.int 131)) (jZ 2))) (tC (.int 99991))) (jZ 1)))))
     tNext)
     (vB (xS (tOp (rI0 λi j=>V.int (i-j)) (jZ 3) (tOp (rI CPow λi j=>.int (i^j.toNat)) (tC (.int 10)) (tC (.int 18)))) (LA (jZ 0) (tC (.int 2)) rSetL))
     (xS (tC (.int 40)) (LA (jZ 0) (tC (.int 3)) rSetL))))
     { nx:=(vB (xS (tOp (rI0 λi j=>V.int (i-j)) (tOp (JN K) (jZ 0) (tC (.int 3))) (tC (.int 1))) (LA (jZ 0) (tC (.int 3)) rSetL))
     (vB (xS (tOp (JN K) (jZ 0) (tC (.int 2))) (jP 5))
     (vB (xS (tOp (rI CDivL λi j=>.int (i/j)) (jZ 5) (jZ 1)) (LA (jZ 0) (tC (.int 2)) rSetL))
     (ME (tOp #[8] (jZ 5) (jZ 1)))))) { nx:=λ_ H'=>Q .non H',rt:=Q },rt:=Q } [some (.ref tp),some (.int ad),some (.int spot),some (.int cell),b,c] (upd H tp (.lst [.ref cl,.int (spot+1),.int rest,.int 0])):=by
    intro cell b c;let pw:CPow 10 18:={by decide,by decide,by decide};let drawn:(vB (xS (tOp #[54] (tOp #[54] (tOp #[8] (tOp #[22] (jZ 2) (jZ 2)) (tC (.int 10007))) (tOp #[22] (tC (.int 61)) (jZ 2))) (tC (.int 7))) (jP 4))
     (vB (xS (tOp #[8] (tOp #[22] (tOp #[54] (tOp #[8] (jZ 3) (tC (.int 999983))) (tC (.int 3))) (jZ 4)) (tC (.int 1000003))) (jP 4))
     (ME (tOp #[8] (tOp #[8] (tOp #[54] (tOp (rI CDiv λi j=>.int (i/j)) (tOp #[8] (tOp #[22] (jZ 4) (jZ 4)) (tC (.int 999979))) (tC (.int 3))) (tOp #[22] (tC (.int 131)) (jZ 2))) (tC (.int 99991))) (jZ 1))))) { nx:=λ_ _=>False,rt:=Q } [some (.ref tp),some (.int ad),some (.int spot),some (.int cell),b,c] (upd H tp (.lst [.ref cl,.int (spot+1),.int rest,.int 0])):=by
     refine{_,rfl,_,rfl,_,_,rfl,rfl,.inl {∎,∎},_,_,rfl,rfl,(by show(0:Int)<_;decide), ?_};refine{_,rfl,_,_,rfl,rfl,.inl {∎,∎},_,_,rfl,rfl,_,_,rfl,rfl, ?_};let c1:=Int.emod_nonneg cell (b:=999983) #[0];let c2:=Int.emod_lt_of_pos cell (b:=999983) #[0];refine{_,rfl,_,_,rfl,rfl,(by show(0:Int)<_;decide),_,_,rfl,rfl,_,rfl,_,_,rfl,rfl,.inl {∎,∎},_,_,rfl,rfl,(by show(0:Int)<_;decide), ?_};generalize hx:((cell%999983+3)*(spot*spot%10007+61*spot+7))=x;let d1:=Int.emod_nonneg x (b:=1000003) #[0];let d2:=Int.emod_lt_of_pos x (b:=1000003) #[0];refine{_,rfl,_,rfl,_,_,rfl,rfl,.inl {∎,∎},_,_,rfl,rfl,(by show(0:Int)<_;decide),_,_,rfl,rfl,{by decide,by decide}, ?_};refine{_,rfl,_,_,rfl,rfl,.inl {by decide,by decide},_,_,rfl,rfl,_,_,rfl,rfl,(by show(0:Int)<_;decide),_,rfl,_,_,rfl,rfl,hm, ?_};exact k _ _ (Int.emod_nonneg _ ∎) (Int.emod_lt_of_pos _ hm) {ns,spot+1,_,_,jE,T1 _,h3,∎,∎} (But.upd _ _ _)
    refine{_,rfl,rvL rfl (SqL.of jE) rfl {cl,_,rfl,.inl (SqL.of (T1 _)),_,_,rfl,rfl,_,rfl, ?_}};by_cases z1:(#[16].length:Int)<=spot
    .refine DY (mW z1) (iteT ?_);exact drawn
    .refine yT (mU z1) ?_;refine{_,rfl,_,_,rfl,rfl,pw,_,_,rfl,rfl,_,rfl, ?_};by_cases z2:cell<(10:Int)^(18:Int).toNat
     .refine DY (mW z2) ?_;exact drawn
     .refine yT (mU z2) ?_;refine{_,rfl,_,_,rfl,rfl,pw,_,_,rfl,rfl,ZF rfl jE rfl ?_};refine ZF rfl jE rfl ?_;exact tail (spot+1) _ 40 _ _ _ _ _ jE (((But.upd _ _ _).trans (But.upd _ _ _)).trans (But.upd _ _ _)) ∎ ∎
   refine(rvL rfl (SqL.of jE) rfl {cl,_,rfl,.inl (SqL.of (T1 _)),_,_,rfl,rfl,_,rfl, ?_});by_cases hn:(0:Int)<(#[16].length:Int)
   .refine DY (mW hn) ?_;obtain⟨c,hc⟩:=at_ints (ns:=ns) (i:=spot%(#[16].length:Int)) (Int.emod_nonneg _ ∎) (by let:=Int.emod_lt_of_pos spot hn;rw[mS]at this ⊢;exact this);refine(rvL rfl (SqL.of jE) rfl {_,rfl,rvL rfl (SqL.of jE) rfl {cl,_,rfl,.inl (SqL.of (T1 _)),_,_,rfl,rfl,hn,cl,_,_,_,rfl,rfl,SqL.of (T1 _),hc, ?_}});exact mid c _ _
   .refine yT (mU hn) ?_;exact mid 0 _ _
  .refine yT (mU (by intro z;injection z with z;exact hl z)) ?_;exact tail spot rest left _ _ _ _ H h1 (But.refl _ _) h4 ∎
end Lw
namespace LwV
abbrev Pl:=List #[71]
def cf:Pl->List Int->Rat
 | [],_=>0
 | x::P,m=>(if x.1=m then x.2 else 0)+cf P m
theorem xJ(x:List Int×Rat)(P:Pl)(m:List Int):cf (x::P) m=(if x.1=m then x.2 else 0)+cf P m:=rfl
theorem zG:∀(P Q:Pl) (m:List Int),cf (P++Q) m=cf P m+cf Q m
 | [],Q,m=>by show cf Q m=0+cf Q m;grind
 | x::P,Q,m=>by rw[List.cons_append,xJ,xJ,zG P Q m];grind
theorem cf_perm{P Q:Pl}(h:P.Perm Q)(m:List Int):cf P m=cf Q m:=by
 induction h with
 | nil=>rfl
 | cons x _ ih=>rw[xJ,xJ,ih]
 | swap x y l=>simp only[xJ];grind
 | trans _ _ h1 h2=>exact h1.trans h2
theorem cf_out{m:List Int}(h:∀x∈P,x.1≠m):cf P m=0:=by
 induction P with
 | nil=>rfl
 | cons x P ih=>
  rw[xJ,tN (h x #[14]),ih λy hy=>h y (by simp [hy])]
  grind
theorem NT{P:Pl}(nd:(P.map (·.1)).Nodup){x:List Int×Rat}(hx:x∈P):cf P x.1=x.2:=by
 induction P with
 | nil=>cases hx
 | cons y P ih=>
  rw[nH,List.nodup_cons]at nd;rw[xJ];rcases nI.mp hx with rfl | h
  .rw[tO rfl,cf_out λz hz e=>nd.1 (nT.mpr {z,hz,(e)})]
   grind
  .rw[tN λe=>nd.1 (nT.mpr {x,h,(e.symm)}),ih nd.2 h]
   grind
def qS(a b:List Int):List Int:=List.zipWith (· + ·) a b
def row(x:List Int×Rat)(Q:Pl):Pl:=Q.map λy=>(qS x.1 y.1,x.2*y.2)
def mul:Pl->Pl->Pl
 | [],_=>[]
 | x::P,Q=>row x Q++mul P Q
theorem QE:∀(P P' Q:Pl),mul (P++P') Q=mul P Q++mul P' Q
 | [],_,_=>rfl
 | x::P,P',Q=>by show row x Q++mul (P++P') Q=_;rw[QE P P' Q,<-List.append_assoc];rfl
end LwV
namespace LwQ
end LwQ
namespace Lw
open PySem PySem.Spec PyProof.Rows L2
structure FrOk(n:Nat)(t b:Int):Prop where
 pos:0<b
 low:Int.gcd t b=1
 st:t.natAbs<2^n
 sb:b.natAbs<2^n
def At2(H:Hp)(p:Addr)(t b:Int):Prop:=H p=some (.tup [.int t,.int b])
theorem AL{a b:Int}{m n:Nat}(ha:a.natAbs<2^m)(hb:b.natAbs<2^n):(a*b).natAbs<2^(m+n):=by
 rw[Int.natAbs_mul,Nat.pow_add];exact Nat.mul_lt_mul'' ha hb
theorem abs_add{a b:Int}{n:Nat}(ha:a.natAbs<2^n)(hb:b.natAbs<2^n):(a+b).natAbs<2^(n+1):=by
 rw[Nat.pow_succ];omega
theorem jQ{a:Int}{m n:Nat}(ha:a.natAbs<2^m)(h:m<=n):a.natAbs<2^n:=gZ ha (gO #[0] h)
theorem qY{a g:Int}{n:Nat}(ha:a.natAbs<2^n)(hg:1<=g):(a/g).natAbs<2^n:=gX (LwM.uO a g hg) ha
theorem CL{a b:Int}{n:Nat}(hb:0<b)(hs:b.natAbs<2^n):((Int.gcd a b:Nat):Int).natAbs<2^n:=by
 let:=LwM.ZC a b hb;let:=LwM.vF a b hb;omega
theorem vK{t b:Int}(h:0<b):yR t b=t/(Int.gcd t b:Int):=(QM h).1
theorem xW{t b:Int}(h:0<b):zK t b=b/(Int.gcd t b:Int):=(QM h).2
def spTwo(K:tP)(nt nb:Int->Int->Int->Int->Int):Sp:=λvs H Q _=>∃(p q:Addr) (t b o u:Int),vs=[.ref p,.ref q]/\SqT K H p [.int t,.int b]/\SqT K H q [.int o,.int u]/\FrOk 7900 t b/\FrOk 7900 o u/\
 ∀(r:Addr) (H':Hp),H r=none->Same H H'->At2 H' r (yR (nt t b o u) (nb t b o u)) (zK (nt t b o u) (nb t b o u))->Q (.ref r) H'
abbrev spMul(K:tP):Sp:=spTwo K (λt _ o _=>t*o) (λ_ b _ u=>b*u)
theorem wW{K:tP}{H H':Hp}{a:Addr}{xs:List V}(s:Same H H')(h:SqT K H a xs):SqT K H' a xs:=by
 rcases h with(h | ⟨o,h⟩) | h
 .exact .inl (.inl (s _ _ h))
 .exact .inl (.inr {o,s _ _ h})
 .exact .inr h
variable{P:Program}{w:World}{K:tP}{mg:Str->Option Value}{base:Heap}{f fd:_}
theorem scMul:FnScope ["one","other","top","bottom","over","under","first","second"] ["one","other"] (jI sMul):=scK #[2]
theorem XM(F:Fun K "multiplied" "multiplied" sMul f fd)(T:Txt mg)(DG:Df K mg "greatest_divisor" SZ ["one","other"] fG fdG):FnOk P w K mg base CX0 2 f fd ["one","other"] (spMul K):=by
 let GG:FnOk P w K mg base CX0 1 fG fdG ["one","other"] spGcd:=MY DG.F T;refine F.ok scMul #[9] #[4]
 .obtain⟨p,q,t,b,o,u,rfl,_⟩:=h
  rfl
 .obtain⟨p,q,t,b,o,u,rfl,hp,hq,f1,f2,k⟩:=h;refine⟨_,jC (xA (pv 0) (qK rfl (jK (jH (i:=2) scMul.nd rfl #[5]) (jK (jH (i:=3) scMul.nd rfl #[5]) kT))))
   (jC (xA (pv 1) (qK rfl (jK (jH (i:=4) scMul.nd rfl #[5]) (jK (jH (i:=5) scMul.nd rfl #[5]) kT))))
   (jC (jM (i:=6) scMul.nd rfl #[5] (kU GG hr rfl DG.m DG.F.kp DG.b .nil vI (jA (pv 2) (jA (pv 5) jD))))
   (jC (jM (i:=7) scMul.nd rfl #[5] (kU GG hr rfl DG.m DG.F.kp DG.b .nil vI (jA (pv 4) (jA (pv 3) jD))))
   (jF (jR (kN (jA (jJ qE (jJ qV (pv 2) (pv 6)) (jJ qV (pv 4) (pv 7))) (jA (jJ qE (jJ qV (pv 3) (pv 7)) (jJ qV (pv 5) (pv 6))) jD)))))))), ?_⟩
  try dsimp only[cxK]
  refine{_,rfl,p,_,rfl,hp,rfl,_,_,rfl,_,_,rfl,rfl, ?_};refine{_,rfl,q,_,rfl,hq,rfl,_,_,rfl,_,_,rfl,rfl, ?_};refine{_,rfl,_,rfl,t,u,rfl,f2.pos,jQ f2.sb #[0], ?_};refine{_,rfl,_,rfl,o,b,rfl,f1.pos,jQ f1.sb #[0], ?_};let a1:=LwM.vF t u f2.pos;let a2:=LwM.vF o b f1.pos;let d1:CDivL t (Int.gcd t u:Int):={by omega,jQ (CL f2.pos f2.sb) #[0]};let d2:CDivL t (Int.gcd o b:Int):={by omega,jQ (CL f1.pos f1.sb) #[0]};let m:=LwM.mul_low f1.pos f2.pos f1.low f2.low;refine{_,rfl,_,rfl,_,_,rfl,rfl,d1,_,rfl,_,rfl,_,_,rfl,rfl,d2,_,_,rfl,rfl,{jQ (qY f1.st a1) #[0],jQ (qY f2.st a2) #[0]}, ?_};refine{_,rfl,_,rfl,_,_,rfl,rfl,d2,_,rfl,_,rfl,_,_,rfl,rfl,d1,_,_,rfl,rfl,{jQ (qY f1.sb a2) #[0],jQ (qY f2.sb a1) #[0]},uR,λr H' n s e=>?_};refine k r H' n s ?_;let bu:=tG f1.pos f2.pos;show H' r=_;rw[e,vK bu,xW bu];dsimp only;rw[m.1,m.2]
def MO(K:tP):Sp:=λvs H Q _=>∃(p q:Addr) (t b o u:Int),vs=[.ref p,.ref q]/\SqT K H p [.int t,.int b]/\SqT K H q [.int o,.int u]/\FrOk 7900 t b/\FrOk 7900 o u/\o≠0/\
 ∀(r:Addr) (H':Hp),H r=none->Same H H'->At2 H' r (yR (t*u) (b*o)) (zK (t*u) (b*o))->Q (.ref r) H'
theorem CG{t b:Int}(h:b<0):yR (-t) (-b)=yR t b/\zK (-t) (-b)=zK t b:=by
 unfold yR zK;simp only[tN (show ¬(-b<0) by omega),tO h,Int.neg_gcd,Int.gcd_neg,Int.zero_sub];exact{trivial,(trivial)}
theorem scDiv:FnScope ["one","other","over","under"] ["one","other"] (jI WI):=scK #[2]
theorem ok_divN(F:Fun K "divided" "divided" WI f fd)(T:Txt mg)(DM:Df K mg "multiplied" sMul ["one","other"] fM fdM)(DG:Df K mg "greatest_divisor" SZ ["one","other"] fG fdG):FnOk P w K mg base CX0 3 f fd ["one","other"] (MO K):=by
 let GM:FnOk P w K mg base CX0 2 fM fdM ["one","other"] (spMul K):=XM DM.F T DG;refine F.ok scDiv #[9] #[4]
 .obtain⟨p,q,t,b,o,u,rfl,_⟩:=h
  rfl
 .obtain⟨p,q,t,b,o,u,rfl,hp,hq,f1,f2,ho,k⟩:=h;refine⟨_,jC (xA (pv 1) (qK rfl (jK (jH (i:=2) scDiv.nd rfl #[5]) (jK (jH (i:=3) scDiv.nd rfl #[5]) kT))))
   (jC (qJ (jX BC (pv 2) jB (kM _)) (jF uA) jY)
   (jC (qJ (jX JW (pv 2) jB (kM _)) (jF (jR (kU GM hr rfl DM.m DM.F.kp DM.b .nil vI (jA (pv 0) (jA (kN (jA (PN GE (pv 3)) (jA (PN GE (pv 2)) jD))) jD))))) jY)
   (jF (jR (kU GM hr rfl DM.m DM.F.kp DM.b .nil vI (jA (pv 0) (jA (kN (jA (pv 3) (jA (pv 2) jD))) jD))))))), ?_⟩
  try dsimp only[cxK]
  refine{_,rfl,q,_,rfl,hq,rfl,_,_,rfl,_,_,rfl,rfl, ?_};refine{_,rfl,rfl,_,rfl,yT (mU (by intro z;injection z with z;exact ho z)) ?_};refine{_,rfl,_,_,rfl,rfl,_,rfl, ?_};let gc:Int.gcd u o=1:=by rw[Int.gcd_comm];exact f2.low
  by_cases hn:o<0
  .refine DY (mW hn) ?_;refine{_,rfl,_,rfl,_,rfl,_,rfl,_,rfl,uR,λz H1 n1 s1 e1=>?_};refine{p,z,t,b,-u,-o,rfl,wW s1 hp,SqT.of e1,f1,{by omega,by rw[Int.neg_gcd,Int.gcd_neg];exact gc,by rw[Int.natAbs_neg];exact f2.sb,by rw[Int.natAbs_neg];exact f2.st},λr H' n s e=>?_};refine k r H' (s1.free n) (s1.trans s) ?_;dsimp only at e;rw[Int.mul_neg,Int.mul_neg,(CG (Int.mul_neg_of_pos_of_neg f1.pos hn)).1,(CG (Int.mul_neg_of_pos_of_neg f1.pos hn)).2]at e;exact e
  .refine yT (mU hn) ?_;refine{_,rfl,_,rfl,_,rfl,uR,λz H1 n1 s1 e1=>?_};refine{p,z,t,b,u,o,rfl,wW s1 hp,SqT.of e1,f1,{by omega,gc,f2.sb,f2.st},λr H' n s e=>?_};exact k r H' (s1.free n) (s1.trans s) e
abbrev MQ(K:tP):Sp:=spTwo K (λt b o u=>t*u+o*b) (λ_ b _ u=>b*u)
theorem scAddF:FnScope ["one","other","top","bottom","over","under","shared","total","left"] ["one","other"] (jI JL):=scK #[2]
theorem ok_addF(F:Fun K "added" "added" JL f fd)(T:Txt mg)(DG:Df K mg "greatest_divisor" SZ ["one","other"] fG fdG):FnOk P w K mg base CX0 2 f fd ["one","other"] (MQ K):=by
 let GG:FnOk P w K mg base CX0 1 fG fdG ["one","other"] spGcd:=MY DG.F T;refine F.ok scAddF #[9] #[4]
 .obtain⟨p,q,t,b,o,u,rfl,_⟩:=h
  rfl
 .obtain⟨p,q,t,b,o,u,rfl,hp,hq,f1,f2,k⟩:=h;refine⟨_,jC (xA (pv 0) (qK rfl (jK (jH (i:=2) scAddF.nd rfl #[5]) (jK (jH (i:=3) scAddF.nd rfl #[5]) kT))))
   (jC (xA (pv 1) (qK rfl (jK (jH (i:=4) scAddF.nd rfl #[5]) (jK (jH (i:=5) scAddF.nd rfl #[5]) kT))))
   (jC (jM (i:=6) scAddF.nd rfl #[5] (kU GG hr rfl DG.m DG.F.kp DG.b .nil vI (jA (pv 3) (jA (pv 5) jD))))
   (jC (jM (i:=7) scAddF.nd rfl #[5] (jJ qA (jJ qE (pv 2) (jJ qV (pv 5) (pv 6))) (jJ qE (pv 4) (jJ qV (pv 3) (pv 6)))))
   (jC (jM (i:=8) scAddF.nd rfl #[5] (kU GG hr rfl DG.m DG.F.kp DG.b .nil vI (jA (pv 7) (jA (pv 6) jD))))
   (jF (jR (kN (jA (jJ qV (pv 7) (pv 8)) (jA (jJ qE (jJ qV (pv 3) (pv 6)) (jJ qV (pv 5) (pv 8))) jD))))))))), ?_⟩
  refine{_,rfl,p,_,rfl,hp,rfl,_,_,rfl,_,_,rfl,rfl, ?_};refine{_,rfl,q,_,rfl,hq,rfl,_,_,rfl,_,_,rfl,rfl, ?_};let s1:=LwM.vF b u f2.pos;let sA:((Int.gcd b u:Nat):Int).natAbs<2^7900:=CL f2.pos f2.sb;let sD:CDivL u (Int.gcd b u:Int):={∎,jQ sA #[0]};refine{_,rfl,_,rfl,b,u,rfl,f2.pos,jQ f2.sb #[0], ?_};refine{_,rfl,_,rfl,_,rfl,_,_,rfl,rfl,sD,_,_,rfl,rfl,{jQ f1.st #[0],jQ (qY f2.sb s1) #[0]}, ?_};refine{_,rfl,_,rfl,_,rfl,_,_,rfl,rfl,sD,_,_,rfl,rfl,{jQ f2.st #[0],jQ (qY f1.sb s1) #[0]},_,_,rfl,rfl, ?_};let tA:#[21].natAbs<2^15801:=abs_add (n:=15800) (AL (m:=7900) (n:=7900) f1.st (qY f2.sb s1)) (AL (m:=7900) (n:=7900) f2.st (qY f1.sb s1));refine{_,rfl,_,rfl,_,_,rfl,∎,jQ sA #[0], ?_};let m:=LwM.add_low f1.pos f2.pos f1.low f2.low;let l1:=LwM.vF #[21] (Int.gcd b u:Int) ∎;let lA:((Int.gcd #[21] (Int.gcd b u:Int):Nat):Int).natAbs<2^7900:=CL ∎ sA;generalize hT:t*(u/(Int.gcd b u:Int))+o*#[61]=T at *;generalize hl:(Int.gcd T (Int.gcd b u:Int):Int)=l at *;let lD:CDivL u l:={∎,jQ lA #[0]};refine{_,rfl,_,rfl,_,_,rfl,rfl,lD,_,rfl,_,rfl,_,_,rfl,rfl,sD,_,rfl,_,rfl,_,_,rfl,rfl,lD,_,_,rfl,rfl,{jQ (qY f1.sb s1) #[0],jQ (qY f2.sb ∎) #[0]},uR,λr H' n s e=>?_}
  refine k r H' n s ?_;let bu:=tG f1.pos f2.pos;show H' r=_;rw[e,vK bu,xW bu];dsimp only;rw[hT,m.1,m.2]
open LwQ LwV
end Lw
namespace LwQ
def fv(t b:Int):Rat:=(t:Rat)/(b:Rat)
theorem cne{b:Int}(h:0<b):(b:Rat)≠0:=by
 intro z;let:b=0:=Rat.intCast_inj.mp (by rw[z];rfl)
 ∎
theorem fv_eq{t b o u:Int}(hb:0<b)(hu:0<u)(h:t*u=o*b):fv t b=fv o u:=by
 let h1:=cne hb;let h2:=cne hu;let h3:(t:Rat)*(u:Rat)=(o:Rat)*(b:Rat):=by rw[<-Rat.intCast_mul,<-Rat.intCast_mul,h]
 unfold fv
 grind
theorem ZJ{t b o u:Int}(hb:0<b)(hu:0<u)(h:fv t b=fv o u):t*u=o*b:=by
 let h1:=cne hb;let h2:=cne hu;unfold fv at h;let h3:(t:Rat)*(u:Rat)=(o:Rat)*(b:Rat):=by grind
 rw[<-Rat.intCast_mul,<-Rat.intCast_mul]at h3;exact Rat.intCast_inj.mp h3
theorem fv_add{t b o u:Int}(hb:0<b)(hu:0<u):fv (t*u+o*b) (b*u)=fv t b+fv o u:=by
 let h1:=cne hb;let h2:=cne hu;unfold fv;rw[Rat.intCast_add,Rat.intCast_mul,Rat.intCast_mul,Rat.intCast_mul]
 grind
theorem CN{b t u:Int}(g:Int.gcd t b=1)(h:b∣t*u):b∣u:=by
 let h:=Int.natAbs_dvd_natAbs.mpr h;rw[Int.natAbs_mul]at h;let c:Nat.Coprime b.natAbs t.natAbs:=by
  let:Nat.gcd t.natAbs b.natAbs=1:=g;rw[Nat.gcd_comm]at this;exact this
 exact Int.natAbs_dvd_natAbs.mp (c.dvd_of_dvd_mul_left h)
theorem YE{t b o u:Int}(hb:0<b)(hu:0<u)(g1:Int.gcd t b=1)(g2:Int.gcd o u=1)(h:t*u=o*b):t=o/\b=u:=by
 let d1:b∣u:=by
  let:b∣t*u:={o,by rw[h,tD]};exact CN g1 this
 let d2:u∣b:=by
  let:u∣o*b:={t,by rw[<-h,tD]};exact CN g2 this
 let e:b=u:=Int.dvd_antisymm ∎ ∎ d1 d2;subst e;exact{Int.eq_of_mul_eq_mul_right ∎ h,rfl}
theorem yJ(x:Rat):fv x.num x.den=x:=by
 unfold fv;let:=Rat.num_divInt_den x;rw[Rat.divInt_eq_div]at this;exact this
theorem vQ(x:Rat):0<(x.den:Int)/\Int.gcd x.num x.den=1:={by let:=x.den_pos;∎,x.reduced}
theorem num_of{t b:Int}(hb:0<b)(g:Int.gcd t b=1):(fv t b).num=t/\((fv t b).den:Int)=b:=by
 let n:=vQ (fv t b);let e:=ZJ n.1 hb (yJ (fv t b));exact YE n.1 hb n.2 g e
def Wh(D:Int)(x:Rat):Prop:=∃z:Int,x*(D:Rat)=(z:Rat)
theorem Wh.dvd{D t b:Int}(hb:0<b)(g:Int.gcd t b=1)(h:Wh D (fv t b)):b∣D:=by
 obtain⟨z,hz⟩:=h;let h1:=cne hb;let e:(t:Rat)*(D:Rat)=(z:Rat)*(b:Rat):=by unfold fv at hz;grind
 rw[<-Rat.intCast_mul,<-Rat.intCast_mul]at e;let e:=Rat.intCast_inj.mp e;let:b∣t*D:={z,by rw[e,tD]};exact CN g this
theorem Wh.of{t b:Int}(hb:0<b):Wh b (fv t b):={t,by let h1:=cne hb;unfold fv;grind}
end LwQ
namespace Lw
open PySem PySem.Spec PyProof.Rows L2 LwQ
theorem UA{n d:Int}(hd:0<d):yR n d*d=n*zK n d:=by
 rw[vK hd,xW hd];obtain⟨a,ha⟩:=mP (a:=n) (b:=d);obtain⟨b,hb⟩:=mI (a:=n) (b:=d);let g1:=LwM.vF n d hd;generalize (Int.gcd n d:Int)=g at ha hb g1;subst ha hb;rw[Int.mul_ediv_cancel_left _ ∎,Int.mul_ediv_cancel_left _ ∎]
 grind
theorem KL{n d:Int}(hd:0<d):0<zK n d:=by
 let g1:=LwM.vF n d hd;rw[xW hd];exact Int.ediv_pos_of_pos_of_dvd hd ∎ (mI ..)
theorem QN{n d:Int}(hd:0<d):Int.gcd (yR n d) (zK n d)=1:=by
 let g1:=LwM.vF n d hd;rw[vK hd,xW hd];exact Int.gcd_ediv_gcd_ediv_gcd ∎
theorem lowT_le{n d:Int}(hd:0<d):(yR n d).natAbs<=n.natAbs:=by
 rw[vK hd];exact LwM.uO _ _ (LwM.vF n d hd)
theorem fv_low{n d:Int}(hd:0<d):fv (yR n d) (zK n d)=fv n d:=fv_eq (KL hd) hd (UA hd)
theorem cross{x:Rat}{t b:Int}(hb:0<b)(h:x=fv t b):x.num*b=t*x.den:=by
 let n:=vQ x;exact ZJ n.1 hb (by rw[yJ,h])
def SzR(n:Nat)(x:Rat):Prop:=x.num.natAbs<2^n/\x.den<2^n
theorem SzR.fr{n:Nat}{x:Rat}(h:SzR n x)(k:n<=7900):FrOk 7900 x.num x.den:=
 {(vQ x).1,(vQ x).2,jQ h.1 k,jQ (by rw[Int.natAbs_natCast];exact h.2) k}
theorem EL{N D:Int}{z:Rat}(h:At2 H r (yR N D) (zK N D))(hD:0<D)(e:fv N D=z):At2 H r z.num z.den:=by
 let nm:=num_of (KL (n:=N) hD) (QN hD);rw[fv_low hD,e]at nm;unfold At2;rw[nm.1,nm.2];exact h
theorem at_lowN{N D:Int}{z:Rat}(h:At2 H r (yR N D) (zK N D))(hD:D≠0)(e:fv N D=z):At2 H r z.num z.den:=by
 by_cases p:0<D
 .exact EL h p e
 .have q:D<0:=∎
  rw[<-(CG q).1,<-(CG q).2]at h;refine EL h ∎ ?_;rw[<-e];unfold fv;rw[Rat.intCast_neg,Rat.intCast_neg];let:(D:Rat)≠0:=λz=>hD (Rat.intCast_inj.mp (by rw[z];rfl))
  grind
theorem IK{x:Rat}{t b:Int}(hb:0<b)(h:x=fv t b):(x.den:Int)∣b/\x.num.natAbs<=t.natAbs:=by
 let n:=vQ x;let d:(x.den:Int)∣b:=Wh.dvd n.1 n.2 (by rw[yJ,h];exact Wh.of hb);refine{d, ?_};obtain⟨k,hk⟩:=d;let c:=cross hb h;let k0:k≠0:=λz=>by rw[z,Int.mul_zero]at hk;∎
 let:x.num*k=t:=by
  let e:x.den*(x.num*k)=x.den*t:=by rw[hk]at c;grind
  exact Int.eq_of_mul_eq_mul_left ∎ e
 rw[<-this,Int.natAbs_mul];exact Nat.le_mul_of_pos_right _ ∎
structure Ov(D:Int)(n:Nat)(x:Rat):Prop where
 ex:∃z:Int,x=fv z D/\z.natAbs<=2^n
theorem Ov.sz{D:Int}{n d k:Nat}{x:Rat}(h:Ov D n x)(hD:0<D)(hd:D.natAbs<=2^d)(h1:n<k)(h2:d<k):SzR k x:=by
 obtain⟨z,e,hz⟩:=h.ex;let q:=IK hD e;let l:x.den<=D.natAbs:=by
  let:=Int.natAbs_dvd_natAbs.mpr q.1;rw[Int.natAbs_natCast]at this;exact Nat.le_of_dvd ∎ this
 exact{gX (nQ q.2 hz) (gP #[0] h1),gX (nQ l hd) (gP #[0] h2)}
theorem Ov.up{D:Int}{n m:Nat}{x:Rat}(h:Ov D n x)(k:n<=m):Ov D m x:=let ⟨z,e,hz⟩:=h.ex;{z,e,nQ hz (gO #[0] k)}
theorem Ov.zero(D:Int)(n:Nat):Ov D n 0:={0,by unfold fv;rw[show((0:Int):Rat)=0 from rfl,tH,nW],tF _}
theorem Ov.scale{D c:Int}{n b:Nat}{x:Rat}(h:Ov D n x)(hD:0<D)(hc:0<c)(hb:c.natAbs<=2^b):Ov (D*c) (n+b) x:=by
 obtain⟨z,e,hz⟩:=h.ex;refine{z*c, ?_, ?_}
 .rw[e];exact fv_eq hD (tG hD hc) (by grind)
 .rw[Int.natAbs_mul,Nat.pow_add];exact mY hz hb
theorem RN{z y D:Int}(hD:0<D):fv z D+fv y D=fv (z+y) D:=by
 let h1:=cne hD;unfold fv;rw[Rat.intCast_add]
 grind
theorem Ov.add{D:Int}{n:Nat}{x y:Rat}(h:Ov D n x)(k:Ov D n y)(hD:0<D):Ov D (n+1) (x+y):=by
 obtain⟨z,e,hz⟩:=h.ex;obtain⟨z',e',hz'⟩:=k.ex;refine{z+z',by rw[e,e',RN hD], ?_};rw[Nat.pow_succ]
 ∎
theorem Ov.div{D c:Int}{n:Nat}{x:Rat}(h:Ov D n x)(hD:0<D)(hc:c≠0):Ov (D*(c.natAbs:Int)) n (x/((c:Int):Rat)):=by
 obtain⟨z,e,hz⟩:=h.ex;let h1:=cne hD;let h2:(c:Rat)≠0:=λy=>hc (Rat.intCast_inj.mp (by rw[y];rfl));by_cases p:0<c
 .refine{z, ?_,hz};rw[show(c.natAbs:Int)=c by ∎,e];unfold fv;rw[Rat.intCast_mul]
  grind
 .refine{-z, ?_,by rw[Int.natAbs_neg];exact hz};rw[show(c.natAbs:Int) = -c by ∎,e];unfold fv;rw[Rat.intCast_mul,Rat.intCast_neg,Rat.intCast_neg]
  grind
theorem IF(i:Int):((i:Int):Rat).num=i/\(((i:Int):Rat).den:Int)=1:={Rat.num_intCast i,by rw[Rat.den_intCast];rfl}
theorem YV{i:Int}{n:Nat}(h:i.natAbs<2^n)(hn:0<n):SzR n ((i:Int):Rat):={by rw[(IF i).1];exact h,by rw[Rat.den_intCast];exact Nat.one_lt_two_pow ∎}
def NumK(K:tP)(H:Hp)(v:V)(x:Rat):Prop:=∃p,v=.ref p/\SqT K H p [.int x.num,.int x.den]
theorem NumK.same{K:tP}{H H':Hp}{v:V}{x:Rat}(h:NumK K H v x)(s:Same H H'):NumK K H' v x:=let ⟨p,e,q⟩:=h;{p,e,wW s q}
theorem VX{K:tP}{H:Hp}{p:Addr}{i:Int}(h:SqT K H p [.int i,.int 1]):SqT K H p [.int ((i:Int):Rat).num,.int ((i:Int):Rat).den]:=by rw[(IF i).1,(IF i).2];exact h
theorem addAt{x y:Rat}(e:At2 H r (yR (x.num*y.den+y.num*x.den) (x.den*y.den)) (zK (x.num*y.den+y.num*x.den) (x.den*y.den))):At2 H r (x+y).num (x+y).den:=
 EL e (tG (vQ x).1 (vQ y).1) (by rw[fv_add (vQ x).1 (vQ y).1,yJ,yJ])
theorem XQ{y:Rat}(ny:y≠0):y.num≠0:=λz=>ny (by rw[<-yJ y,z];unfold fv;rw[show((0:Int):Rat)=0 from rfl,tH,nW])
theorem divAt{x y:Rat}(ny:y≠0)(e:At2 H r (yR (x.num*y.den) (x.den*y.num)) (zK (x.num*y.den) (x.den*y.num))):At2 H r (x/y).num (x/y).den:=by
 let yn:=XQ ny;refine at_lowN e (Int.mul_ne_zero (by let:=(vQ x).1;∎) yn) ?_;let h1:=cne (vQ x).1;let h2:=cne (vQ y).1;let h3:((y.num:Int):Rat)≠0:=λz=>yn (Rat.intCast_inj.mp (by rw[z];rfl))
 conv=>rhs;rw[<-yJ x,<-yJ y]
 unfold fv;rw[Rat.intCast_mul,Rat.intCast_mul]
 grind
end Lw
namespace Lw
open PySem PySem.Spec PyProof.Rows L2
theorem jV(s:Same H H')(n:H l=none):Same H (upd H' l o):=λc u h=>by
 rw[jG (jS h n)];exact s c u h
open LwS
theorem Paired.to{α β:Type}{F G:α->β->Prop}(f:∀a b,F a b->G a b):∀{l₁:List α} {l₂:List β},Paired F l₁ l₂->Paired G l₁ l₂
 | _,_,.nil=>.nil
 | _,_,.cons h t=>.cons (f _ _ h) (Paired.to f t)
theorem Paired.at{α β:Type}{F:α->β->Prop} :∀{l₁:List α} {l₂:List β} {i:Nat} {x:α},Paired F l₁ l₂->l₁[i]? = some x->∃y,l₂[i]? = some y/\F x y
 | _,_,_,_,.nil,h=>by simp at h
 | _,_,0,_,.cons h t,e=>by
  cases (Option.some.inj e);exact{_,rfl,h}
 | _,_,i+1,_,.cons h t,e=>Paired.at t (i:=i) e
structure CmI(F:Nat->List V)(q:Addr)(H1:Hp)(i:Nat)(ys:List V)(H2:Hp):Prop where
 s:Same H1 H2
 e:H2 q=some (.lst ys)
 y:ys=F i
structure TAt(H:Hp)(b c:Addr)(x:Trm):Prop where
 pw:H b=some (.tup (x.ns.map V.int))
 nb:At2 H c x.t x.b
theorem TAt.map(h:TAt H b c x)(k:∀a xs,H a=some (.tup xs)->H' a=some (.tup xs)):TAt H' b c x:={k _ _ h.pw,k _ _ h.nb}
structure TrmV(H:Hp)(v:V)(x:Trm):Prop where
 ex:∃r b c:Addr,v=.ref r/\H r=some (.tup [.ref b,.ref c])/\TAt H b c x
theorem TrmV.map(h:TrmV H v x)(k:∀a xs,H a=some (.tup xs)->H' a=some (.tup xs)):TrmV H' v x:=by
 obtain⟨r,b,c,e1,e2,e3⟩:=h.ex;exact{r,b,c,e1,k _ _ e2,e3.map k}
structure Poly(H:Hp)(p:Addr)(ad:Nat)(ts:List Trm):Prop where
 ex:∃(q:Addr) (xs:List V),H p=some (.tup [.int ad,.ref q])/\H q=some (.tup xs)/\Paired (TrmV H) xs ts
theorem Poly.map{ad:Nat}(h:Poly H p ad ts)(k:∀a xs,H a=some (.tup xs)->H' a=some (.tup xs)):Poly H' p ad ts:=by
 obtain⟨q,xs,e1,e2,e3⟩:=h.ex;exact{q,xs,k _ _ e1,k _ _ e2,Paired.to (λ_ _ h=>h.map k) e3}
theorem Poly.same{ad:Nat}(h:Poly H p ad ts)(s:Same H H'):Poly H' p ad ts:=h.map λ_ _ e=>s _ _ e
end Lw
namespace Lw
open PySem PySem.Spec PyProof.Rows L2 LwQ LwV
def pk(ns:List Int):Int:=ns.foldl (λk n=>k*256+n) 0
theorem xH(ns:List Int)(n:Int):pk (ns++[n])=pk ns*256+n:=by
 unfold pk;rw[List.foldl_append]
 rfl
theorem pk_take{ns:List Int}{i:Nat}{n:Int}(h:ns[i]? = some n):pk (ns.take (i+1))=pk (ns.take i)*256+n:=by
 rw[mD,h];exact xH ..
def Byt(ns:List Int):Prop:=∀n∈ns,0<=n/\n<256
theorem Byt.take{ns:List Int}(h:Byt ns)(i:Nat):Byt (ns.take i):=λn hn=>h n (gT hn)
theorem pk_nn:∀{ns:List Int},Byt ns->0<=pk ns:=fun {ns} =>by
 let key:∀(k:Int) (l:List Int),0<=k->(∀n∈l,0<=n/\n<256)->0<=l.foldl (λk n=>k*256+n) k:=λk l=>by
  induction l generalizing k with
  | nil=>exact λh _=>h
  | cons a l ih=>
   intro h0 h1;refine ih _ ?_ λn hn=>h1 n (gM _ hn);let:=h1 a (hU ..);show 0<=k*256+a
   ∎
 exact key 0 ns uQ 
theorem CB{ns:List Int}{n:Int}(h:0<=n/\n<256):pk (ns++[n])%256=n/\pk (ns++[n])/256=pk ns:=by
 rw[xH]
 ∎
theorem yB{α:Type}{l:List α}{n:Nat}(h:l.length=n+1):∃m y,l=m++[y]/\m.length=n:=by
 rcases List.eq_nil_or_concat l with z | ⟨m,y,z⟩
 .rw[z]at h;cases h
 .rw[List.concat_eq_append]at z;exact{m,y,z,by rw[z,List.length_append]at h;simpa using h}
theorem AI{l:List Int}{a:Int}(h:Byt (l++[a])):Byt l/\0<=a/\a<256:={λn hn=>h n (List.mem_append_left _ hn),h a (gH _ (hJ.mpr rfl))}
theorem WV:∀(n:Nat) {ns:List Int},ns.length=n->Byt ns->pk ns<256^n
 | 0,ns,hl,_=>by rw[List.length_eq_zero_iff.mp hl];decide
 | n+1,ns,hl,h=>by
  obtain⟨m,y,rfl,hm⟩:=yB hl;obtain⟨h1,h2⟩:=AI h;let:=WV n hm h1;rw[xH,Int.pow_succ]
  ∎
theorem AR:∀(n:Nat) {a b:List Int},a.length=n->b.length=n->Byt a->Byt b->pk a=pk b->a=b
 | 0,a,b,h1,h2,_,_,_=>by rw[List.length_eq_zero_iff.mp h1,List.length_eq_zero_iff.mp h2]
 | n+1,a,b,h1,h2,ha,hb,e=>by
  obtain⟨m,y,rfl,hm⟩:=yB h1;obtain⟨m',y',rfl,hm'⟩:=yB h2;obtain⟨k1,k2⟩:=AI ha;obtain⟨k3,k4⟩:=AI hb;let p1:=CB (ns:=m) k2;let p2:=CB (ns:=m') k4;rw[e]at p1;rw[p1.1.symm.trans p2.1,AR n hm hm' k1 k3 (p1.2.symm.trans p2.2)]
theorem DH{ns:List Int}(h:Byt ns)(l:ns.length<=4):(pk ns).natAbs<2^32:=by
 let h0:=pk_nn h;let h1:=WV _ rfl h;let:(256:Int)^ns.length<=256^4:=by
  obtain h | h | h | h | h:ns.length=0∨ns.length=1∨ns.length=2∨ns.length=3∨ns.length=4:=∎
  all_goals rw[h];decide
 let:(256:Int)^4=2^32:=by decide
 ∎
def JG(K:tP):Sp:=λvs H Q _=>∃(b:Addr) (ns:List Int),vs=[.ref b]/\SqT K H b #[16]/\Byt ns/\ns.length<=4/\Q (.int (pk ns)) H
inductive PkI(H:Hp)(b:Addr)(ns:List Int)(i:Nat):L2.St->Hp->Prop where
 | mk {u:Option V} :PkI H b ns i [some (.ref b),some (.int (pk (ns.take i))),u] H
def spUnpk:Sp:=λvs H Q _=>∃(ns:List Int),vs=[.int (pk ns),.int ns.length]/\Byt ns/\ns.length<=4/\∀(r:Addr) (H':Hp),H r=none->Same H H'->H' r=some (.tup #[16])->Q (.ref r) H'
inductive UpI(H:Hp)(l:Addr)(ns:List Int)(i:Nat):L2.St->Hp->Prop where
 | mk {u:Option V} {H':Hp} (s:Same H H') (e:H' l=some (.lst (((ns.reverse).take i).map V.int))):UpI H l ns i [some (.int (pk (ns.take (ns.length-i)))),some (.int ns.length),some (.ref l),u] H'
variable{P:Program}{w:World}{K:tP}{mg:Str->Option Value}{base:Heap}{f fd:_}
theorem scPk:FnScope ["powers","key","power"] ["powers"] (jI BW):=scK #[2]
theorem TV(F:Fun K "packed" "packed" BW f fd)(T:Txt mg):FnOk P w K mg base CX0 1 f fd ["powers"] (JG K):=by
 obtain⟨tp,hp⟩:=T.pack;refine F.ok scPk #[9] #[4]
 .obtain⟨b,ns,rfl,_⟩:=h
  rfl
 .obtain⟨b,ns,rfl,hb,hB,l4,go⟩:=h;refine{_,jC (jM (i:=1) scPk.nd rfl #[5] jB) (jC (qC PassesOwn.never rfl (wM (pv 0)) (jH (i:=2) scPk.nd rfl #[5]) (jF (jM (i:=1) scPk.nd rfl #[5] (jJ qA (jJ qE (pv 1) (qD (v:=.int 256) (by rfl) hp {_,rfl})) (pv 2))))) (jF (jR (pv 1)))), ?_};try dsimp only[cxK]
  refine{_,rfl,b,rfl,{_,hb},uM (K:=K) (a:=b) (xs:=ns.map V.int) (PkI H b ns) .mk (λi O H1 _ h=>?_) (λi x O H1 hx h=>?_) (fun O H1 h=>?_)}
  .obtain⟨⟩:=h;exact hb
  .obtain⟨⟩:=h;rw[mB]at hx;obtain⟨n,hn,rfl⟩:=Option.map_eq_some_iff.mp hx;let sm:=DH (hB.take i) (by rw[mJ];∎);refine{_,rfl,_,_,rfl,rfl,{jQ sm #[0],jQ (m:=9) #[0] #[0]},_,rfl,_,_,rfl,rfl, ?_};let e:=pk_take hn;dsimp only[jP];rw[<-e];exact .mk
  .obtain⟨⟩:=h;rw[mS,mL];exact{_,rfl,go}
theorem scUp:FnScope ["key","many","powers","letter"] ["key","many"] (jI OR):=scK #[2]
theorem ok_unpk(F:Fun K "unpacked" "unpacked" OR f fd)(T:Txt mg):FnOk P w K mg base CX0 1 f fd ["key","many"] spUnpk:=by
 obtain⟨tp,hp⟩:=T.pack;refine F.ok scUp #[9] #[4]
 .obtain⟨ns,rfl,_⟩:=h
  rfl
 .obtain⟨ns,rfl,hB,l4,go⟩:=h;refine{_,jC (jM (i:=2) scUp.nd rfl #[5] (vN jD)) (jC (qC PassesOwn.never rfl (xF (by rfl) T.rng #[74]) (jH (i:=3) scUp.nd rfl #[5]) (jC (yC (XA PySem.F.plainAttrs_list PySem.F.slot_list_append PySem.F.type_list_append yQ (pv 2) (jA (jJ vT (pv 0) (qD (v:=.int 256) (by rfl) hp {_,rfl})) jD))) (jF (jM (i:=0) scUp.nd rfl #[5] (jJ LwD.uG (pv 0) (qD (v:=.int 256) (by rfl) hp {_,rfl})))))) (jF (jR (qL qX (by rfl) T.tup boot_tuple (jA (XC (pv 2) (PL (PN GE jB))) jD))))), ?_};try dsimp only[cxK]
  refine{(by show 0<=sizeLine;decide),λl H1 n1 s1 e1=>?_};refine{_,rfl,_,rfl,∎,∎,xQ (n:=ns.length) (UpI H l ns) ?_ (λi O H2 hi h=>?_) (fun O H2 h=>?_)}
  .have z:UpI H l ns 0 [some (.int (pk (ns.take (ns.length-0)))),some (.int ns.length),some (.ref l),none] H1:=.mk s1 (by rw[List.take_zero];exact e1);rw[Nat.sub_zero,mL]at z;exact z
  .obtain⟨s2,e2⟩:=h;obtain⟨m,y,em,hm⟩:=yB (l:=ns.take (ns.length-i)) (n:=ns.length-(i+1)) (by rw[mJ];∎);let hBm:=hB.take (ns.length-i);rw[em]at hBm;obtain⟨b1,b2⟩:=AI hBm;let p1:=CB (ns:=m) b2;let em':m=ns.take (ns.length-(i+1)):=by
    let:=congrArg (List.take (ns.length-(i+1))) em;rw[List.take_take,Nat.min_eq_left ∎,<-hm,List.take_left' rfl]at this;rw[<-this,hm]
   let sm:=DH (hB.take (ns.length-i)) (by rw[mJ];∎);rw[em]at sm ⊢;let lt:=mJ (i:=i) (l:=ns.reverse);rw[List.length_reverse]at lt;refine{_,rfl,.inl {rfl,_,SqL.of e2},_,rfl,_,_,rfl,rfl,(by show(0:Int)<256;decide),l,_,_,rfl,rfl,e2,by rw[mS,lt,sizeLine_eq];∎, ?_};refine{_,rfl,_,_,rfl,rfl,LwD.zH (m:=32) #[0] #[0] sm, ?_};dsimp only[jP];rw[p1.1,p1.2,em'];refine .mk (jV s2 n1) ?_;let g:ns.reverse[i]? = some y:=by
    rw[List.getElem?_reverse ∎];let g2:(ns.take (ns.length-i))[ns.length-1-i]? = some y:=by
     rw[em,uU ∎];let:ns.length-1-i-m.length=0:=∎
     rw[this]
     rfl
    rw[uZ ∎]at g2;exact g2
   rw[jE,mD,g,mT]
   rfl
  .obtain⟨s2,e2⟩:=h;rw[gD (by rw[List.length_reverse];exact tE _)]at e2;refine{_,rfl,_,rfl,_,rfl,rfl,l,_,rfl,SqL.of e2,λl2 H3 n3 s3 e3=>{l2,_,rfl,.inl {SqL.of e3,λr nr=>?_}}};let e:((ns.reverse).map V.int).reverse=ns.map V.int:=by rw[List.map_reverse,List.reverse_reverse]
   rw[e];exact go r _ ((s2.trans s3).free nr) ((s2.trans s3).trans (jO _ nr)) jE
theorem Paired.app{α β:Type}{F:α->β->Prop} :∀{a b:List α} {c d:List β},Paired F a c->Paired F b d->Paired F (a++b) (c++d)
 | _,_,_,_,.nil,h=>h
 | _,_,_,_,.cons h t,k=>.cons h (Paired.app t k)
abbrev Tb:=List (Int×Rat)
def tv(T:Tb)(k:Int):Rat:=((T.find? λe=>decide (e.1=k)).map (·.2)).getD 0
def xZ(T:Tb)(k:Int)(x:Rat):Tb:=if (T.any λe=>decide (e.1=k))=true then T.map (λe=>if e.1=k then(e.1,x)else e)else T++[(k,x)]
theorem kY(e:Int×Rat)(T:Tb)(k:Int):tv (e::T) k=if e.1=k then e.2 else tv T k:=by
 unfold tv;rw[List.find?_cons];by_cases h:e.1=k
 .rw[tO h];simp [h]
 .rw[tN h];simp [h]
theorem xD:∀{T:Tb} {k:Int},k∉T.map (·.1)->tv T k=0
 | [],_,_=>rfl
 | e::T,k,h=>by
  rw[kY,tN (λz=>h (by simp [z])),xD (λz=>h (by simp at z ⊢;exact .inr z))]
theorem LX:∀(T:Tb) (k:Int) (x:Rat) (j:Int),k∉T.map (·.1)->tv (T++[(k,x)]) j=if j=k then x else tv T j
 | [],k,x,j,_=>by
  show tv [(k,x)] j=_;rw[kY];by_cases h:k=j
  .rw[tO h,tO h.symm]
  .rw[tN h,tN (Ne.symm h)]
 | e::T,k,x,j,hk=>by
  let ih:=LX T k x j (λz=>hk (by simp at z ⊢;exact .inr z));show tv (e::(T++[(k,x)])) j=_;rw[kY,kY,ih];by_cases h:e.1=j
  .rw[tO h,tO h,tN (λz=>hk (by simp [h,z]))]
  .rw[tN h,tN h]
theorem LW:∀(T:Tb) (k:Int) (x:Rat) (j:Int),k∈T.map (·.1)->tv (T.map (λe=>if e.1=k then(e.1,x)else e)) j=if j=k then x else tv T j
 | [],k,x,j,h=>nomatch h
 | e::T,k,x,j,hk=>by
  rw[nH,kY,kY];by_cases h:e.1=k
  .rw[tO h];by_cases q:e.1=j
   .rw[tO q,tO (q.symm.trans h)]
   .rw[tN q,tN (λz=>q (h.trans z.symm)),tN q];by_cases r:k∈T.map (·.1)
    .rw[LW T k x j r,tN (λz=>q (h.trans z.symm))]
    .have:T.map (λe=>if e.1=k then(e.1,x)else e)=T:=by
      conv=>rhs;rw[<-List.map_id T]
      refine List.map_congr_left λa ha=>?_;rw[tN (λz=>r (by rw[<-z];exact List.mem_map_of_mem ha))]
      rfl
     rw[this]
  .rw[tN h];let r:k∈T.map (·.1):=by
    rcases nT.mp hk with⟨a,ha,e1⟩
    rcases nI.mp ha with rfl | ha
    .exact absurd e1 h
    .exact e1▸List.mem_map_of_mem ha
   rw[LW T k x j r];by_cases q:e.1=j
   .rw[tO q,tN (λz=>h (q.trans z)),tO q]
   .rw[tN q,tN q]
theorem any_key{T:Tb}{k:Int} :(T.any λe=>decide (e.1=k))=true↔k∈T.map (·.1):=by
 rw[List.any_eq_true,nT];constructor
 .rintro⟨e,he,h⟩;exact{e,he,mG h}
 .rintro⟨e,he,h⟩;exact{e,he,mW h}
theorem tv_put(T:Tb)(k:Int)(x:Rat)(j:Int):tv (xZ T k x) j=if j=k then x else tv T j:=by
 unfold xZ;by_cases h:(T.any λe=>decide (e.1=k))=true
 .rw[tO h,LW T k x j (any_key.mp h)]
 .rw[tN h,LX T k x j (λz=>h (any_key.mpr z))]
theorem zT(T:Tb)(k:Int)(x:Rat):(xZ T k x).map (·.1)=if k∈T.map (·.1)then T.map (·.1)else T.map (·.1)++[k]:=by
 unfold xZ;by_cases h:(T.any λe=>decide (e.1=k))=true
 .rw[tO h,tO (any_key.mp h),nX];refine List.map_congr_left λa _=>?_;show(if a.1=k then(a.1,x)else a).1=a.1;split<;>rfl
 .rw[tN h,tN (λz=>h (any_key.mpr z)),mT]
  rfl
theorem yO{T:Tb}{k:Int}{x:Rat}(h:#[75].Nodup):((xZ T k x).map (·.1)).Nodup:=by
 rw[zT];split
 .exact h
 .rename_i n;rw[mH];exact{h,by simp,λa ha b hb=>by rw[hJ]at hb;rintro rfl;rw[hb]at ha;exact n ha}
def NumH(H:Hp)(v:V)(x:Rat):Prop:=∃p,v=.ref p/\At2 H p x.num x.den
theorem NumH.k{x:Rat}(h:NumH H v x):NumK K H v x:=let ⟨p,e,q⟩:=h;{p,e,SqT.of q}
theorem NumH.same{x:Rat}(h:NumH H v x)(s:Same H H'):NumH H' v x:=let ⟨p,e,q⟩:=h;{p,e,s _ _ q}
theorem NumH.of{x:Rat}(h:At2 H p x.num x.den):NumH H (.ref p) x:={p,rfl,(h)}
theorem SH(e:H p=some (.dK aj))(h:H a=some (.tup xs)):(upd H p o) a=some (.tup xs):=by rw[jG λz=>by rw[z,e]at h;cases h];exact h
theorem at_updL(e:H p=some (.lst ys))(h:H a=some (.tup xs)):(upd H p o) a=some (.tup xs):=by rw[jG λz=>by rw[z,e]at h;cases h];exact h
def EntQ(K:tP)(H:Hp)(kv:Key×V)(e:Int×Rat):Prop:=kv.1=.inl e.1/\NumH H kv.2 e.2
theorem EntQ.same{e:Int×Rat}(h:EntQ K H kv e)(s:Same H H'):EntQ K H' kv e:={h.1,h.2.same s}
theorem RR{k:Int} :∀{aj:List (Key×V)} {T:Tb},Paired (EntQ K H) aj T->(aj.any λkv=>decide (kv.1=(.inl k:Key)))=(T.any λe=>decide (e.1=k))
 | _,_,.nil=>rfl
 | _,_,.cons (a:=kv) (b:=e) h t=>by
  rw[List.any_cons,List.any_cons,RR t,h.1]
  congr 1
  by_cases q:e.1=k
  .rw[mW q,mW (by rw[q])]
  .rw[mU q,mU (λz=>q (Sum.inl.inj z))]
theorem II{K:tP}{H:Hp}{k:Int}{v:V}{x:Rat}{aj:List (Key×V)}{T:Tb}(h:Paired (EntQ K H) aj T)(n:NumH H v x):Paired (EntQ K H) (qB aj (.inl k) v) (xZ T k x):=by
 let key:∀{aj:List (Key×V)} {T:Tb},Paired (EntQ K H) aj T->Paired (EntQ K H) (aj.map λkv=>if kv.1=(.inl k:Key)then(kv.1,v)else kv) (T.map λe=>if e.1=k then(e.1,x)else e):=by
  intro aj T h;induction h with
  | nil=>exact .nil
  | @cons kv e _ _ h _ ih=>
   refine .cons ?_ ih;dsimp only;by_cases q:e.1=k
   .rw[tO (by rw[h.1,q]),tO q];exact{h.1,(n)}
   .rw[tN (λz=>q (by rw[h.1]at z;exact Sum.inl.inj z)),tN q];exact h
 unfold qB xZ;rw[RR h];split
 .exact key h
 .exact Paired.app h (.cons {rfl,(n)} .nil)
theorem IH{k:Int} :∀{aj:List (Key×V)} {T:Tb},Paired (EntQ K H) aj T->(∃v,kK aj (.inl k:Key)=some v/\NumH H v (tv T k)/\k∈T.map (·.1))∨(kK aj (.inl k:Key)=none/\tv T k=0/\k∉T.map (·.1))
 | _,_,.nil=>.inr {rfl,rfl,by simp}
 | kv::aj,e::T,.cons h t=>by
  rw[kY];by_cases q:e.1=k
  .rw[tO q,qN (by rw[h.1,q])];exact .inl {_,rfl,h.2,by simp [q]}
  .have n:kv.1≠(.inl k:Key):=λz=>q (by rw[h.1]at z;exact Sum.inl.inj z);let e1:kK (kv::aj) (.inl k:Key)=kK aj (.inl k:Key):=by unfold kK;rw[List.find?_cons,mU n]
   rw[tN q,e1];rcases IH t with⟨v,h1,h2,h3⟩ | ⟨h1,h2,h3⟩
   .exact .inl {v,h1,h2,gM _ h3}
   .exact .inr {h1,h2,λz=>by rcases nI.mp z with z | z;exact q z.symm;exact h3 z}
structure TabQ(K:tP)(H:Hp)(d:Addr)(aj:List (Key×V))(T:Tb):Prop where
 rd:Rd H d (.dK aj)
 pr:Paired (EntQ K H) aj T
section
variable{X:Cx}
def rDictK:List V->Hp->VK->Prop:=λxs H Q=>∃(a:Addr) (aj:List (Key×V)),xs=[.ref a]/\Rd H a (.dK aj)/\New H (.dK aj) Q
theorem NX:CallR X (.type "dict") rDictK:=by
 intro ae s O H xs us Q I r h;obtain⟨a,aj,rfl,ha,q⟩:=h;obtain⟨u,rfl,ru⟩:=vV r;cases ru;exact d_copyOf I ha λp s' n I'=>{.ref p,_,I',rfl,q.at n}
end
def DW{α:Type}(xs:List α)(Pv:Nat->List (Key×V)->Hp->Prop)(i m:Nat)(ys:List (Key×V))(H:Hp):Prop:=m=xs.length-i/\i<=xs.length/\Pv i ys H
theorem IJ{α:Type}{xs:List α}{Pv:Nat->List (Key×V)->Hp->Prop}{i m:Nat}{x:α}(h:xs[i]? = some x)(hm:m=xs.length-i)(q:Pv (i+1) ys H):∃m',m'<m/\DW xs Pv (i+1) m' ys H:=by
 let:=(uW.mp h).1;exact{_,∎,rfl,this,q}
theorem NP{xs:List V}(Pv:Nat->List (Key×V)->Hp->Prop)(hz:xs.length<sizeLine)(h0:Pv 0 [] H')(hl:∀i ys H2,Pv i ys H2->SqT K H2 a xs/\H2 p=some (.dK ys)/\ys.length<=i)
  (hs:∀i m ys x H2,xs[i]? = some x->m=xs.length-i->Pv i ys H2->g x O0 H2 fun O4 H4=>Keep O0 O4/\tk O4 H4 λy H5=>tx O4 H5 λv H6=>∃k,y=kV k/\H6 p=some (.dK ys)/\∃m',m'<m/\DW xs Pv (i+1) m' (qB ys k v) (upd H6 p (.dK (qB ys k v))))
  (hd:∀ys H2,Pv xs.length ys H2->Q (.ref p) H2):DCompGoK O0 (Itt K a) g tk tx Q p H':=by
 refine{DW xs Pv,{_,rfl,tF _,h0}, ?_};rintro i m ys H2 ⟨hm,hi,hp⟩;obtain⟨q,e,ly⟩:=hl i ys H2 hp;refine{e,∎, ?_};by_cases hlt:i<xs.length
 .refine .inr {{xs,xs[i],q,by simp [hlt]}, ?_};rintro x H3 ⟨rfl,y⟩;exact hs i m ys x _ (y xs q) hm hp
 .obtain rfl:i=xs.length:=∎
  exact .inl {{xs,q,tE _},hd ys H2 hp}
theorem AF{aj:List (Key×V)}(Pv:Nat->List (Key×V)->Hp->Prop)(hz:aj.length<sizeLine)(h0:Pv 0 [] H')(hl:∀i ys H2,Pv i ys H2->H2 d=some (.frz o (.dK aj))/\H2 p=some (.dK ys)/\ys.length<=i)
  (hs:∀i m ys k x c H2,aj[i]? = some (k,x)->m=aj.length-i->Pv i ys H2->H2 c=none->g (.ref c) O0 (upd H2 c (.tup [kV k,x])) fun O4 H4=>Keep O0 O4/\tk O4 H4 λy H5=>tx O4 H5 λv H6=>∃k,y=kV k/\H6 p=some (.dK ys)/\∃m',m'<m/\DW aj Pv (i+1) m' (qB ys k v) (upd H6 p (.dK (qB ys k v))))
  (hd:∀ys H2,Pv aj.length ys H2->Q (.ref p) H2):DCompGoK O0 (Iti d o aj) g tk tx Q p H':=by
 refine{DW aj Pv,{_,rfl,tF _,h0}, ?_};rintro i m ys H2 ⟨hm,hi,hp⟩;obtain⟨q,e,ly⟩:=hl i ys H2 hp;refine{e,∎, ?_};by_cases hlt:i<aj.length
 .refine .inr {{q,(hlt)}, ?_};rintro v H3 ⟨c,k,x,hc,rfl,hx,rfl⟩;exact hs i m ys k x c _ hx hm hp hc
 .obtain rfl:i=aj.length:=∎
  exact .inl {{q,(rfl)},hd ys H2 hp}
def TmQ(K:tP)(H:Hp)(v:V)(x:List Int×Rat):Prop:=∃r b c:Addr,v=.ref r/\H r=some (.tup [.ref b,.ref c])/\H b=some (.tup (x.1.map V.int))/\NumH H (.ref c) x.2
theorem TmQ.same{x:List Int×Rat}(h:TmQ K H v x)(s:Same H H'):TmQ K H' v x:=let ⟨r,b,c,e1,e2,e3,e4⟩:=h;{r,b,c,e1,s _ _ e2,s _ _ e3,e4.same s}
def Ngt(K:tP)(mg:Str->Option Value):Prop:=∃a,mg "NOUGHT" = some (.ref a)/\∀H,SqT K H a (([0,1]:List Int).map V.int)
structure SumQ(K:tP)(H:Hp)(p:Addr)(ad:Nat)(P:Pl):Prop where
 ex:∃(q:Addr) (xs:List V),H p=some (.tup [.int ad,.ref q])/\H q=some (.tup xs)/\Paired (TmQ K H) xs P
theorem SumQ.same{K:tP}{H H':Hp}{p:Addr}{ad:Nat}{P:Pl}(h:SumQ K H p ad P)(s:Same H H'):SumQ K H' p ad P:=by
 obtain⟨q,xs,e1,e2,e3⟩:=h.ex;exact{q,xs,s _ _ e1,s _ _ e2,Paired.to (λ_ _ h=>h.same s) e3}
structure PlOk(ad:Nat)(P:Pl):Prop where
 len:∀x∈P,x.1.length=ad
 nn:∀x∈P,∀n∈x.1,0<=n
 deg:∀x∈P,x.1.sum<=16
 ord:(P.map λx=>pk x.1).Pairwise (· < ·)
 nz:∀x∈P,x.2≠0
 few:P.length<=500
 m1:1<=ad
 m4:ad<=4
theorem vR:∀{ns:List Int} {n:Int},(∀x∈ns,0<=x)->n∈ns->n<=ns.sum/\0<=ns.sum
 | [],_,_,h=>nomatch h
 | a::l,n,h,hn=>by
  rw[nM];let ha:=h a (hU ..);let hl:0<=l.sum:=by
   match l with
   | []=>exact tJ _
   | b::l'=>exact(vR (ns:=b::l') (n:=b) (λx hx=>h x (gM _ hx)) (hU ..)).2
  rcases nI.mp hn with rfl | hn
  .lia
  .have:=(vR (λx hx=>h x (gM _ hx)) hn).1
   ∎
theorem PlOk.byt{ad:Nat}{P:Pl}(h:PlOk ad P){x:List Int×Rat}(hx:x∈P):Byt x.1:=λn hn=>by
 let h1:=h.nn x hx;let h2:=(vR h1 hn).1;let h3:=h.deg x hx;let h4:=h1 n hn
 ∎
def kH(P:Pl):Tb:=P.map λx=>(pk x.1,x.2)
theorem qU(P:Pl):(kH P).map (·.1)=P.map λx=>pk x.1:=by unfold kH;rw[nX];rfl
theorem PlOk.nd{ad:Nat}{P:Pl}(h:PlOk ad P):((kH P).map (·.1)).Nodup:=by
 rw[qU];exact h.ord.imp λh=>Int.ne_of_lt h
theorem wZ{T:Tb}{k:Int}{x:Rat}(h:k∉T.map (·.1)):xZ T k x=T++[(k,x)]:=by
 unfold xZ;rw[tN (λz=>h (any_key.mp z))]
theorem VT{P:Pl}{i:Nat}{x:List Int×Rat}(h:P[i]? = some x)(nd:((kH P).map (·.1)).Nodup):xZ (kH (P.take i)) (pk x.1) x.2=kH (P.take (i+1)):=by
 rw[wZ,mD,h]
 .unfold kH;rw[mT]
  rfl
 .intro z;rw[qU]at z nd;rw[nN]at z;obtain⟨j,hj⟩:=gK.mp z;let hj':j<i:=by
   let:=(uW.mp hj).1;rw[mJ]at this
   ∎
  rw[uZ hj']at hj;let hi:(P.map λx=>pk x.1)[i]? = some (pk x.1):=by rw[mB,h];rfl
  let:=(List.getElem?_inj (uW.mp hj).1 nd).mp (hj.trans hi.symm)
  ∎
theorem zM{ad:Nat} :∀{P:Pl},(∀x∈P,x.1.length=ad/\Byt x.1)->(P.map (·.1)).Nodup->∀{ns:List Int},ns.length=ad->Byt ns->tv (kH P) (pk ns)=cf P ns
 | [],_,_,_,_,_=>rfl
 | x::P,h,nd,ns,hl,hb=>by
  let hx:=h x (hU ..);rw[nH,List.nodup_cons]at nd;let ih:=zM (P:=P) (λy hy=>h y (gM _ hy)) nd.2 hl hb;show tv ((pk x.1,x.2)::kH P) (pk ns)=_;rw[kY,xJ];by_cases e:x.1=ns
  .rw[tO (by rw[e]),tO e,cf_out (λy hy z=>nd.1 (by rw[e,<-z];exact List.mem_map_of_mem hy)),nV]
  .rw[tN (λz=>e (AR _ hx.1 hl hx.2 hb z)),tN e,nU,ih]
theorem PlOk.ndn{ad:Nat}{P:Pl}(h:PlOk ad P):(P.map (·.1)).Nodup:=by
 let:=h.ord;rw[List.pairwise_map]at this;rw[List.Nodup,List.pairwise_map];exact this.imp λz e=>by rw[e]at z;exact Int.lt_irrefl _ z
theorem PlOk.tv{ad:Nat}{P:Pl}(h:PlOk ad P){ns:List Int}(hl:ns.length=ad)(hb:Byt ns):Lw.tv (kH P) (pk ns)=cf P ns:=zM (λx hx=>{h.len x hx,h.byt hx}) h.ndn hl hb
def OL(K:tP):Sp:=λvs H Q _=>∃(p:Addr) (ad:Nat) (P:Pl),vs=[.ref p]/\SumQ K H p ad P/\PlOk ad P/\∀(d:Addr) (aj:List (Key×V)) (H':Hp),H d=none->Same H H'->H' d=some (.dK aj)->Paired (EntQ K H') aj (kH P)->Q (.ref d) H'
theorem EntQ.upd(e:H p=some (.dK aj)){x:Int×Rat}(h:EntQ K H kv x):EntQ K (upd H p o) kv x:=let ⟨z1,pz,z2,z3⟩:=h;{z1,pz,z2,SH e z3}
structure TbI(K:tP)(H1:Hp)(d:Addr)(P:Pl)(i:Nat)(ys:List (Key×V))(H2:Hp):Prop where
 s:Same H1 H2
 e:H2 d=some (.dK ys)
 pr:Paired (EntQ K H2) ys (kH (P.take i))
theorem scTab:FnScope ["one"] ["one"] (jI GV):=scK #[2]
theorem XI(F:Fun K "table_of" "table_of" GV f fd)(GP:DG P w K mg base 1 "packed" BW ["powers"] (JG K)):FnOk P w K mg base CX0 2 f fd ["one"] (OL K):=by
 refine F.ok scTab #[9] #[4]
 .obtain⟨p,ad,PP,rfl,_⟩:=h
  rfl
 .obtain⟨p,ad,PP,rfl,hS,ok,go⟩:=h;refine{_,jF (jR (AS (own:=2) (idx:=[]) (N:=["powers","fraction"]) rfl rfl rfl #[2] #[2] #[72] (vG rfl) rfl #[55] (wM (jT jW (pv 0) jB #[11])) (λC fp s2 H2=>show PG (jL _ ["powers","fraction"] _ _ C fp s2 H2) _ #[28]from qK (X:=jL _ ["powers","fraction"] _ _ C fp s2 H2) rfl (jK (jH (i:=0) #[29] rfl #[5] #[38]) (jK (jH (i:=1) #[29] rfl #[5] #[38]) kT))) (λC fp s2 H2=>cal GP hr (jA (pv 0) jD)) (λC fp s2 H2=>pv 1))), ?_};try dsimp only[cxK]
  obtain⟨q,xs,e1,e2,pr⟩:=hS.ex;let lx:xs.length=PP.length:=Paired.length pr;refine{_,rfl,p,_,_,_,rfl,rfl,SqT.of e1,rfl,q,rfl,{_,SqT.of e2},λd H1 n1 s1 e3=>?_};refine NP (K:=K) (a:=q) (xs:=xs) (TbI K H d PP) (by rw[lx];exact gX ok.few #[0]) {s1,e3,(.nil)} (λi ys H2 h=>{SqT.of (h.s _ _ e2),h.e, ?_}) ?_ ?_
  .have:=Paired.length h.pr;unfold kH at this;rw[this,mS,mJ]
   ∎
  .intro i m ys x H2 hx hm h;obtain⟨y,hy,r,b,c,rfl,r1,r2,r3⟩:=Paired.at pr hx;let hm':=gL hy;refine{r,_,rfl,SqT.of (h.s _ _ r1),rfl,_,_,rfl,_,_,rfl,rfl,FK,_,rfl,b,y.1,rfl,SqT.of (h.s _ _ r2),ok.byt hm',by rw[ok.len y hm'];exact ok.m4,_,rfl,.inl (pk y.1),rfl,h.e,IJ hx hm {jV h.s n1,jE, ?_}};let k:=II (k:=pk y.1) h.pr (r3.same h.s);rw[VT hy ok.nd]at k;exact Paired.to (λkv e z=>z.upd h.e) k
  .intro ys H2 h;let pr2:=h.pr;rw[lx,mL]at pr2;exact go d ys H2 n1 h.s h.e pr2
theorem scTa:FnScope ["one","other","table","key","fraction"] ["one","other"] (jI BU):=scK #[2]
theorem IN(h:SqT K H p (([0,1]:List Int).map V.int)):NumK K H (.ref p) 0:={p,rfl,(h)}
structure AddT(T1 T2 T:Tb):Prop where
 nd:#[75].Nodup
 ks:∀k∈T.map (·.1),k∈T1.map (·.1)∨k∈T2.map (·.1)
 ln:T.length<=T1.length+T2.length
 vl:∀k,tv T k=tv T1 k+tv T2 k
theorem uH{T:Tb}{i:Nat}{e:Int×Rat}(h:T[i]? = some e)(nd:#[75].Nodup):e.1∉(T.take i).map (·.1):=λz=>by
 rw[nN]at z;obtain⟨j,hj⟩:=gK.mp z;let hj':j<i:=by
  let:=(uW.mp hj).1;rw[mJ]at this
  ∎
 rw[uZ hj']at hj;let hi:#[75][i]? = some e.1:=by rw[mB,h];rfl
 let:=(List.getElem?_inj (uW.mp hj).1 nd).mp (hj.trans hi.symm)
 ∎
theorem AddT.step{T1 T2 T:Tb}{i:Nat}{e:Int×Rat}(A:AddT T1 (T2.take i) T)(h:T2[i]? = some e)(nd:(T2.map (·.1)).Nodup):AddT T1 (T2.take (i+1)) (xZ T e.1 (tv T e.1+e.2)):=by
 let nt:=uH h nd;let tk:T2.take (i+1)=T2.take i++[(e.1,e.2)]:=by rw[mD,h];rfl
 refine{yO A.nd,λk hk=>?_, ?_,λk=>?_}
 .rw[zT]at hk;rw[tk,mT];split at hk
  .rcases A.ks k hk with z | z
   .exact .inl z
   .exact .inr (List.mem_append_left _ z)
  .rcases mV.mp hk with hk | hk
   .rcases A.ks k hk with z | z
    .exact .inl z
    .exact .inr (List.mem_append_left _ z)
   .exact .inr (gH _ hk)
 .have l1:=congrArg List.length (zT T e.1 (tv T e.1+e.2));rw[mS]at l1;let l2:=A.ln;rw[tk,List.length_append,l1];split
  .rw[mS];∎
  .rw[List.length_append,mS];show T.length+1<=T1.length+((T2.take i).length+1);∎
 .rw[tv_put,tk,LX _ _ _ _ nt];by_cases q:k=e.1
  .rw[tO q,tO q,q,A.vl,xD nt,nV]
  .rw[tN q,tN q,A.vl]
def VA(A:Tb)(e:Int×Rat):Tb:=xZ A e.1 (tv A e.1+e.2)
def ET(T1 T2:Tb):Tb:=T2.foldl VA T1
def JD(K:tP):Sp:=λvs H Q _=>∃(a b:Addr) (k1 k2:List (Key×V)) (T1 T2:Tb),vs=[.ref a,.ref b]/\Rd H a (.dK k1)/\H b=some (.dK k2)/\Paired (EntQ K H) k1 T1/\Paired (EntQ K H) k2 T2/\(T1.map (·.1)).Nodup/\(T2.map (·.1)).Nodup/\T1.length+T2.length<=200000/\(∀k,SzR 7900 (tv T1 k))/\(∀e∈T2,SzR 7900 e.2)/\
 ∀(d:Addr) (aj:List (Key×V)) (T:Tb) (H':Hp),H d=none->But b H H'->H' d=some (.dK aj)->Paired (EntQ K H') aj T->AddT T1 T2 T->T=ET T1 T2->Q (.ref d) H'
inductive TaI(K:tP)(H:Hp)(a b d:Addr)(o:Obj)(k2:List (Key×V))(T1 T2:Tb)(i:Nat):L2.St->Hp->Prop where
 | mk {u v:Option V} {H':Hp} {aj:List (Key×V)} {T:Tb} (s:But b H H') (eb:H' b=some (.frz o (.dK k2))) (ed:H' d=some (.dK aj)) (p1:Paired (EntQ K H') aj T) (p2:Paired (EntQ K H') k2 T2) (A:AddT T1 (T2.take i) T) (ft:T=(T2.take i).foldl VA T1):TaI K H a b d o k2 T1 T2 i [some (.ref a),some (.ref b),some (.ref d),u,v] H'
theorem TQ(F:Fun K "tables_added" "tables_added" BU f fd)(T:Txt mg)(N:Ngt K mg)(GA:DG P w K mg base 2 "added" JL ["one","other"] (MQ K)):FnOk P w K mg base CX0 3 f fd ["one","other"] (JD K):=by
 obtain⟨na,hN,hna⟩:=N;refine F.ok scTa #[9] #[4]
 .obtain⟨a,b,k1,k2,T1,T2,rfl,_⟩:=h
  rfl
 .obtain⟨a,b,k1,k2,T1,T2,rfl,ra,rb,p1,p2,nd1,nd2,ln,s1,s2,go⟩:=h;let hu:_+1<cLine:=gX #[10] hr.units;refine{_,jC (jM (i:=2) scTa.nd rfl #[5] (qL NX (by rfl) T.dct boot_dict (jA (pv 0) jD))) (jC (qC PassesOwn.never rfl (yL (PQ (pv 1))) (qK rfl (jK (jH (i:=3) scTa.nd rfl #[5]) (jK (jH (i:=4) scTa.nd rfl #[5]) kT))) (jF (BZ hu (pv 2) (pv 3) (cal GA hr (jA (DI hu (pv 2) (pv 3) (qD (v:=.ref na) (by rfl) hN rfl) {rfl,rfl,rfl,(rfl)}) (jA (pv 4) jD))) rfl))) (jF (jR (pv 2)))), ?_};try dsimp only[cxK]
  refine{_,rfl,a,k1,rfl,ra,λd H1 n1 e1 ed=>?_};let eb1:=e1 _ _ rb;let db:d≠b:=λz=>by rw[z,rb]at n1;cases n1
  refine{_,rfl,b,k2,rfl,eb1,λo=>{b,o,k2,rfl,jE, ?_}};let up:∀{kv:Key×V} {x:Int×Rat},EntQ K H kv x->EntQ K (upd H1 b (.frz o (.dK k2))) kv x:=λh=>(h.same e1).upd eb1;let b0:But b H (upd H1 b (.frz o (.dK k2))):=λc u h n=>by rw[jG n];exact e1 _ _ h
  refine wD (TaI K H a b d o k2 T1 T2) (.mk (T:=T1) b0 jE (by rw[jG db];exact ed) (Paired.to (λ_ _ h=>up h) p1) (Paired.to (λ_ _ h=>up h) p2) {nd1,λk hk=>.inl hk,Nat.le_add_right ..,λk=>(nV _).symm} rfl) (λi O H2 _ h=>?_) (λi k x p O H2 hx hp h=>?_) (fun O H2 h=>?_)
  .obtain⟨_,eb,_⟩:=h;exact eb
  .obtain⟨s2',eb,ed2,q1,q2,A,ft⟩:=h;rename_i aj TT;obtain⟨e,he,hk,hn⟩:=Paired.at q2 hx;let hk:k=.inl e.1:=hk;subst hk;let s3:Same H2 (upd H2 p (.tup [kV (.inl e.1),x])):=jO _ hp;let e3:(upd H2 p (.tup [kV (.inl e.1),x])) p=some (.tup [kV (.inl e.1),x]):=jE;generalize upd H2 p (.tup [kV (.inl e.1),x])=H3 at s3 e3;refine gT2 (SqT.of e3) rfl ?_;obtain⟨wv,ew,hw⟩:∃wv,(kK aj (.inl e.1:Key)).getD (.ref na)=wv/\NumK K H3 wv (tv TT e.1):=by
    rcases IH (k:=e.1) q1 with⟨v,h1,h2,_⟩ | ⟨h1,h2,_⟩
    .exact{v,by rw[h1];rfl,(h2.same s3).k}
    .exact{.ref na,by rw[h1];rfl,by rw[h2];exact IN (hna H3)}
   refine{_,rfl,d,rfl,.inl {_,.inl (s3 _ _ ed2)},_,rfl,_,DGet.k (k:=.inl e.1) (s3 _ _ ed2),_,rfl, ?_};rw[ew];obtain⟨pw,rfl,hw⟩:=hw;obtain⟨px,rfl,hx2⟩:=hn.same s3;let nt:=uH he nd2;let sz1:SzR 7900 (tv TT e.1):=by rw[A.vl,xD nt,nV];exact s1 _
   refine{pw,px,_,_,_,_,rfl,hw,SqT.of hx2,sz1.fr uP,(s2 e (gL he)).fr uP,λr H4 n4 s4 e4=>?_};let e4:=addAt e4;let ed4:=(s3.trans s4) _ _ ed2;let lk:aj.length=TT.length:=Paired.length q1;let lA:=A.ln;rw[mJ]at lA;refine{_,rfl,_,rfl,d,_,rfl,DPut.k (k:=.inl e.1) ed4 (by rw[lk,sizeLine_eq];∎), ?_};let u4:∀{kv:Key×V} {x:Int×Rat},EntQ K H2 kv x->EntQ K (upd H4 d (.dK (qB aj (.inl e.1) (.ref r)))) kv x:=λh=>(h.same (s3.trans s4)).upd ed4;refine .mk (T:=xZ TT e.1 (tv TT e.1+e.2)) (λc u h n=>?_) ?_ jE ?_ (Paired.to (λ_ _ h=>u4 h) q2) (A.step he nd2) (by rw[mD,he,List.foldl_append,<-ft];rfl)
   .rw[jG (jS h n1)];exact(s3.trans s4) _ _ (s2' _ _ h n)
   .rw[jG (Ne.symm db)];exact(s3.trans s4) _ _ eb
   .exact Paired.to (λ_ _ h=>h.upd ed4) (II (Paired.to (λ_ _ h=>h.same (s3.trans s4)) q1) (NumH.of e4))
  .obtain⟨s2',eb,ed2,q1,q2,A,ft⟩:=h;rw[show k2.length=T2.length from Paired.length p2,mL]at A ft;exact{_,rfl,go d _ _ H2 n1 s2' ed2 q1 A ft}
theorem AN{cl cells:List (Str×Addr)}(h:∀y∈cl,cells.lookup y.1=some y.2):∀x c,cl.lookup x=some c->cells.lookup x=some c:=λx c e=>h (x,c) (PySem.mem_of_lookup e)
theorem two_idx{X:Cx}{scope:Scope}{own j0 j1:Nat}{N:List Str}{x0 x1:Str}(h0:N[own]? = some x0)(h1:N[own+1]? = some x1)(a:X.N[j0]? = some x0/\X.env.kindOf x0=some .cell/\#[12].names.lookup x0=some .cell/\X.env.scope.names.lookup x0=some .cell)
  (b:X.N[j1]? = some x1/\X.env.kindOf x1=some .cell/\#[12].names.lookup x1=some .cell/\X.env.scope.names.lookup x1=some .cell) :
  ∀(k j:Nat) (x:Str),[j0,j1][k]? = some j->N[own+k]? = some x->X.N[j]? = some x/\X.env.kindOf x=some .cell/\#[12].names.lookup x=some .cell/\X.env.scope.names.lookup x=some .cell:=by
 intro k j x e1 e2
 match k,e1,e2 with
 | 0,e1,e2=>
  cases e1;rw[nZ,h0]at e2;cases e2;exact a
 | 1,e1,e2=>
  cases e1;rw[h1]at e2;cases e2;exact b
 | k+2,e1,_=>cases e1
def CW{α:Type}(xs:List α)(Pv:Nat->List V->Hp->Prop)(i m:Nat)(ys:List V)(H:Hp):Prop:=m=xs.length-i/\i<=xs.length/\Pv i ys H
theorem SE{α:Type}{xs:List α}{Pv:Nat->List V->Hp->Prop}{i m:Nat}{x:α}(h:xs[i]? = some x)(hm:m=xs.length-i)(q:Pv (i+1) ys H):∃m',m'<m/\CW xs Pv (i+1) m' ys H:=by
 let:=(uW.mp h).1;exact{_,∎,rfl,this,q}
theorem LP{xs:List V}(Pv:Nat->List V->Hp->Prop)(hz:xs.length<sizeLine)(h0:Pv 0 [] H')
  (hl:∀i ys H2,Pv i ys H2->SqL K H2 a xs/\H2 p=some (.lst ys)/\ys.length<=i)
  (hs:∀i m ys x H2,xs[i]? = some x->m=xs.length-i->Pv i ys H2->g x O0 H2 fun O4 H4=>Keep O0 O4/\tt O4 H4 λb H5=>if b=true then te O4 H5 λy H6=>H6 p=some (.lst ys)/\∃m',m'<m/\CW xs Pv (i+1) m' (ys++[y]) (upd H6 p (.lst (ys++[y])))else ∃m',m'<m/\CW xs Pv (i+1) m' ys H5)
  (hd:∀ys H2,Pv xs.length ys H2->Q (.ref p) H2):CompGoFI O0 (Itl K a) g tt te Q p H':=by
 refine{CW xs Pv,{_,rfl,tF _,h0}, ?_};rintro i m ys H2 ⟨hm,hi,hp⟩;obtain⟨q,e,hy⟩:=hl i ys H2 hp;refine{e,∎, ?_};by_cases hlt:i<xs.length
 .refine .inr {{xs,xs[i],q,by simp [hlt]}, ?_};rintro x H3 ⟨rfl,y⟩;exact hs i m ys x _ (y xs q) hm hp
 .obtain rfl:i=xs.length:=∎
  exact .inl {{xs,q,tE _},hd ys H2 hp}
def vX(P:Pl):Int:=(P.map λx=>x.1.sum).foldr max 0
theorem wE:∀{l:List Int} {m:Int},(∀x∈l,x<=m)->0<=m->l.foldr max 0<=m
 | [],_,_,h=>h
 | a::l,m,h,h0=>by
  show max a (l.foldr max 0)<=m;let:=wE (l:=l) (λx hx=>h x (gM _ hx)) h0;let:=h a (hU ..)
  ∎
theorem yS:∀{l:List Int} {x:Int},x∈l->x<=l.foldr max 0
 | a::l,x,h=>by
  show x<=max a (l.foldr max 0);rcases nI.mp h with rfl | h
  .lia
  .have:=yS h
   ∎
theorem ZY{P:Pl}{m:Int}(h1:m∈P.map λx=>x.1.sum)(h2:∀y∈P.map (λx=>x.1.sum),y<=m)(h0:0<=m):m=vX P:=Int.le_antisymm (yS h1) (wE h2 h0)
theorem AX{P:Pl}{D:Int}(h:∀x∈P,x.1.sum<=D)(h0:0<=D):vX P<=D:=wE (λy hy=>by obtain⟨x,hx,rfl⟩:=nT.mp hy;exact h x hx) h0
structure PlD(ad D:Nat)(P:Pl):Prop where
 len:∀x∈P,x.1.length=ad
 nn:∀x∈P,∀n∈x.1,0<=n
 deg:∀x∈P,x.1.sum<=D
theorem PlOk.pd{ad:Nat}{P:Pl}(h:PlOk ad P):PlD ad 16 P:={h.len,h.nn,(h.deg)}
def MP(K:tP):Sp:=λvs H Q _=>∃(p:Addr) (ad D:Nat) (P:Pl),vs=[.ref p]/\SumQ K H p ad P/\PlD ad D P/\ad<=4/\D<=1000/\P.length<=1000/\∀H',Same H H'->Q (.int (vX P)) H'
theorem WG:FnScope ["one"] ["one"] (jI wY):=scK #[2]
theorem TW(F:Fun K "degree" "degree" wY f fd)(T:Txt mg):FnOk P w K mg base CX0 1 f fd ["one"] (MP K):=by
 refine F.ok WG #[9] #[4]
 .obtain⟨p,ad,D,PP,rfl,_⟩:=h
  rfl
 .obtain⟨p,ad,D,PP,rfl,hP,ok,m4,hD,lP,go⟩:=h;refine{_,jF (jR (LwMx.pe_maxD rfl (by rfl) T.max (jA (xV (own:=2) (idx:=[]) (N:=["powers","fraction"]) rfl rfl rfl #[2] #[2] #[72] (vG rfl) rfl #[55] (wM (jT jW (pv 0) jB #[11])) (λC fp s2 H2=>show PG (jL _ ["powers","fraction"] _ _ C fp s2 H2) _ #[28]from qK (X:=jL _ ["powers","fraction"] _ _ C fp s2 H2) rfl (jK (jH (i:=0) #[29] rfl #[5] #[38]) (jK (jH (i:=1) #[29] rfl #[5] #[38]) kT))) (λC fp s2 H2=>kL (show CallR (jL _ ["powers","fraction"] _ _ C fp s2 H2) (.builtin "sum") (WM K)from FS rfl) (by rfl) T.sum boot_sum (jA (pv 0) jD))) jD) (wC jB WU))), ?_};obtain⟨q,xs,e1,e2,pr⟩:=hP.ex;let lx:xs.length=PP.length:=Paired.length pr;refine{_,rfl,p,_,_,_,rfl,rfl,SqT.of e1,rfl,q,rfl,{xs,SqT.of e2},λl H1 n1 s1 e3=>?_};refine US (K:=K) (a:=q) (xs:=xs) (CmI (λk=>(PP.take k).map λx=>V.int x.1.sum) l H) (by rw[lx];exact gX lP #[0]) {s1,e3,(rfl)} (λi ys H2 h=>{SqT.of (h.s _ _ e2),h.e}) ?_ ?_
  .rintro i m ys x H2 hx hm hy ⟨s2,e4,ey⟩;obtain⟨x',hx',r,b,c,rfl,r1,r2,r3⟩:=Paired.at pr hx;let xm:=gL hx';refine{r,_,rfl,SqT.of (s2 _ _ r1),rfl,_,_,rfl,_,_,rfl,rfl,FK, ?_};refine{_,rfl,b,x'.1,rfl,SqT.of (s2 _ _ r2),λn hn=>{ok.nn x' xm n hn, ?_},by rw[ok.len x' xm];∎, ?_}
   .have:=(vR (ok.nn x' xm) hn).1;let:=ok.deg x' xm
    ∎
   .refine qM hx hm hy e4 {jV s2 n1,jE, ?_};rw[ey,mD,hx',mT]
    rfl
  .rintro ys H2 hl ⟨s2,e4,ey⟩;rw[lx,mL]at ey;let hm:ys=(PP.map λx=>x.1.sum).map V.int:=by rw[ey,nX];rfl
   refine{0,rfl,l,PP.map (λx=>x.1.sum),rfl,by rw[<-hm];exact e4,λz=>?_,λm h1 h2=>?_}
   .have:PP=[]:=List.map_eq_nil_iff.mp z;let:=go H2 s2;rw[‹PP=[]›]at this;exact this
   .have h0:0<=m:=by
     obtain⟨x,hx,rfl⟩:=nT.mp h1
     match hh:x.1 with
     | []=>exact tJ _
     | n::r=>rw[<-hh];exact(vR (n:=n) (ok.nn x hx) (by rw[hh];exact hU ..)).2
    rw[ZY h1 h2 h0];exact go H2 s2
def unp:Nat->Int->List Int
 | 0,_=>[]
 | n+1,k=>unp n (k/256)++[k%256]
theorem VH:∀(n:Nat) {ns:List Int},ns.length=n->Byt ns->unp n (pk ns)=ns
 | 0,ns,hl,_=>(List.length_eq_zero_iff.mp hl).symm
 | n+1,ns,hl,h=>by
  obtain⟨m,y,rfl,hm⟩:=yB hl;obtain⟨h1,h2⟩:=AI h;let p:=CB (ns:=m) h2;show unp n (pk (m++[y])/256)++[pk (m++[y])%256]=_;rw[p.1,p.2,VH n hm h1]
def KyP(ad:Nat)(k:Int):Prop:=∃ns:List Int,ns.length=ad/\(∀n∈ns,0<=n)/\ns.sum<=16/\k=pk ns
theorem yA{ns:List Int}(h:∀n∈ns,0<=n)(h2:ns.sum<=16):Byt ns:=λn hn=>by
 let h3:=(vR h hn).1;let h4:=h n hn
 ∎
structure SumT(ad:Nat)(T:Tb)(P:Pl):Prop where
 ok:PlOk ad P
 vl:∀ns:List Int,ns.length=ad->Byt ns->cf P ns=tv T (pk ns)
 at':∀x∈P,x.2=tv T (pk x.1)
def nzb(T:Tb)(k:Int):Bool:=decide (tv T k≠0)
def AH(T:Tb):Nat:=(#[75].filter (nzb T)).length
theorem cnt_eq{T S:Tb}(h1:#[75].Nodup)(h2:(S.map (·.1)).Nodup)(h:∀k,tv T k=tv S k):AH T=AH S:=by
 let e:nzb T=nzb S:=by funext k;unfold nzb;rw[h]
 let mem:∀(A:Tb) k,k∈#[76].filter (nzb A)↔tv A k≠0:=λA k=>by
  rw[List.mem_filter];refine{λz=>mG z.2,λz=>{uV λy=>z (xD y),mW z}}
 refine((List.perm_ext_iff_of_nodup (h1.filter _) (h2.filter _)).mpr λk=>?_).length_eq;rw[mem,mem,h]
theorem VL(f:Int->Rat):∀(ks:List Int) (j:Int),tv (ks.map λk=>(k,f k)) j=if j∈ks then f j else 0
 | [],j=>by rw[tN #[14]];rfl
 | k::ks,j=>by
  rw[nH,kY,VL f ks j];by_cases h:k=j
  .rw[tO h,tO (by simp [h]),h]
  .rw[tN h];by_cases q:j∈ks
   .rw[tO q,tO (gM _ q)]
   .rw[tN q,tN (λz=>by rcases nI.mp z with z | z;exact h z.symm;exact q z)]
def wV(ad:Nat)(T:Tb)(ns:List Int):Pl:=(ns.filter (nzb T)).map λk=>(unp ad k,tv T k)
theorem KyP.unp{ad:Nat}{k:Int}(h:KyP ad k):(Lw.unp ad k).length=ad/\(∀n∈Lw.unp ad k,0<=n)/\(Lw.unp ad k).sum<=16/\pk (Lw.unp ad k)=k:=by
 obtain⟨ns,h1,h2,h3,rfl⟩:=h;rw[VH ad h1 (yA h2 h3)];exact{h1,h2,h3,(rfl)}
theorem sumT_of{ad:Nat}{T:Tb}{ns:List Int}(cn:AH T<=500)(ky:∀k∈T.map (·.1),KyP ad k)(m1:1<=ad)(m4:ad<=4)(pm:ns.Perm #[75])(lt:ns.Pairwise (· < ·)):SumT ad T (wV ad T ns):=by
 let kk:∀k∈ns.filter (nzb T),KyP ad k/\tv T k≠0:=λk hk=>by
  rw[List.mem_filter]at hk;exact{ky k (pm.mem_iff.mp hk.1),mG hk.2}
 let mm:∀x∈wV ad T ns,∃k∈ns.filter (nzb T),x=(Lw.unp ad k,tv T k):=λx hx=>by
  obtain⟨k,hk,e⟩:=nT.mp hx;exact{k,hk,(e.symm)}
 let pks:((wV ad T ns).map λx=>pk x.1)=ns.filter (nzb T):=by
  unfold wV;rw[nX]
  conv=>rhs;rw[<-List.map_id (ns.filter (nzb T))]
  exact List.map_congr_left λk hk=>(kk k hk).1.unp.2.2.2
 let ok:PlOk ad (wV ad T ns):=by
  refine{λx hx=>?_,λx hx=>?_,λx hx=>?_, ?_,λx hx=>?_, ?_,m1,m4}
  .obtain⟨k,hk,rfl⟩:=mm x hx;exact(kk k hk).1.unp.1
  .obtain⟨k,hk,rfl⟩:=mm x hx;exact(kk k hk).1.unp.2.1
  .obtain⟨k,hk,rfl⟩:=mm x hx;exact(kk k hk).1.unp.2.2.1
  .rw[pks];exact lt.filter _
  .obtain⟨k,hk,rfl⟩:=mm x hx;exact(kk k hk).2
  .unfold wV;rw[mS,(pm.filter (nzb T)).length_eq];exact cn
 refine{ok,λms hl hb=>?_,λx hx=>?_}
 .rw[<-ok.tv hl hb];let e:kH (wV ad T ns)=(ns.filter (nzb T)).map λk=>(k,tv T k):=by
   unfold kH wV;rw[nX];refine List.map_congr_left λk hk=>?_;show(pk (Lw.unp ad k),tv T k)=(k,tv T k);rw[(kk k hk).1.unp.2.2.2]
  rw[e,VL];by_cases q:pk ms∈ns.filter (nzb T)
  .rw[tO q]
  .rw[tN q];by_cases r:pk ms∈T.map (·.1)
   .refine uV λz=>q (List.mem_filter.mpr {pm.mem_iff.mpr r,mW λy=>z y.symm})
   .exact(xD r).symm
 .obtain⟨k,hk,rfl⟩:=mm x hx;show tv T k=tv T (pk (Lw.unp ad k));rw[(kk k hk).1.unp.2.2.2]
theorem LF :∀{aj:List (Key×V)} {T:Tb},Paired (EntQ K H) aj T->jN aj=T.map (·.1)/\∀p∈aj,∃i:Int,p.1=.inl i
 | _,_,.nil=>{rfl,λ_ h=>nomatch h}
 | kv::aj,e::T,.cons h t=>by
  obtain⟨h1,h2⟩:=LF t;refine{?_,λp hp=>?_}
  .show(match kv.1 with | .inl i=>i | .inr _=>0)::jN aj=e.1::T.map (·.1);rw[h1,h.1]
  .rcases nI.mp hp with rfl | hp
   .exact{_,h.1}
   .exact h2 p hp
theorem HP(h:Rd H d o)(s:Same H H'):Rd H' d o:=by
 rcases h with h | ⟨u,h⟩
 .exact .inl (s _ _ h)
 .exact .inr {u,s _ _ h}
theorem TZ(x:Rat):LwT.lexNe [x.num,(x.den:Int)] [0,1]=decide (x≠0):=by
 rw[show LwT.lexNe [x.num,(x.den:Int)] [0,1] = !decide ([x.num,(x.den:Int)]=[0,1])from LwT.lexNe_eq _ _];by_cases h:x=0
 .subst h
  decide
 .rw[mW h,mU (λz=>h ?_)]
  .rfl
  .have z1:x.num=0:=by injection z
   exact Rat.num_eq_zero.mp z1
structure KyI(H1:Hp)(q:Addr)(T:Tb)(ns:List Int)(i:Nat)(ys:List V)(H2:Hp):Prop where
 s:Same H1 H2
 e:H2 q=some (.lst ys)
 y:ys=((ns.take i).filter (nzb T)).map V.int
structure TuI(K:tP)(H1:Hp)(q:Addr)(P:Pl)(i:Nat)(ys:List V)(H2:Hp):Prop where
 s:Same H1 H2
 e:H2 q=some (.lst ys)
 pr:Paired (TmQ K H2) ys (P.take i)
theorem TmQ.updL(e:H p=some (.lst xs)){x:List Int×Rat}(h:TmQ K H v x):TmQ K (upd H p (.lst ys)) v x:=by
 obtain⟨r,b,c,e1,e2,e3,pc,e4,e5⟩:=h;let nu:∀{a:Addr} {zs:List V},H a=some (.tup zs)->(upd H p (.lst ys)) a=some (.tup zs):=fun {a zs} h=>by
  rw[jG λz=>by rw[z,e]at h;cases h];exact h
 exact{r,b,c,e1,nu e2,nu e3,pc,e4,nu e5}
theorem BN{e:Int×Rat}{T:Tb} :tv (e::T) e.1=e.2:=by rw[kY,tO rfl]
theorem VM{k:Int}(h:∀e∈T,k<e.1):tv T k=0:=xD λz=>by
 obtain⟨e,he,rfl⟩:=nT.mp z;exact Int.lt_irrefl _ (h e he)
theorem OF:∀{T S:Tb},#[75].Pairwise (· < ·)->(S.map (·.1)).Pairwise (· < ·)->(∀e∈T,e.2≠0)->(∀e∈S,e.2≠0)->(∀k,k∈T.map (·.1)∨k∈S.map (·.1)->tv T k=tv S k)->T=S
 | [],[],_,_,_,_,_=>rfl
 | [],e::S,_,_,_,hs,h=>by
  let:=h e.1 (.inr #[14]);rw[BN]at this;exact absurd this.symm (hs e (hU ..))
 | e::T,[],_,_,ht,_,h=>by
  let:=h e.1 (.inl #[14]);rw[BN]at this;exact absurd this (ht e (hU ..))
 | e::T,c::S,h1,h2,ht,hs,h=>by
  rw[nH,List.pairwise_cons]at h1 h2;let lt1:∀x∈T,e.1<x.1:=λx hx=>h1.1 _ (List.mem_map_of_mem hx);let lt2:∀x∈S,c.1<x.1:=λx hx=>h2.1 _ (List.mem_map_of_mem hx);let he:=h e.1 (.inl #[14]);let hc:=h c.1 (.inr #[14]);rw[BN]at he hc;let ec:e.1=c.1:=by
   refine uV λn=>?_;rcases Int.lt_or_lt_of_ne n with l | l
   .rw[kY,tN (Ne.symm n),VM (λx hx=>Int.lt_trans l (lt2 x hx))]at he;exact ht e (hU ..) he
   .rw[kY,tN n,VM (λx hx=>Int.lt_trans l (lt1 x hx))]at hc;exact hs c (hU ..) hc.symm
  let e2:e.2=c.2:=by rw[he,ec,BN]
  let tl:T=S:=by
   refine OF h1.2 h2.2 (λx hx=>ht x (gM _ hx)) (λx hx=>hs x (gM _ hx)) λk hk=>?_;let nk:e.1≠k:=λz=>by
    rcases hk with hk | hk
    .obtain⟨x,hx,rfl⟩:=nT.mp hk;exact absurd (lt1 x hx) ∎
    .obtain⟨x,hx,rfl⟩:=nT.mp hk;let:=lt2 x hx
     ∎
   let:=h k (hk.elim (λz=>.inl (gM _ z)) (λz=>.inr (gM _ z)));rw[kY,tN nk,kY,tN (by rw[<-ec];exact nk)]at this;exact this
  rw[tl,show e=c from Prod.ext ec e2]
theorem pl_uniq{ad:Nat}{P S:Pl}(h1:PlOk ad P)(h2:PlOk ad S)(h:∀ns:List Int,ns.length=ad->Byt ns->cf P ns=cf S ns):P=S:=by
 let t:kH P=kH S:=by
  refine OF (by rw[qU];exact h1.ord) (by rw[qU];exact h2.ord) (λe he=>?_) (λe he=>?_) λk hk=>?_
  .obtain⟨x,hx,rfl⟩:=nT.mp he;exact h1.nz x hx
  .obtain⟨x,hx,rfl⟩:=nT.mp he;exact h2.nz x hx
  .rw[qU,qU]at hk;rcases hk with hk | hk
   .obtain⟨x,hx,rfl⟩:=nT.mp hk;rw[h1.tv (h1.len x hx) (h1.byt hx),h2.tv (h1.len x hx) (h1.byt hx),h _ (h1.len x hx) (h1.byt hx)]
   .obtain⟨x,hx,rfl⟩:=nT.mp hk;rw[h1.tv (h2.len x hx) (h2.byt hx),h2.tv (h2.len x hx) (h2.byt hx),h _ (h2.len x hx) (h2.byt hx)]
 let l:P.length=S.length:=by let:=congrArg List.length t;unfold kH at this;rwa [mS,mS]at this
 refine List.ext_getElem? λi=>?_;let g:(kH P)[i]? = (kH S)[i]? :=by rw[t]
 unfold kH at g;rw[mB,mB]at g;cases a:P[i]? with
 | none=>rw[a]at g;cases b:S[i]? with | none=>rfl | some y=>rw[b]at g;cases g
 | some x=>
  rw[a]at g;cases b:S[i]? with
  | none=>rw[b]at g;cases g
  | some y=>
   rw[b]at g;let g:(pk x.1,x.2)=(pk y.1,y.2):=Option.some.inj g;let g1:pk x.1=pk y.1:=(Prod.mk.inj g).1;let g2:x.2=y.2:=(Prod.mk.inj g).2;let xm:=gL a;let ym:=gL b;rw[show x=y from Prod.ext (AR ad (h1.len x xm) (h2.len y ym) (h1.byt xm) (h2.byt ym) g1) g2]
theorem GK(P:Pl):(kH P).length=P.length:=by unfold kH;rw[mS]
theorem sz_zero(n:Nat):SzR (n+1) 0:={Nat.two_pow_pos _,by show 1<2^(n+1);exact Nat.one_lt_two_pow ∎}
theorem tv_in:∀{T:Tb} {k:Int},tv T k=0∨∃e∈T,e.2=tv T k
 | [],_=>.inl rfl
 | e::T,k=>by
  rw[kY];by_cases h:e.1=k
  .rw[tO h];exact .inr {e,hU ..,rfl}
  .rw[tN h];rcases tv_in (T:=T) (k:=k)with z | ⟨c,hc,z⟩
   .exact .inl z
   .exact .inr {c,gM _ hc,z}
end Lw
namespace Lw
open PySem PySem.Spec PyProof.Rows L2 LwQ
def lvS(b:Int)(r:Rat):Int:=b*yR (r.den:Int) b
def lvD(rs:List Rat):Int:=rs.foldl lvS 1
theorem QL{b:Int}(hb:0<b)(r:Rat):0<lvS b r:=by
 unfold lvS;rw[vK hb];let g:=LwM.vF (r.den:Int) b hb;let d:=r.den_pos;let:0<(r.den:Int)/(Int.gcd (r.den:Int) b:Int):=by
  let h1:(Int.gcd (r.den:Int) b:Int)∣(r.den:Int):=mP ..;obtain⟨k,hk⟩:=h1;generalize (Int.gcd (r.den:Int) b:Int)=G at *;rw[hk,Int.mul_ediv_cancel_left _ ∎];by_cases z:0<k
  .exact z
  .have:G*k<=0:=Int.mul_nonpos_of_nonneg_of_nonpos ∎ ∎
   ∎
 exact tG hb this
theorem lvS_dvd{b:Int}(hb:0<b)(r:Rat):b∣lvS b r/\(r.den:Int)∣lvS b r:=by
 unfold lvS;refine{Int.dvd_mul_right .., ?_};rw[vK hb];let g:=LwM.vF (r.den:Int) b hb;obtain⟨k,hk⟩:(Int.gcd (r.den:Int) b:Int)∣(r.den:Int):=mP ..;obtain⟨m,hm⟩:(Int.gcd (r.den:Int) b:Int)∣b:=mI ..;generalize (Int.gcd (r.den:Int) b:Int)=G at *;refine{m, ?_};let:(r.den:Int)/G=k:=by rw[hk,Int.mul_ediv_cancel_left _ ∎]
 rw[this,hk]
 conv=>lhs;rw[hm]
 grind
theorem lvF:∀(rs:List Rat) (b:Int),0<b->0<rs.foldl lvS b/\b∣rs.foldl lvS b/\∀r∈rs,(r.den:Int)∣rs.foldl lvS b
 | [],b,h=>{h,Int.dvd_refl _,λ_ z=>nomatch z}
 | r::rs,b,h=>by
  obtain⟨h1,h2,h3⟩:=lvF rs (lvS b r) (QL h r);let d:=lvS_dvd h r;refine{h1,Int.dvd_trans d.1 h2,λq hq=>?_};rcases nI.mp hq with rfl | hq
  .exact Int.dvd_trans d.2 h2
  .exact h3 q hq
theorem IA(rs:List Rat):0<lvD rs:=(lvF rs 1 #[0]).1
theorem lvD_dvd{rs:List Rat}{r:Rat}(h:r∈rs):(r.den:Int)∣lvD rs:=(lvF rs 1 #[0]).2.2 r h
theorem lvS_of{b D:Int}(hb:0<b){r:Rat}(h:b∣D)(k:(r.den:Int)∣D):lvS b r∣D:=by
 unfold lvS;rw[vK hb];let g:=LwM.vF (r.den:Int) b hb;let lg:=QN (n:=(r.den:Int)) hb;rw[vK hb,xW hb]at lg;obtain⟨y,hy⟩:(Int.gcd (r.den:Int) b:Int)∣(r.den:Int):=mP ..;obtain⟨m,hm⟩:(Int.gcd (r.den:Int) b:Int)∣b:=mI ..;generalize (Int.gcd (r.den:Int) b:Int)=G at *;let e1:(r.den:Int)/G=y:=by rw[hy,Int.mul_ediv_cancel_left _ ∎]
 let e2:b/G=m:=by rw[hm,Int.mul_ediv_cancel_left _ ∎]
 rw[e1,e2]at lg;rw[e1];obtain⟨x,hx⟩:=h;obtain⟨z,hz⟩:=k;let:y∣m*x:=⟨z,by
  let:G*(m*x)=G*(y*z):=by rw[<-Int.mul_assoc,<-hm,<-hx,hz,hy,Int.mul_assoc]
  exact Int.eq_of_mul_eq_mul_left ∎ this⟩
 let:y∣x:=CN (by rw[Int.gcd_comm];exact lg) this;obtain⟨q,hq⟩:=this;exact{q,by rw[hx,hq,Int.mul_assoc]}
theorem YA{D:Int} :∀(rs:List Rat) (b:Int),0<b->b∣D->(∀r∈rs,(r.den:Int)∣D)->rs.foldl lvS b∣D
 | [],_,_,h,_=>h
 | r::rs,b,h0,h,k=>YA rs (lvS b r) (QL h0 r) (lvS_of h0 h (k r (hU ..))) λq hq=>k q (gM _ hq)
theorem lvD_of{D:Int}{rs:List Rat}(k:∀r∈rs,(r.den:Int)∣D):lvD rs∣D:=YA rs 1 #[0] {D,∎} k
theorem AB{a D:Int}(h:a∣D)(h0:0<D):a.natAbs<=D.natAbs:=Nat.le_of_dvd ∎ (Int.natAbs_dvd_natAbs.mpr h)
theorem YB(rs:List Rat)(r:Rat):lvD (rs++[r])=lvS (lvD rs) r:=by
 unfold lvD;rw[List.foldl_append]
 rfl
theorem XZ{rs:List Rat}{r:Rat}(h:r∈rs):((r.num*(lvD rs/(r.den:Int)):Int):Rat)=r*(lvD rs:Rat):=by
 obtain⟨k,hk⟩:=lvD_dvd h;let d:=r.den_pos;rw[hk,Int.mul_ediv_cancel_left _ ∎,Rat.intCast_mul,Rat.intCast_mul];let h1:=yJ r;unfold fv at h1;let h2:((r.den:Int):Rat)≠0:=cne ∎;generalize ((r.den:Int):Rat)=D at *;generalize (r.num:Rat)=N at *;rw[<-h1]
 grind
theorem ZK{t:Int}{n:Nat}(h:t.natAbs<2^n)(hn:0<n):FrOk n t 1:=⟨by decide,by simp,h,by
 show 1<2^n;exact Nat.one_lt_two_pow ∎⟩
open LwV
theorem keep3 :Keep (none::none::none::r) (x::y::z::r):=λi v h=>by
 match i,h with
 | i+3,h=>exact h
def EntR(C:Int)(H:Hp)(kv:Key×V)(e:Int×Rat):Prop:=kv.1=.inl e.1/\∃c,kv.2=.ref c/\H c=some (.tup [.int (e.2.num*(C/(e.2.den:Int))),.int C])
theorem EntQ.but{K:tP}{H H':Hp}{p:Addr}{aj:List (Key×V)}{kv:Key×V}{x:Int×Rat}(h:EntQ K H kv x)(e:Rd H p (.dK aj))(b:But p H H'):EntQ K H' kv x:=let ⟨z1,pz,z2,z3⟩:=h;{z1,pz,z2,b _ _ z3 λy=>by rcases e with e | ⟨o,e⟩<;>rw[<-y,z3]at e<;>cases e}
theorem EntR.same{C:Int}{e:Int×Rat}(h:EntR C H kv e)(s:Same H H'):EntR C H' kv e:=let ⟨h1,c,h2,h3⟩:=h;{h1,c,h2,s _ _ h3}
theorem EntR.upd{C:Int}(e:H p=some (.dK aj)){x:Int×Rat}(h:EntR C H kv x):EntR C (upd H p o) kv x:=let ⟨h1,c,h2,h3⟩:=h;{h1,c,h2,by rw[jG λz=>by rw[z,e]at h3;cases h3];exact h3}
theorem JP{l:List (Key×V)}{k:Key}{v:V}(h:∀p∈l,p.1≠k):qB l k v=l++[(k,v)]:=by
 unfold qB;rw[tN];intro z;obtain⟨p,hp,e⟩:=List.any_eq_true.mp z;exact h p hp (mG e)
def kR(T:Tb):Int:=lvD (T.map (·.2))
def spLev(K:tP):Sp:=λvs H Q _=>∃(a:Addr) (aj:List (Key×V)) (T:Tb) (D:Int),vs=[.ref a]/\Rd H a (.dK aj)/\Paired (EntQ K H) aj T/\#[75].Nodup/\T.length<=100000/\0<D/\D.natAbs<2^1400/\(∀e∈T,(e.2.den:Int)∣D)/\(∀e∈T,e.2.num.natAbs<2^3000)/\
 ∀(d:Addr) (ks:List (Key×V)) (H':Hp),H d=none->But a H H'->(∃o,H' a=some (.frz o (.dK aj)))->H' d=some (.dK ks)->Paired (EntR (kR T) H') ks T->Q (.ref d) H'
inductive LvI(H:Hp)(a:Addr)(T:Tb)(i:Nat):L2.St->Hp->Prop where
 | mk {u v:Option V} {H':Hp} (s:Same H H'):LvI H a T i [some (.ref a),some (.int (kR (T.take i))),u,v] H'
structure LvC(C:Int)(H1:Hp)(d:Addr)(T:Tb)(i:Nat)(ys:List (Key×V))(H2:Hp):Prop where
 s:Same H1 H2
 e:H2 d=some (.dK ys)
 pr:Paired (EntR C H2) ys (T.take i)
theorem NS{D:Int}(h:∀e∈T,(e.2.den:Int)∣D):kR T∣D:=lvD_of λr hr=>by obtain⟨e,he,rfl⟩:=nT.mp hr;exact h e he
variable{P:Program}{w:World}{K:tP}{mg:Str->Option Value}{base:Heap}{f fd:_}
theorem scLv:FnScope ["table","common","top","bottom"] ["table"] (jI OU):=scK #[2]
theorem ok_lev(F:Fun K "levelled" "levelled" OU f fd)(T:Txt mg)(GD:DG P w K mg base 3 "divided" WI ["one","other"] (MO K)):FnOk P w K mg base CX0 4 f fd ["table"] (spLev K):=by
 obtain⟨ts,hS⟩:=T.short;refine F.ok scLv #[9] #[4]
 .obtain⟨a,aj,TT,D,rfl,_⟩:=h
  rfl
 .obtain⟨a,aj,TT,D,rfl,ha,pr,nd,lT,D0,D1,dv,nb,go⟩:=h;refine{_,jC (jM (i:=1) scLv.nd rfl #[38] jB) (jC (qC PassesOwn.never rfl (pi_vals (CC (pv 0))) (qK rfl (jK (jH (i:=2) scLv.nd rfl #[5]) (jK (jH (i:=3) scLv.nd rfl #[5]) kT))) (jC (jM (i:=1) scLv.nd rfl #[38] (jJ qE (pv 1) (jT jW (cal GD hr (jA (kN (jA (pv 3) #[73])) (jA (kN (jA (pv 1) #[73])) jD))) jB #[11]))) (jF (qJ (jX wJ (WZ PySem.F.plainAttrs_int slot_int_bit_length type_int_bit_length QH (pv 1)) (qD (v:=.int 1500) (by rfl) hS {_,rfl}) (kM _)) (jF (uA)) jY)))) (jF (jR (AS (own:=3) (idx:=[1]) (N:=["key","top","bottom","common"]) rfl rfl rfl #[2] #[2] #[26] (vG rfl) rfl (CD rfl {rfl,rfl,rfl,(rfl)}) (yL (pv 0)) (λC fp s2 H2=>show PG (jL _ ["key","top","bottom","common"] _ _ C fp s2 H2) _ (EC K 2 (vM (jP 0) (vM (EC K 2 (vM (jP 1) (vM (jP 2) gNil))) gNil)))from qK (X:=jL _ ["key","top","bottom","common"] _ _ C fp s2 H2) rfl (jK (jH (i:=0) #[56] rfl #[5] #[38]) (jK (qK (X:=jL _ ["key","top","bottom","common"] _ _ C fp s2 H2) rfl (jK (jH (i:=1) #[56] rfl #[5] #[38]) (jK (jH (i:=2) #[56] rfl #[5] #[38]) kT))) kT))) (λC fp s2 H2=>pv 0) (λC fp s2 H2=>kN (jA (jJ qE (pv 1) (jJ LwD.uG (pv 3) (pv 2))) (jA (pv 3) jD))))))), ?_}
  try dsimp only[cxK]
  let lk:aj.length=TT.length:=Paired.length pr;refine{_,rfl,a,aj,rfl,ha,λo H1 e1 b1 fr1=>{a,o,aj,rfl,e1, ?_}};let p1:Paired (EntQ K H1) aj TT:=Paired.to (λ_ _ h=>h.but ha b1) pr;let cD:∀i,(kR (TT.take i)).natAbs<2^1400/\0<kR (TT.take i):=λi=>{gX (AB (NS λe he=>dv e (gT he)) D0) D1,IA _};refine ZN (LvI H1 a TT) (.mk #[43]) (λi O H2 _ h=>?_) (λi k x O H2 hx h=>?_) (fun O H2 h=>?_)
  .obtain⟨s2⟩:=h;exact s2 _ _ e1
  .obtain⟨s2⟩:=h;obtain⟨e,he,_,px,rfl,sx⟩:=Paired.at p1 hx;let em:=gL he;let ci:=cD i;let dn:((e.2.den:Int)).natAbs<2^1400:=gX (AB (dv e em) D0) D1;let dp:=e.2.den_pos;refine gT2 (SqT.of (s2 _ _ sx)) rfl ?_;refine{_,rfl,_,rfl,uR,λz1 H3 n3 s3 e3=>{_,rfl,uR,λy1 H4 n4 s4 e4=>?_}};refine{z1,y1,(e.2.den:Int),1,kR (TT.take i),1,rfl,SqT.of (s4 _ _ e3),SqT.of e4,ZK (jQ dn #[0]) #[0],ZK (jQ ci.1 #[0]) #[0],by let:=ci.2;∎,λq5 H5 n5 s5 e5=>?_};rw[Int.mul_one,Int.one_mul]at e5;let lt:=lowT_le (n:=(e.2.den:Int)) ci.2;refine{q5,_,_,_,rfl,rfl,SqT.of e5,rfl,_,_,rfl,rfl,{jQ ci.1 #[0],gX lt (jQ dn #[0])}, ?_};let cs:kR (TT.take i)*yR (e.2.den:Int) (kR (TT.take i))=kR (TT.take (i+1)):=by
    unfold kR;rw[mD,he,mT];exact(YB _ _).symm
   dsimp only[jP];rw[cs];let cn:=cD (i+1);let hb:(Builtin.Int.intBits (kR (TT.take (i+1))))<=1400:=PySem.intBits_le_iff.mpr cn.1;refine{_,rfl,rfl,_,rfl,rfl,_,_,rfl,rfl,_,rfl,yT (mU ∎) ?_};exact .mk (s2.trans (s3.trans (s4.trans s5)))
  .obtain⟨s2⟩:=h;rw[lk,mL];let cf':=cD TT.length;rw[mL]at cf';refine{_,rfl,a,o,aj,rfl,s2 _ _ e1,λd H3 n3 s3 e3=>?_};refine AF (LvC (kR TT) H2 d TT) (by rw[lk,sizeLine_eq];∎) {s3,e3,(.nil)} (λi ys H4 h=>{(s2.trans h.s) _ _ e1,h.e, ?_}) ?_ ?_
   .have:=Paired.length h.pr;rw[this,mJ]
    ∎
   .intro i m ys k x c H4 hx hm h hc;obtain⟨e,he,hk,px,rfl,sx⟩:=Paired.at p1 hx;let hk:k=.inl e.1:=hk;subst hk;let em:=gL he;let s5:Same H4 (upd H4 c (.tup [kV (.inl e.1),.ref px])):=jO _ hc;let e5:(upd H4 c (.tup [kV (.inl e.1),.ref px])) c=some (.tup [kV (.inl e.1),.ref px]):=jE;generalize upd H4 c (.tup [kV (.inl e.1),.ref px])=H5 at s5 e5;let dn:((e.2.den:Int)).natAbs<2^1400:=gX (AB (dv e em) D0) D1;let dp:=e.2.den_pos;let qb:(kR TT/(e.2.den:Int)).natAbs<2^1400:=gX (LwM.uO _ _ ∎) cf'.1;refine{c,_,rfl,SqT.of e5,rfl,_,_,rfl,_,_,rfl,px,_,rfl,SqT.of ((s2.trans (h.s.trans s5)) _ _ sx),rfl,_,_,rfl,_,_,rfl,rfl,rfl,keep3,_,rfl,_,rfl,_,rfl,_,rfl,_,_,rfl,rfl,LwD.zH (m:=1400) ∎ #[0] cf'.1,_,_,rfl,rfl,{jQ (nb e em) #[0],jQ qb #[0]},_,rfl,uR,λt H6 n6 s6 e6=>?_};let ed6:=(s5.trans s6) _ _ h.e;refine{.inl e.1,rfl,ed6,IJ hx hm {jV (h.s.trans (s5.trans s6)) n3,jE, ?_}};let out:∀p∈ys,p.1≠(.inl e.1:Key):=λp hp z=>by
     obtain⟨j,hj⟩:=gK.mp hp;obtain⟨e',he',q1,_⟩:=Paired.at h.pr hj;rw[z]at q1;exact uH he nd (by rw[Sum.inl.inj q1];exact List.mem_map_of_mem (gL he'))
    rw[JP out,mD,he];exact Paired.app (Paired.to (λ_ _ k=>(k.same (s5.trans s6)).upd ed6) h.pr) (.cons (EntR.upd ed6 {rfl,t,rfl,(e6)}) .nil)
   .intro ys H4 h;let pr4:=h.pr;rw[lk,mL]at pr4;refine go d ys H4 (fr1 d (s2.free n3)) (λc u hc n=>(s2.trans h.s) _ _ (b1 c u hc n)) {o,(s2.trans h.s) _ _ e1} h.e pr4
theorem frac_sz{n M:Int}(M0:0<M)(Mb:M.natAbs<2^7800)(nb:n.natAbs<2^7800):SzR 7900 ((n:Rat)/(M:Rat)):=by
 let o:Ov 1 7800 ((n:Int):Rat):={n,by unfold fv;rw[tH,show((1:Int):Rat)=1 from rfl];grind,nY nb};let o:=o.div #[0] (show M≠0 by ∎);rw[Int.one_mul]at o;exact o.sz ∎ (d:=7800) (by rw[Int.natAbs_natCast];exact nY Mb) #[0] #[0]
def VZ(K:tP):Sp:=λvs H Q _=>∃(a:Addr) (M n:Int),vs=[.ref a]/\H a=some (.dK [(.inl M,.int n)])/\0<M/\M.natAbs<2^7800/\n.natAbs<2^7800/\
 ∀(v:V) (H':Hp),But a H H'->NumH H' v ((n:Rat)/(M:Rat))->Q v H'
inductive HtI(K:tP)(H:Hp)(a:Addr)(M n:Int)(i:Nat):L2.St->Hp->Prop where
 | mk {v:V} {u2 u3:Option V} {H':Hp} (s:Same H H') (h:if i=0 then NumK K H' v 0 else NumH H' v ((n:Rat)/(M:Rat))):HtI K H a M n i [some (.ref a),some v,u2,u3] H'
theorem scHt:FnScope ["heap","total","bottom","top"] ["heap"] (jI HJ):=scK #[2]
theorem ok_heap(F:Fun K "heap_total" "heap_total" HJ f fd)(N:Ngt K mg)(GA:DG P w K mg base 2 "added" JL ["one","other"] (MQ K))(GD:DG P w K mg base 3 "divided" WI ["one","other"] (MO K)):FnOk P w K mg base CX0 4 f fd ["heap"] (VZ K):=by
 obtain⟨na,hN,hna⟩:=N;refine F.ok scHt #[9] #[4]
 .obtain⟨a,M,n,rfl,_⟩:=h
  rfl
 .obtain⟨a,M,n,rfl,ha,M0,Mb,nb,go⟩:=h;let hr2:Room 2 _:=hr.mono #[0];refine{_,jC (jM (i:=1) scHt.nd rfl #[5] (qD (v:=.ref na) (by rfl) hN rfl)) (jC (qC PassesOwn.never rfl (yL (PQ (pv 0))) (qK rfl (jK (jH (i:=2) scHt.nd rfl #[5]) (jK (jH (i:=3) scHt.nd rfl #[5]) kT))) (jF (jM (i:=1) scHt.nd rfl #[5] (cal GA hr2 (jA (pv 1) (jA (cal GD hr (jA (kN (jA (pv 3) #[73])) (jA (kN (jA (pv 2) #[73])) jD))) jD)))))) (jF (jR (pv 1)))), ?_};try dsimp only[cxK]
  refine{_,rfl,a,_,rfl,ha,λo=>{a,o,_,rfl,jE, ?_}};let b1:But a H (upd H a (.frz o (.dK [(.inl M,.int n)]))):=λc u h n=>by rw[jG n];exact h
  let e1:(upd H a (.frz o (.dK [((.inl M:Key),V.int n)]))) a=some (.frz o (.dK [(.inl M,.int n)])):=jE;generalize upd H a (.frz o (.dK [((.inl M:Key),V.int n)]))=H1 at b1 e1;refine wD (HtI K H1 a M n) (.mk #[43] (by rw[tO rfl];exact IN (hna H1))) (λi O H2 _ h=>?_) (λi k x p O H2 hx hp h=>?_) (fun O H2 h=>?_)
  .obtain⟨s2,_⟩:=h;exact s2 _ _ e1
  .obtain⟨s2,hn⟩:=h
   match i,hx,hn with
   | 0,hx,hn=>
    rw[tO rfl]at hn;cases hx;let s3:Same H2 (upd H2 p (.tup [kV (.inl M),.int n])):=jO _ hp;let e3:(upd H2 p (.tup [kV (.inl M),.int n])) p=some (.tup [kV (.inl M),.int n]):=jE;generalize upd H2 p (.tup [kV (.inl M),.int n])=H3 at s3 e3;refine gT2 (SqT.of e3) rfl ?_;obtain⟨pt,rfl,qt⟩:=hn.same s3;let hM:((M:Int):Rat)≠0:=λz=>by
     let:M=0:=Rat.intCast_inj.mp (by rw[z];rfl)
     ∎
    refine{_,rfl,_,rfl,uR,λz1 H4 n4 s4 e4=>{_,rfl,uR,λy1 H5 n5 s5 e5=>?_}};refine{z1,y1,_,_,_,_,rfl,VX (SqT.of (s5 _ _ e4)),VX (SqT.of e5),(YV (jQ nb #[0]) #[0]).fr uP,(YV (jQ Mb #[0]) #[0]).fr uP,XQ hM,λr6 H6 n6 s6 e6=>?_};let e6:=divAt hM e6;let sz6:=frac_sz M0 Mb nb;refine{pt,r6,_,_,_,_,rfl,wW (s4.trans (s5.trans s6)) qt,SqT.of e6,(sz_zero 7899).fr uP,sz6.fr uP,λr7 H7 n7 s7 e7=>?_};let e7:=addAt e7;refine .mk (s2.trans (s3.trans (s4.trans (s5.trans (s6.trans s7))))) ?_;rw[tN ∎];let:=NumH.of e7;rw[nU]at this;exact this
   | i+1,hx,_=>simp at hx
  .obtain⟨s2,hn⟩:=h;exact{_,rfl,go _ H2 (λc u h n=>s2 _ _ (b1 c u h n)) hn}
def uJ(e1:Int×Rat)(A:Tb)(e2:Int×Rat):Tb:=xZ A (e1.1+e2.1) (tv A (e1.1+e2.1)+e1.2*e2.2)
def KE(T2:Tb)(A:Tb)(e1:Int×Rat):Tb:=T2.foldl (uJ e1) A
def xL(T1 T2:Tb):Tb:=T1.foldl (KE T2) []
theorem AW{α β:Type}{f:β->α->β}{l:List α}{i:Nat}{x:α}{b:β}(h:l[i]? = some x):(l.take (i+1)).foldl f b=f ((l.take i).foldl f b) x:=by
 rw[mD,h,List.foldl_append]
 rfl
theorem DJ{α β γ:Type}{F:α->β->Prop}{G:α->γ->Prop}{g:β->γ} :∀{l1:List α} {l2:List β},Paired F l1 l2->(∀(i:Nat) (a:α) (b:β),l1[i]? = some a->l2[i]? = some b->F a b->G a (g b))->Paired G l1 (l2.map g)
 | _,_,.nil,_=>.nil
 | _,_,.cons h t,k=>.cons (k 0 _ _ rfl rfl h) (DJ t λi a b h1 h2=>k (i+1) a b h1 h2)
def EntH(M:Int)(B:Nat)(Hs H:Hp)(hd:Addr)(kv:Key×V)(e:Int×Rat):Prop:=kv.1=.inl e.1/\∃(c:Addr) (n:Int),kv.2=.ref c/\Hs c=none/\c≠hd/\H c=some (.dK [(.inl M,.int n)])/\((n:Int):Rat)=e.2*(M:Rat)/\n.natAbs<=B*2^7600
theorem EntH.go{M:Int}{B B':Nat}{kv:Key×V}{e:Int×Rat}(h:EntH M B Hs H hd kv e)(k:∀c,kv.2=.ref c->Hs c=none->c≠hd->∀o,H c=some o->H' c=some o)(hB:B<=B'):EntH M B' Hs H' hd kv e:=by
 obtain⟨h1,c,n,h2,h3,h4,h5,h6,h7⟩:=h;exact{h1,c,n,h2,h3,h4,k c h2 h3 h4 _ h5,h6,nQ h7 (gR _ hB)}
structure HpI(M:Int)(B:Nat)(Hs H:Hp)(hd:Addr)(hs:List (Key×V))(A:Tb):Prop where
 e:H hd=some (.dK hs)
 pr:Paired (EntH M B Hs H hd) hs A
 nd:(hs.map (·.2)).Nodup
 ndA:#[76].Nodup
 ln:A.length<=B
theorem HpI.go{M:Int}{B:Nat}(I:HpI M B Hs H hd hs A)(e:H' hd=some (.dK hs))(k:∀c,Hs c=none->c≠hd->∀o,H c=some o->H' c=some o):HpI M B Hs H' hd hs A:={e,Paired.to (λ_ _ h=>h.go (λc _ h1 h2=>k c h1 h2) uP) I.pr,I.nd,I.ndA,I.ln}
theorem EF{M:Int}{B:Nat}{k:Int} :∀{hs:List (Key×V)} {A:Tb},Paired (EntH M B Hs H hd) hs A->(∃(i:Nat) (c:Addr) (n:Int),hs[i]? = some (.inl k,.ref c)/\A[i]? = some (k,tv A k)/\kK hs (.inl k:Key)=some (.ref c)/\Hs c=none/\c≠hd/\H c=some (.dK [(.inl M,.int n)])/\((n:Int):Rat)=tv A k*(M:Rat)/\n.natAbs<=B*2^7600)∨(kK hs (.inl k:Key)=none/\k∉A.map (·.1)/\∀p∈hs,p.1≠(.inl k:Key))
 | [],[],.nil=>.inr {rfl,by simp,λ_ h=>nomatch h}
 | kv::hs,e::A,.cons h t=>by
  rw[kY];by_cases q:e.1=k
  .obtain⟨h1,c,n,h2,h3,h4,h5,h6,h7⟩:=h;obtain⟨k1,v1⟩:=kv;obtain⟨e1,x1⟩:=e;let h1:k1=.inl e1:=h1;let h2:v1=.ref c:=h2;let q:e1=k:=q;subst h1 h2 q;rw[tO rfl,qN rfl];exact .inl {0,c,n,rfl,rfl,rfl,h3,h4,h5,h6,(h7)}
  .have n:kv.1≠(.inl k:Key):=λz=>q (by rw[h.1]at z;exact Sum.inl.inj z);let e1:kK (kv::hs) (.inl k:Key)=kK hs (.inl k:Key):=by unfold kK;rw[List.find?_cons,mU n]
   rw[tN q,e1];rcases EF t with⟨i,c,m,z1,z2,z3⟩ | ⟨z1,z2,z3⟩
   .exact .inl {i+1,c,m,z1,z2,z3}
   .exact .inr {z1,λz=>by rcases nI.mp z with z | z;exact q z.symm;exact z2 z,λp hp=>by rcases nI.mp hp with rfl | hp;exact n;exact z3 p hp}
theorem get_one{M n:Int} :kK [((.inl M:Key),V.int n)] (.inl M)=some (.int n):=qN rfl
theorem put_one{M n m:Int} :qB [((.inl M:Key),V.int n)] (.inl M) (.int m)=[(.inl M,.int m)]:=by
 unfold qB;simp
theorem put_nil{M m:Int} :qB ([]:List (Key×V)) (.inl M) (.int m)=[(.inl M,.int m)]:=rfl
theorem HpI.there{M:Int}{B:Nat}{k n m:Int}{y:Rat}{i:Nat}(I:HpI M B Hs H4 hd hs A)(hi:hs[i]? = some (.inl k,.ref c))(ai:A[i]? = some (k,tv A k))(fc:Hs c=none)(ch:c≠hd)(en:((n:Int):Rat)=tv A k*(M:Rat))(bn:n.natAbs<=B*2^7600)(em:((m:Int):Rat)=y*(M:Rat))(bm:m.natAbs<=2^7600):HpI M (B+1) Hs (upd H4 c (.dK [(.inl M,.int (n+m))])) hd hs (xZ A k (tv A k+y)):=by
 let km:k∈A.map (·.1):=by
  let:=List.mem_map_of_mem (f:=(·.1)) (gL ai);exact this
 let pq:xZ A k (tv A k+y)=A.map λe=>if e.1=k then(e.1,tv A k+y)else e:=by unfold xZ;rw[tO (any_key.mpr km)]
 refine{by rw[jG (Ne.symm ch)];exact I.e, ?_,I.nd,yO I.ndA, ?_}
 .rw[pq];refine DJ I.pr λj a b ha hb h=>?_;by_cases q:b.1=k
  .have j1:#[76][j]? = some k:=by rw[mB,hb];exact congrArg some q
   let j2:#[76][i]? = some k:=by rw[mB,ai];rfl
   let ij:j=i:=(List.getElem?_inj (uW.mp j1).1 I.ndA).mp (j1.trans j2.symm);subst ij;rw[hi]at ha;cases ha;rw[tO q];refine{by rw[q],c,n+m,rfl,fc,ch,jE, ?_, ?_}
   .show((n+m:Int):Rat)=(tv A k+y)*(M:Rat);rw[Rat.intCast_add,en,em]
    grind
   .have:=Int.natAbs_add_le n m;rw[Nat.add_mul,Nat.one_mul]
    ∎
  .rw[tN q];refine h.go (λc' hc' _ _ o ho=>?_) (Nat.le_succ _);let:c'≠c:=λz=>by
    subst z;let j1:(hs.map (·.2))[j]? = some (.ref c'):=by rw[mB,ha];exact congrArg some hc'
    let j2:(hs.map (·.2))[i]? = some (.ref c'):=by rw[mB,hi];rfl
    let ij:j=i:=(List.getElem?_inj (uW.mp j1).1 I.nd).mp (j1.trans j2.symm);subst ij;rw[ai]at hb;cases hb;exact q rfl
   rw[jG this];exact ho
 .have:=congrArg List.length pq;rw[mS]at this;rw[this];exact nQ I.ln (Nat.le_succ _)
theorem HpI.new{M:Int}{B:Nat}{A:Tb}{k m:Int}{y:Rat}(I:HpI M B Hs H4 hd hs A)(nk:k∉A.map (·.1))(fz:Hs z=none)(zh:z≠hd)(nz:∀p∈hs,p.2≠.ref z)(em:((m:Int):Rat)=y*(M:Rat))(bm:m.natAbs<=2^7600):HpI M (B+1) Hs (upd (upd H4 hd (.dK (hs++[(.inl k,.ref z)]))) z (.dK [(.inl M,.int m)])) hd (hs++[(.inl k,.ref z)]) (xZ A k (tv A k+y)):=by
 rw[wZ nk,xD nk,nU];refine{by rw[jG (Ne.symm zh)];exact jE,Paired.app ?_ (.cons {rfl,z,m,rfl,fz,zh,jE,em, ?_} .nil), ?_, ?_, ?_}
 .have go:∀{l1:List (Key×V)} {l2:Tb},(∀p∈l1,p∈hs)->Paired (EntH M B Hs H4 hd) l1 l2->Paired (EntH M (B+1) Hs (upd (upd H4 hd (.dK (hs++[(.inl k,.ref z)]))) z (.dK [(.inl M,.int m)])) hd) l1 l2:=by
   intro l1 l2 sub h;induction h with
   | nil=>exact .nil
   | @cons a b _ _ h _ ih=>
    refine .cons (h.go (λc hc _ _ o ho=>?_) (Nat.le_succ _)) (ih λp hp=>sub p (gM _ hp));obtain⟨_,c',_,q1,_,q2,_⟩:=h;rw[hc]at q1;cases q1;rw[jG (λy=>nz a (sub a (hU ..)) (by rw[hc,y])),jG q2];exact ho
  exact go (λ_ h=>h) I.pr
 .rw[Nat.add_mul,Nat.one_mul]
  ∎
 .rw[mT,mH];refine{I.nd,by simp,λa ha b hb=>?_};rw[nH,List.map_nil,hJ]at hb;obtain⟨p,hp,rfl⟩:=nT.mp ha;rw[hb];exact nz p hp
 .rw[mT,mH];refine{I.ndA,by simp,λa ha b hb=>?_};rw[nH,List.map_nil,hJ]at hb;rintro rfl;rw[hb]at ha;exact nk ha
 .rw[List.length_append];exact Nat.add_le_add_right I.ln 1
def JC(K:tP):Sp:=λvs H Q _=>∃(a b:Addr) (k1 k2:List (Key×V)) (T1 T2:Tb) (D1 D2:Int),vs=[.ref a,.ref b]/\a≠b/\Rd H a (.dK k1)/\Rd H b (.dK k2)/\Paired (EntQ K H) k1 T1/\Paired (EntQ K H) k2 T2/\(T1.map (·.1)).Nodup/\(T2.map (·.1)).Nodup/\T1.length<=100000/\T2.length<=500/\T1.length*T2.length<=3000000/\0<D1/\D1.natAbs<2^1400/\0<D2/\D2.natAbs<2^1400/\(∀e∈T1,(e.2.den:Int)∣D1)/\(∀e∈T2,(e.2.den:Int)∣D2)/\(∀e∈T1,e.2.num.natAbs<2^2400)/\(∀e∈T2,e.2.num.natAbs<2^2400)/\(∀e∈T1,e.1.natAbs<2^40)/\(∀e∈T2,e.1.natAbs<2^40)/\
 ∀(d:Addr) (ks:List (Key×V)) (H':Hp),H d=none->(∀c u,H c=some u->c≠a->c≠b->H' c=some u)->Rd H' b (.dK k2)->H' d=some (.dK ks)->Paired (EntQ K H') ks (xL T1 T2)->Q (.ref d) H'
theorem XU{e1 e2:Int×Rat}(h1:e1∈T1)(h2:e2∈T2):(((e1.2.num*(kR T1/(e1.2.den:Int)))*(e2.2.num*(kR T2/(e2.2.den:Int))):Int):Rat)=(e1.2*e2.2)*((kR T1*kR T2:Int):Rat):=by
 let a:=XZ (List.mem_map_of_mem (f:=(·.2)) h1);let b:=XZ (List.mem_map_of_mem (f:=(·.2)) h2);unfold kR;rw[Rat.intCast_mul,a,b,Rat.intCast_mul]
 grind
def B2(d1 d2:Addr)(H H':Hp):Prop:=∀c u,H c=some u->c≠d1->c≠d2->H' c=some u
theorem B2.tup(b:B2 d1 d2 H H')(e1:H d1=some (.dK j1))(e2:H d2=some (.dK j2))(h:H c=some (.tup xs)):H' c=some (.tup xs):=b c _ h (λz=>by rw[z,e1]at h;cases h) (λz=>by rw[z,e2]at h;cases h)
theorem EntR.but{C:Int}{x:Int×Rat}(h:EntR C H kv x)(e:Rd H p (.dK aj))(b:But p H H'):EntR C H' kv x:=by
 obtain⟨h1,c,h2,h3⟩:=h;refine{h1,c,h2,b _ _ h3 λz=>?_};rw[z]at h3;rcases e with e | ⟨o,e⟩<;>rw[e]at h3<;>cases h3
structure FnI(K:tP)(M:Int)(B:Nat)(H H2:Hp)(a b d hd:Addr)(oh:Obj)(hs:List (Key×V))(A:Tb)(i:Nat)(ys:List (Key×V))(H':Hp):Prop where
 s:∀c u,H2 c=some u->c≠a->c≠b->H' c=some u
 f:H' hd=some (.frz oh (.dK hs))
 e:H' d=some (.dK ys)
 later:∀(j:Nat) (kv:Key×V) (x:Int×Rat),i<=j->hs[j]? = some kv->A[j]? = some x->EntH M B H2 H' hd kv x
 pr:Paired (EntQ K H') ys (A.take i)
theorem DK{α β:Type}{F:α->β->Prop}{l1:List α}{l2:List β}(h:Paired F l1 l2){i:Nat}{a:α}{b:β}(h1:l1[i]? = some a)(h2:l2[i]? = some b):F a b:=by
 obtain⟨y,hy,k⟩:=Paired.at h h1;rw[h2]at hy;cases hy;exact k
inductive M1I(H2:Hp)(a b d1 d2 hd:Addr)(o1:Obj)(j1 j2:List (Key×V))(M:Int)(T1 T2:Tb)(i:Nat):L2.St->Hp->Prop where
 | mk {u5 u6 u7 u8 u9 u10 u11 u12:Option V} {H':Hp} {hs:List (Key×V)} (s:B2 d1 d2 H2 H') (f1:H' d1=some (.frz o1 (.dK j1))) (r2:Rd H' d2 (.dK j2)) (I:HpI M (i*T2.length) H2 H' hd hs ((T1.take i).foldl (KE T2) [])):M1I H2 a b d1 d2 hd o1 j1 j2 M T1 T2 i [some (.ref a),some (.ref b),some (.ref d1),some (.ref d2),some (.ref hd),u5,u6,u7,u8,u9,u10,u11,u12] H'
inductive M2I(H2:Hp)(a b d1 d2 hd:Addr)(o1 o2:Obj)(j1 j2:List (Key×V))(M:Int)(i:Nat)(A:Tb)(T2:Tb)(e1:Int×Rat)(t1 C1:Int)(j:Nat):L2.St->Hp->Prop where
 | mk {u8 u9 u10 u11 u12:Option V} {H':Hp} {hs:List (Key×V)} (s:B2 d1 d2 H2 H') (f1:H' d1=some (.frz o1 (.dK j1))) (f2:H' d2=some (.frz o2 (.dK j2))) (I:HpI M (i*T2.length+j) H2 H' hd hs ((T2.take j).foldl (uJ e1) A)):M2I H2 a b d1 d2 hd o1 o2 j1 j2 M i A T2 e1 t1 C1 j [some (.ref a),some (.ref b),some (.ref d1),some (.ref d2),some (.ref hd),some (.int e1.1),some (.int t1),some (.int C1),u8,u9,u10,u11,u12] H'
theorem scTm:FnScope ["one","other","first","second","heaps","key","top","bottom","more","over","under","heap","product"] ["one","other"] (jI BS):=scK #[2]
theorem TN(F:Fun K "tables_multiplied" "tables_multiplied" BS f fd)(GL:DG P w K mg base 4 "levelled" OU ["table"] (spLev K))(GH:DG P w K mg base 4 "heap_total" HJ ["heap"] (VZ K)):FnOk P w K mg base CX0 5 f fd ["one","other"] (JC K):=by
 refine F.ok scTm #[9] #[4]
 .obtain⟨a,b,k1,k2,T1,T2,D1,D2,rfl,_⟩:=h
  rfl
 .obtain⟨a,b,k1,k2,T1,T2,D1,D2,rfl,ab,ra,rb,p1,p2,nd1,nd2,l1,l2,l12,D10,D1b,D20,D2b,v1,v2,b1,b2,y1,y2,go⟩:=h;let hu:_+1<cLine:=gX #[10] hr.units;refine{_,jC (jM (i:=2) scTm.nd rfl #[5] (cal GL hr (jA (pv 0) jD))) (jC (jM (i:=3) scTm.nd rfl #[5] (cal GL hr #[74])) (jC (jM (i:=4) scTm.nd rfl #[5] (uE)) (jC (qC PassesOwn.never rfl (yL (CC (pv 2))) (qK rfl (jK (jH (i:=5) scTm.nd rfl #[5]) (jK (qK rfl (jK (jH (i:=6) scTm.nd rfl #[5]) (jK (jH (i:=7) scTm.nd rfl #[5]) kT))) kT))) (jF (qC PassesOwn.never rfl (yL (CC (pv 3))) (qK rfl (jK (jH (i:=8) scTm.nd rfl #[5]) (jK (qK rfl (jK (jH (i:=9) scTm.nd rfl #[5]) (jK (jH (i:=10) scTm.nd rfl #[5]) kT))) kT))) (jC (jM (i:=11) scTm.nd rfl #[5] (JS (pv 4) (jJ qA (pv 5) (pv 8)) uE {rfl,rfl,rfl,(rfl)})) (jC (jM (i:=12) scTm.nd rfl #[5] (jJ qE (pv 7) (pv 10))) (jF (BZ hu (pv 11) (pv 12) (jJ qA (DI hu (pv 11) (pv 12) jB {rfl,rfl,rfl,(rfl)}) (jJ qE (pv 6) (pv 9))) rfl))))))) (jF (jR (AS (own:=2) (idx:=[]) (N:=["key","heap"]) rfl rfl rfl #[2] #[2] #[72] (vG rfl) rfl #[55] (yL (CC (pv 4))) (λC fp s2 H2=>show PG (jL _ ["key","heap"] _ _ C fp s2 H2) _ #[28]from qK (X:=jL _ ["key","heap"] _ _ C fp s2 H2) rfl (jK (jH (i:=0) (show List.Nodup (["key","heap"]:List Str) by decide +kernel) rfl #[5] #[38]) (jK (jH (i:=1) (show List.Nodup (["key","heap"]:List Str) by decide +kernel) rfl #[5] #[38]) kT))) (λC fp s2 H2=>pv 0) (λC fp s2 H2=>cal GH hr #[74]))))))), ?_}
  try dsimp only[cxK]
  let rne:∀{c:Addr} {kk:List (Key×V)},Rd H c (.dK kk)->∀{d:Addr},H d=none->d≠c:=fun {c kk} r {d} n z=>by
   rw[z]at n;rcases r with r | ⟨o,r⟩<;>rw[r]at n<;>cases n
  refine{_,rfl,a,k1,T1,D1,rfl,ra,p1,nd1,∎,D10,D1b,v1,λe he=>jQ (b1 e he) #[0],λd1 j1 H1 n1 t1 ⟨oa,fa⟩ e1 r1=>?_};let rb1:Rd H1 b (.dK k2):=by
   rcases rb with r | ⟨o,r⟩
   .exact .inl (t1 _ _ r (Ne.symm ab))
   .exact .inr {o,t1 _ _ r (Ne.symm ab)}
  let d1b:d1≠b:=rne rb n1;refine{_,rfl,b,k2,T2,D2,rfl,rb1,Paired.to (λ_ _ h=>h.but ra t1) p2,nd2,∎,D20,D2b,v2,λe he=>jQ (b2 e he) #[0],λd2 j2 H2 n2 t2 ⟨ob,fb⟩ e2 r2=>?_};let d21:d2≠d1:=λz=>by rw[z,e1]at n2;cases n2
  let e1:H2 d1=some (.dK j1):=t2 _ _ e1 d1b;let r1:Paired (EntR (kR T1) H2) j1 T1:=Paired.to (λ_ _ h=>h.but rb1 t2) r1;let s02:∀c u,H c=some u->c≠a->c≠b->H2 c=some u:=λc u h na nb=>t2 _ _ (t1 _ _ h na) nb;let fr2:∀c,H2 c=none->H c=none:=λc n=>by
   cases q:H c with
   | none=>rfl
   | some u=>
    by_cases ca:c=a
    .rw[ca,t2 _ _ fa ab]at n;cases n
    .by_cases cb:c=b
     .rw[cb,fb]at n;cases n
     .rw[s02 c u q ca cb]at n;cases n
  let L1:j1.length=T1.length:=Paired.length r1;let L2':j2.length=T2.length:=Paired.length r2;let c1:0<kR T1/\(kR T1).natAbs<2^1400:={IA _,gX (AB (NS v1) D10) D1b};let c2:0<kR T2/\(kR T2).natAbs<2^1400:={IA _,gX (AB (NS v2) D20) D2b};let tb:∀{T:Tb} {e:Int×Rat},e∈T->0<kR T->(kR T).natAbs<2^1400->e.2.num.natAbs<2^2400->(e.2.num*(kR T/(e.2.den:Int))).natAbs<2^3800:=fun {T e} he h0 h1 h2=>by
   let dp:=e.2.den_pos;let q:=gX (LwM.uO (kR T) (e.2.den:Int) ∎) h1;exact AL (m:=2400) (n:=1400) h2 q
  intro hd nhd;let hd1:d1≠hd:=λz=>by rw[z,nhd]at e1;cases e1
  let hd2:d2≠hd:=λz=>by rw[z,nhd]at e2;cases e2
  refine{_,rfl,d1,j1,rfl,.inl (by rw[jG hd1];exact e1),λo1 H4 f1 b4 fr4=>{d1,o1,j1,rfl,f1, ?_}};let h4:H4 hd=some (.dK []):=b4 _ _ jE (Ne.symm hd1);let s4:B2 d1 d2 H2 H4:=λc u h n1 n2=>b4 c u (by rw[jG (jS h nhd)];exact h) n1;let r24:Rd H4 d2 (.dK j2):=.inl (b4 _ _ (by rw[jG hd2];exact e2) d21);refine wD (M1I H2 a b d1 d2 hd o1 j1 j2 (kR T1*kR T2) T1 T2) (.mk (hs:=[]) s4 f1 r24 {h4,.nil,mZ,mZ,tF _}) (λi O H5 _ h=>?_) (λi k x p O H5 hx hp h=>?_) (fun O H5 h=>?_)
  .obtain⟨_,f1,_,_⟩:=h;exact f1
  .obtain⟨s5,f5,r5,I5⟩:=h;obtain⟨e,he,hk,c,hc,ec⟩:=Paired.at r1 hx;let hk:k=.inl e.1:=hk;let hc:x=.ref c:=hc;subst hk hc;let em:=gL he;let il:i<T1.length:=(uW.mp he).1;let s6:Same H5 (upd H5 p (.tup [kV (.inl e.1),.ref c])):=jO _ hp;let e6:(upd H5 p (.tup [kV (.inl e.1),.ref c])) p=some (.tup [kV (.inl e.1),.ref c]):=jE;generalize upd H5 p (.tup [kV (.inl e.1),.ref c])=H6 at s6 e6;refine{p,_,rfl,SqT.of e6,rfl,_,_,rfl,_,_,rfl,c,_,rfl,SqT.of (s6 _ _ (s5.tup e1 e2 ec)),rfl,_,_,rfl,_,_,rfl,rfl,rfl, ?_};refine{_,rfl,d2,j2,rfl,HP r5 s6,λo2 H7 f7 b7 fr7=>{d2,o2,j2,rfl,f7, ?_}};let s7:B2 d1 d2 H2 H7:=λc u h n1 n2=>b7 _ _ (s6 _ _ (s5 c u h n1 n2)) n2;let f17:=b7 _ _ (s6 _ _ f5) (Ne.symm d21);let h57:∀{c:Addr} {kk:List (Key×V)},c≠d2->H5 c=some (.dK kk)->H7 c=some (.dK kk):=λn h=>b7 _ _ (s6 _ _ h) n;rename_i u5 u6 u7 u8 u9 u10 u11 u12 hs;let I7:HpI (kR T1*kR T2) (i*T2.length+0) H2 H7 hd hs ((T1.take i).foldl (KE T2) []):=I5.go (h57 (Ne.symm hd2) I5.e) λc n _ o ho=>b7 _ _ (s6 _ _ ho) (λz=>by rw[z,e2]at n;cases n);let tb1:=tb em c1.1 c1.2 (b1 e em);generalize ht1:e.2.num*(kR T1/(e.2.den:Int))=t1 at tb1;generalize hA:(T1.take i).foldl (KE T2) []=AA at I7;refine wD (M2I H2 a b d1 d2 hd o1 o2 j1 j2 (kR T1*kR T2) i AA T2 e t1 (kR T1)) (.mk s7 f17 f7 I7) (λj O H8 _ h=>?_) (λj k' x' p' O H8 hx' hp' h=>?_) (fun O H8 h=>?_)
   .obtain⟨_,_,f8,_⟩:=h;exact f8
   .obtain⟨s8,f8,g8,I8⟩:=h;rename_i w8 w9 w10 w11 w12 hs';obtain⟨e',he',hk',c',hc',ec'⟩:=Paired.at r2 hx';let hk':k'=.inl e'.1:=hk';let hc':x'=.ref c':=hc';subst hk' hc';let em':=gL he';let jl:j<T2.length:=(uW.mp he').1;let s9:Same H8 (upd H8 p' (.tup [kV (.inl e'.1),.ref c'])):=jO _ hp';let e9:(upd H8 p' (.tup [kV (.inl e'.1),.ref c'])) p'=some (.tup [kV (.inl e'.1),.ref c']):=jE;generalize upd H8 p' (.tup [kV (.inl e'.1),.ref c'])=H9 at s9 e9;refine{p',_,rfl,SqT.of e9,rfl,_,_,rfl,_,_,rfl,c',_,rfl,SqT.of (s9 _ _ (s8.tup e1 e2 ec')),rfl,_,_,rfl,_,_,rfl,rfl,rfl, ?_};let tb2:=tb em' c2.1 c2.2 (b2 e' em');let mo:=XU em em';rw[ht1]at mo;generalize e'.2.num*(kR T2/(e'.2.den:Int))=t2 at tb2 mo;let bm:(t1*t2).natAbs<=2^7600:=nY (AL (m:=3800) (n:=3800) tb1 tb2);let st:(T2.take (j+1)).foldl (uJ e) AA=xZ ((T2.take j).foldl (uJ e) AA) (e.1+e'.1) (tv ((T2.take j).foldl (uJ e) AA) (e.1+e'.1)+e.2*e'.2):=AW he';let cnt:i*T2.length+j<3000000:=by
     let:i*T2.length+T2.length<=T1.length*T2.length:=by
      rw[<-Nat.succ_mul];exact gR _ il
     ∎
    refine{_,rfl,hd,rfl,.inl {_,.inl (s9 _ _ I8.e)},_,rfl,_,rfl,_,_,rfl,rfl,λz nz=>?_};let s10:Same H9 (upd H9 z (.dK [])):=jO _ nz;let e10:(upd H9 z (.dK [])) z=some (.dK []):=jE;generalize upd H9 z (.dK [])=H10 at s10 e10;let I10:=I8.go ((s9.trans s10) _ _ I8.e) λc _ _ o ho=>(s9.trans s10) _ _ ho;let lh:hs'.length=((T2.take j).foldl (uJ e) AA).length:=Paired.length I10.pr;let ll:=I10.ln;let f10:=(s9.trans s10) _ _ f8;let g10:=(s9.trans s10) _ _ g8;let b10:B2 d1 d2 H2 H10:=λc u h n1 n2=>(s9.trans s10) _ _ (s8 c u h n1 n2);refine{hs',.inl (e.1+e'.1),I10.e,rfl,by rw[lh,sizeLine_eq];∎,λv hv=>?_,λhn=>?_}
    .rcases EF (k:=e.1+e'.1) I10.pr with⟨ii,c,n,hi,ai,hvv,fc,ch,hcn,en,bn⟩ | ⟨hvv,_⟩
     .rw[hvv]at hv;cases hv;dsimp only[jP];refine{_,rfl,_,rfl,_,_,rfl,rfl,{jQ c1.2 #[0],jQ c2.2 #[0]}, ?_};refine{_,rfl,c,rfl,.inl {_,.inl hcn},_,rfl,_,DGet.k (k:=.inl (kR T1*kR T2)) hcn, ?_};rw[get_one];refine{_,rfl,_,rfl,_,_,rfl,rfl,{jQ tb1 #[0],jQ tb2 #[0]},_,_,rfl,rfl,_,rfl,_,rfl,c,_,rfl,DPut.k (k:=.inl (kR T1*kR T2)) hcn (by show 1<sizeLine;decide), ?_};rw[put_one];let cd:∀{d:Addr} {o:HO},H2 d=some o->c≠d:=λh z=>by rw[z,h]at fc;cases fc
      refine .mk (hs:=hs') (λx u h n1 n2=>by rw[jG (Ne.symm (cd h))];exact b10 x u h n1 n2) (by rw[jG (Ne.symm (cd e1))];exact f10) (by rw[jG (Ne.symm (cd e2))];exact g10) ?_;rw[st];exact I10.there hi ai fc ch en bn mo bm
     .rw[hvv]at hv;cases hv
    .rcases EF (k:=e.1+e'.1) I10.pr with⟨ii,c,n,hi,ai,hvv,_⟩ | ⟨hvv,nk,out⟩
     .rw[hvv]at hn;cases hn
     .rw[JP out];let zh:z≠hd:=λy=>by rw[y,s9 _ _ I8.e]at nz;cases nz
      let fz:H2 z=none:=by
       cases q:H2 z with
       | none=>rfl
       | some u=>
        by_cases y1:z=d1
        .rw[y1,s9 _ _ f8]at nz;cases nz
        .by_cases y2:z=d2
         .rw[y2,s9 _ _ g8]at nz;cases nz
         .rw[s9 _ _ (s8 z u q y1 y2)]at nz;cases nz
      let nzs:∀p∈hs',p.2≠.ref z:=λp hp y=>by
       obtain⟨ix,hix⟩:=gK.mp hp;obtain⟨ee,_,_,cc,nn,q1,_,_,q2,_⟩:=Paired.at I8.pr hix;rw[y]at q1;cases q1;rw[s9 _ _ q2]at nz;cases nz
      let ez:(upd H10 hd (.dK (hs'++[(.inl (e.1+e'.1),.ref z)]))) z=some (.dK []):=by rw[jG zh];exact e10
      dsimp only[jP];refine{_,rfl,_,rfl,_,_,rfl,rfl,{jQ c1.2 #[0],jQ c2.2 #[0]}, ?_};refine{_,rfl,z,rfl,.inl {_,.inl ez},_,rfl,_,DGet.k (k:=.inl (kR T1*kR T2)) ez, ?_};refine{_,rfl,_,rfl,_,_,rfl,rfl,{jQ tb1 #[0],jQ tb2 #[0]},_,_,rfl,rfl,_,rfl,_,rfl,z,_,rfl,DPut.k (k:=.inl (kR T1*kR T2)) ez (by show 0<sizeLine;decide), ?_};rw[put_nil,Int.zero_add];let cd:∀{d:Addr} {o:HO},H2 d=some o->d≠z/\d≠hd:=λh=>{(λy=>by rw[y,fz]at h;cases h),(λy=>by rw[y,nhd]at h;cases h)};refine .mk (hs:=hs'++[(.inl (e.1+e'.1),.ref z)]) (λx u h n1 n2=>by rw[jG (cd h).1,jG (cd h).2];exact b10 x u h n1 n2) (by rw[jG (cd e1).1,jG (cd e1).2];exact f10) (by rw[jG (cd e2).1,jG (cd e2).2];exact g10) ?_;rw[st];exact I10.new nk fz zh nzs mo bm
   .obtain⟨s8,f8,g8,I8⟩:=h;rename_i hs';rw[L2',mL,<-Nat.succ_mul]at I8;refine .mk (hs:=hs') s8 f8 (.inr {o2,(g8)}) ?_;rw[AW he,hA];exact I8
  .obtain⟨s5,f5,r5,I5⟩:=h;rw[L1,mL]at I5;rename_i u5 u6 u7 u8 u9 u10 u11 u12 hs;let I5:HpI (kR T1*kR T2) (T1.length*T2.length) H2 H5 hd hs (xL T1 T2):=I5;generalize hA:xL T1 T2=A at I5 go;let lA:hs.length=A.length:=Paired.length I5.pr;let ll:=I5.ln;let M0:0<kR T1*kR T2:=tG c1.1 c2.1;let Mb:(kR T1*kR T2).natAbs<2^7800:=jQ (AL c1.2 c2.2) #[0];let fr5:∀c,H5 c=none->H2 c=none:=λc n=>by
    cases q:H2 c with
    | none=>rfl
    | some u=>
     by_cases y1:c=d1
     .rw[y1,f5]at n;cases n
     .by_cases y2:c=d2
      .rw[y2]at n;rcases r5 with r | ⟨o,r⟩<;>rw[r]at n<;>cases n
      .rw[s5 c u q y1 y2]at n;cases n
   refine{_,rfl,hd,hs,rfl,.inl I5.e,λoh H6 f6 b6 fr6=>{hd,oh,hs,rfl,f6,λd H7 n7 s7 e7=>?_}};let pr6:Paired (EntH (kR T1*kR T2) (T1.length*T2.length) H2 H6 hd) hs A:=Paired.to (λ_ _ h=>h.go (λc _ _ ch o ho=>b6 _ _ ho ch) uP) I5.pr;let d2n:H2 d=none:=fr5 d (fr6 d n7);let dn:H d=none:=fr2 d d2n;let s26:∀c u,H2 c=some u->c≠d1->c≠d2->H6 c=some u:=λc u h y1 y2=>b6 _ _ (s5 c u h y1 y2) (λz=>by rw[z,nhd]at h;cases h);let nd2':H d2=none:=by
    cases q:H d2 with
    | none=>rfl
    | some u=>
     by_cases y1:d2=a
     .rw[y1,fa]at n2;cases n2
     .rw[t1 _ _ q y1]at n2;cases n2
   let dhd:hd≠d:=λz=>by rw[<-z,f6]at n7;cases n7
   refine AF (FnI K (kR T1*kR T2) (T1.length*T2.length) H H2 d1 d2 d hd oh hs A) (by rw[lA,sizeLine_eq];∎) {λc u h na nb=>s7 _ _ (s26 c u h na nb),s7 _ _ f6,e7,λjj kv x _ h1 h2=>(DK pr6 h1 h2).go (λc _ _ _ o ho=>s7 _ _ ho) uP,.nil} (λi ys H8 h=>{h.f,h.e, ?_}) ?_ ?_
   .have:=Paired.length h.pr;rw[this,mJ]
    ∎
   .intro i m ys k x cp H8 hx hm h hcp;let il:i<A.length:=by rw[<-lA];exact(uW.mp hx).1
    let hAi:A[i]? = some A[i]:=uY il;generalize A[i]=e at hAi;let E0:=h.later i _ e uP hx hAi;let E6:=DK pr6 hx hAi;obtain⟨hk,c,n,hc,fc,ch,h8c,en,bn⟩:=E0;let hk:k=.inl e.1:=hk;let hc:x=.ref c:=hc;subst hk hc;let cd:c≠d:=λz=>by
     obtain⟨_,c6,_,q1,_,_,q2,_⟩:=E6;cases q1;rw[z,n7]at q2;cases q2
    let s9:Same H8 (upd H8 cp (.tup [kV (.inl e.1),.ref c])):=jO _ hcp;let e9:(upd H8 cp (.tup [kV (.inl e.1),.ref c])) cp=some (.tup [kV (.inl e.1),.ref c]):=jE;generalize upd H8 cp (.tup [kV (.inl e.1),.ref c])=H9 at s9 e9;let h9c:=s9 _ _ h8c;let nb:n.natAbs<2^7800:=gX bn (gX (gR _ (show T1.length*T2.length<=2^22 from nQ l12 #[0])) (by rw[<-Nat.pow_add];exact gP #[0] #[0]));refine{cp,_,rfl,SqT.of e9,rfl,_,_,rfl,_,_,rfl,rfl,FK,_,rfl,_,rfl,c,_,n,rfl,h9c,M0,Mb,nb,λv H10 b10 nv=>?_};let hM:((kR T1*kR T2:Int):Rat)≠0:=λz=>by
     let:kR T1*kR T2=0:=Rat.intCast_inj.mp (by rw[z];rfl)
     ∎
    let nv:NumH H10 v e.2:=by
     let:((n:Int):Rat)/((kR T1*kR T2:Int):Rat)=e.2:=by rw[en,Rat.mul_div_cancel hM]
     rw[this]at nv;exact nv
    let e10:=b10 _ _ (s9 _ _ h.e) (Ne.symm cd);refine{.inl e.1,rfl,e10,IJ hx hm {λx u hx' na nb=>?_, ?_,jE,λjj kv y hj h1 h2=>?_, ?_}}
    .rw[jG (λz=>by rw[z,d2n]at hx';cases hx')];exact b10 _ _ (s9 _ _ (h.s x u hx' na nb)) (λz=>by rw[z,fc]at hx';cases hx')
    .rw[jG dhd];exact b10 _ _ (s9 _ _ h.f) (Ne.symm ch)
    .refine(h.later jj kv y ∎ h1 h2).go (λc' hc' _ _ o ho=>?_) uP ;let c'c:c'≠c:=λz=>by
      subst z;let j1:(hs.map (·.2))[jj]? = some (.ref c'):=by rw[mB,h1];exact congrArg some hc'
      let j2:(hs.map (·.2))[i]? = some (.ref c'):=by rw[mB,hx];rfl
      let:=(List.getElem?_inj (uW.mp j1).1 I5.nd).mp (j1.trans j2.symm)
      ∎
     let c'd:c'≠d:=λz=>by
      obtain⟨_,c6,_,q1,_,_,q2,_⟩:=DK pr6 h1 h2;rw[hc']at q1;cases q1;rw[z,n7]at q2;cases q2
     rw[jG c'd];exact b10 _ _ (s9 _ _ ho) c'c
    .have k1:Paired (EntQ K H10) ys (A.take i):=Paired.to (λ_ _ q=>(q.same s9).but (.inl h9c) b10) h.pr;let k:=II (k:=e.1) k1 nv;let eq:xZ (A.take i) e.1 e.2=A.take (i+1):=by
      rw[wZ (uH hAi I5.ndA),mD,hAi]
      rfl
     rw[eq]at k;exact Paired.to (λ_ _ q=>q.upd e10) k
   .intro ys H8 h;let pr8:=h.pr;rw[lA,mL]at pr8;exact go d ys H8 dn (λc u hc na nb=>h.s c u (s02 c u hc na nb) (λz=>by rw[z,n1]at hc;cases hc) (λz=>by rw[z,nd2']at hc;cases hc)) (.inr {ob,h.s b _ fb (Ne.symm d1b) (λz=>by rw[z,e2]at fb;cases fb)}) h.e pr8
structure MulA(T1 T2:Tb)(B:Nat)(A:Tb):Prop where
 nd:#[76].Nodup
 ks:∀k∈A.map (·.1),∃e1∈T1,∃e2∈T2,k=e1.1+e2.1
 ln:A.length<=B
theorem MulA.step{B:Nat}{e1 e2:Int×Rat}(h:MulA T1 T2 B A)(h1:e1∈T1)(h2:e2∈T2):MulA T1 T2 (B+1) (uJ e1 A e2):=by
 refine{yO h.nd,λk hk=>?_, ?_}
 .unfold uJ at hk;rw[zT]at hk;split at hk
  .exact h.ks k hk
  .rcases mV.mp hk with hk | hk
   .exact h.ks k hk
   .exact{e1,h1,e2,h2,hJ.mp hk}
 .have l:=congrArg List.length (zT A (e1.1+e2.1) (tv A (e1.1+e2.1)+e1.2*e2.2));rw[mS]at l;unfold uJ;rw[l];let:=h.ln;split
  .rw[mS];∎
  .rw[List.length_append,mS];show A.length+1<=B+1;∎
theorem QG{e1:Int×Rat}(h1:e1∈T1):∀(l:Tb) {A:Tb} {B:Nat},(∀e∈l,e∈T2)->MulA T1 T2 B A->MulA T1 T2 (B+l.length) (l.foldl (uJ e1) A)
 | [],A,B,_,h=>h
 | e::l,A,B,sub,h=>by
  let:=QG h1 l (λx hx=>sub x (gM _ hx)) (h.step h1 (sub e (hU ..)));rw[mN,show B+(l.length+1)=B+1+l.length by ∎];exact this
theorem QF{T1 T2:Tb} :∀(l:Tb) {A:Tb} {B:Nat},(∀e∈l,e∈T1)->MulA T1 T2 B A->MulA T1 T2 (B+l.length*T2.length) (l.foldl (KE T2) A)
 | [],A,B,_,h=>by rw[List.length_nil,Nat.zero_mul];exact h
 | e::l,A,B,sub,h=>by
  let:=QF l (λx hx=>sub x (gM _ hx)) (QG (sub e (hU ..)) T2 (λ_ h=>h) h);rw[mN,Nat.succ_mul,show B+(l.length*T2.length+T2.length)=B+T2.length+l.length*T2.length by ∎];exact this
theorem uI(T1 T2:Tb):MulA T1 T2 (T1.length*T2.length) (xL T1 T2):=by
 let:=QF (T1:=T1) (T2:=T2) T1 (A:=[]) (B:=0) (λ_ h=>h) {mZ,(λ_ h=>nomatch h),tE _};rw[Nat.zero_add]at this;exact this
def zP(a b:List Int):List Int:=List.zipWith (· + ·) a b
theorem MV:∀(n:Nat) {a b:List Int},a.length=n->b.length=n->pk (zP a b)=pk a+pk b
 | 0,a,b,h1,h2=>by rw[List.length_eq_zero_iff.mp h1,List.length_eq_zero_iff.mp h2];rfl
 | n+1,a,b,h1,h2=>by
  obtain⟨m,y,rfl,hm⟩:=yB h1;obtain⟨m',y',rfl,hm'⟩:=yB h2;unfold zP;rw[List.zipWith_append ∎,xH,xH];show pk (zP m m'++[y+y'])=_;rw[xH,MV n hm hm']
  ∎
theorem yM:∀{a b:List Int},a.length=b.length->(zP a b).sum=a.sum+b.sum
 | [],[],_=>rfl
 | x::a,y::b,h=>by
  let ih:=yM (a:=a) (b:=b) #[62];show x+y+(zP a b).sum=x+a.sum+(y+b.sum)
  ∎
theorem uF:∀{a b:List Int},(∀n∈a,0<=n)->(∀n∈b,0<=n)->∀n∈zP a b,0<=n
 | [],_,_,_,n,h=>by simp [zP]at h
 | _::_,[],_,_,n,h=>by simp [zP]at h
 | x::a,y::b,h1,h2,n,h=>by
  let h:n∈(x+y)::zP a b:=h;rcases nI.mp h with rfl | h
  .have:=h1 x (hU ..);let:=h2 y (hU ..)
   ∎
  .exact uF (λn hn=>h1 n (gM _ hn)) (λn hn=>h2 n (gM _ hn)) n h
structure PlB(P:Pl)(D:Int):Prop where
 pos:0<D
 sd:D.natAbs<2^1400
 dv:∀x∈P,(x.2.den:Int)∣D
 nb:∀x∈P,x.2.num.natAbs<2^2400
section
variable{X:Cx}
def tF3(m m2:Str)(ta:TE):TE:=fun O H Q=>ta O H λx H1=>∃i:Int,x=.int i/\i.natAbs.log2<1920/\(m++(toString i:Str)).length<=sizeLine/\(m++(toString i:Str)++m2).length<=sizeLine/\Q (.str (m++(toString i:Str)++m2)) H1
theorem pe_f3{m m2:Str}{k k2:Nat}(hm:m.length<=sizeLine)(ha:PE X a ta):PE X (.JoinedStr [.Constant (.str m) k p2,.FormattedValue a (-1) none p1,.Constant (.str m2) k2 p3] pos) (tF3 m m2 ta):=by
 intro ae s O H Q I h;let e1:Str.empty++m=m:=Str.empty_append m;refine JoinedStr_many (joinParts_cons (Calls.Constant_str ?_));show(Str.empty++m).length<=sizeLine/\wpAny _ _ (joinParts (Str.empty++m) _) _ _ { s with toks:=s.toks+1 };rw[e1];refine{hm,joinParts_cons (FormattedValue_plain (thn (ha ae _ O H _ (I.tok _) h) λv s1 ⟨x,H1,I1,r1,i,ex,f1,hl,hl2,q1⟩=>?_))};subst ex;obtain⟨t,rfl⟩:=r1;refine formatField_int_small f1 {hl,joinParts_cons (Calls.Constant_str ?_)};exact{hl2,joinParts_nilE (joinParts_nil {.str _,H1,((I1.tok _).tok _).tok _,{_,rfl},q1} hl2)}
end
theorem scInit:FnScope ["self","text"] ["self","text"] (jI zO):=scK #[2]
theorem ok_init{oc dV kV doc pm cdv ct:Value}{od an:Option Addr}{osl:Array (Option Value)}(lk:K.lookup f=some {oc,od,.func #[32],osl})
 (hcd:PySem.W.codeIn K cdv "LowwaterError.__init__" = true) (T:Txt mg):FnOk P w K mg base CX0 1 f #[32] ["self","text"] (LwE.spInit K):=by
 refine RO lk hcd scInit #[9] (λA outer s H vs Q E hr h=>?_)
 .obtain⟨e,C,fI,bl,nid,v,rfl,_⟩:=h
  rfl
 .obtain⟨e,C,fI,bl,nid,v,rfl,he,c,q⟩:=h;refine{_,(jF (yC (LwE.pe_baseInit (pl:=_) (jA (pv 0) #[74]) (hm:=T.verr)))).nox, ?_};exact{_,rfl,_,rfl,e,C,fI,bl,nid,v,rfl,he,c,q}
theorem DZ{dV kV doc pm cdv ct:Value}{an:Option Addr}{T:Addr}{oc:Value}{od:Option Addr}{its:Array Value}{n:Nat}{sl:Array (Option Value)}(hd:dV=.ref T)(lk:K.lookup T=some {oc,od,.seq its n,sl})(hn:its.size=1) :
  L2.Binds K #[32] ["self","text"] []:=by
 intro s us KI hl
 match us,hl with
 | [a,b],_=>
  subst hd;obtain⟨l⟩:=its
  match l,hn with
  | [d],_=>exact PySem.W.binds_K KI rfl lk rfl rfl rfl
structure Cls8(K:tP)(mg:Str->Option Value)(fI C D c1 c2 c3 c4 c5 c6 c7:Addr)(bl bd:List Value):Prop where
 q:LwE.XCls K C fI bl "ValueError.__new__"
 d:LwE.XCls K D fI bd "ValueError.__new__"
 up:bl.contains (.ref D)=true
 ve:PySem.W.kitOne K (.ref C) (.type "ValueError")=some true
 no:PySem.W.kitAny K (.ref C) [.ref c1,.ref c2,.ref c3,.ref c4,.ref c5,.ref c6,.ref c7]=some false
 mq:mg "TooGreat" = some (.ref C)
 md:mg "LowwaterError" = some (.ref D)
 m1:mg "NoLine" = some (.ref c1)
 m2:mg "NoQuotient" = some (.ref c2)
 m3:mg "NoRow" = some (.ref c3)
 m4:mg "NoText" = some (.ref c4)
 m5:mg "NotSecond" = some (.ref c5)
 m6:mg "NotStraight" = some (.ref c6)
 m7:mg "TooMany" = some (.ref c7)
def JE(K:tP)(C:Addr):Sp:=λvs H Q E=>∃(d:Addr) (ad:Nat) (aj:List (Key×V)) (T:Tb),vs=[.int ad,.ref d]/\Rd H d (.dK aj)/\Paired (EntQ K H) aj T/\#[75].Nodup/\T.length<=100000/\(∀k∈T.map (·.1),KyP ad k)/\1<=ad/\ad<=4/\
 (500<AH T/\(∀H',Same H H'->E (.ref C) none H')∨AH T<=500/\∀(p:Addr) (P:Pl) (H':Hp),H p=none->Same H H'->SumQ K H' p ad P->SumT ad T P->Q (.ref p) H')
theorem RZ{m:Int}(h0:0<=m)(h1:m<=999999):m.natAbs.log2<1920:=by
 by_cases z:m.natAbs=0
 .rw[z];decide
 .exact(Nat.log2_lt z).mpr (gZ (show m.natAbs<2^20 by ∎) (gO #[0] #[0]))
theorem zW{a:Int}(h:a.natAbs<10^6):(toString a).length<=10:=by
 let:=int_text_length_le10 (k:=6) #[0] h
 ∎
theorem scSo:FnScope ["many","table","keys","one"] ["many","table"] (jI GX):=scK #[2]
theorem TR(F:Fun K "sum_of" "sum_of" GX f fd)(T:Txt mg)(N:Ngt K mg)(c:LwE.XCls K C fI bl "ValueError.__new__")(GI:FnOk P w K mg base CX0 1 fI fdI ["self","text"] (LwE.spInit K))(bI:L2.Binds K fdI ["self","text"] [])(hm:mg "TooGreat" = some (.ref C))(GU:DG P w K mg base 1 "unpacked" OR ["key","many"] spUnpk)(GD:DG P w K mg base 1 "degree" wY ["one"] (MP K)):FnOk P w K mg base (LwE.CXF P w) 3 f fd ["many","table"] (JE K C):=by
 obtain⟨na,hN,hna⟩:=N;obtain⟨tt,ht⟩:=T.terms;obtain⟨td,hd⟩:=T.degree;obtain⟨oc,od,kV,doc,pm',an,cdv,ct,osl,rfl,lk,hcd⟩:=F.ex;refine RO lk hcd scSo #[9] (λA outer s H vs Q E hr h=>?_)
 .obtain⟨d,ad,aj,TT,rfl,_⟩:=h
  rfl
 .obtain⟨d,ad,aj,TT,rfl,rd,pr,nd,lT,ky,m1,m4,go⟩:=h;let hr1:Room 1 _:=hr.mono #[0];let hu0:=hr.units0;let hu1:_+1<cLine:=gX #[10] hr.units;refine{_,jC (JR (i:=2) scSo.nd rfl #[5] (own:=1) (idx:=[1]) (N:=["key","table"]) rfl rfl rfl #[2] #[2] #[26] (vG rfl) rfl (CD rfl {rfl,rfl,rfl,(rfl)}) (yF (kL (LU rfl) (by rfl) T.sorted boot_sorted #[74])) (λC fp s2 H2=>(jH (i:=0) (show List.Nodup (["key","table"]:List Str) by decide +kernel) rfl #[5] #[38])) (λC fp s2 H2=>jX (show OpR (jL _ ["key","table"] _ _ C fp s2 H2) _ (LwT.rOrdT K LwT.lexNe)from LwT.op_neT hu0) (vO hu1 (pv 1) (pv 0) #[11]) (qD (v:=.ref na) (by rfl) hN rfl) (kM _)) (λC fp s2 H2=>pv 0)) (jC (qJ (jX wJ (kL qR (by rfl) T.len PySem.boot_len (jA (pv 2) jD)) (qD (v:=.int 500) (by rfl) ht {_,rfl}) (kM _)) (jF (LwE.ps_raise c GI bI hr rfl hm (pe_f3 #[0] (kL qR (by rfl) T.len PySem.boot_len (jA (pv 2) jD))))) jY) (jC (jM (i:=3) scSo.nd rfl #[5] (kN (jA (pv 0) (jA (qL qX (by rfl) T.tup boot_tuple (jA (xV (own:=1) (idx:=[0,1]) (N:=["key","many","table"]) rfl rfl rfl #[2] #[2] (AN (by intro y hy;simp only[nI,mK,or_false]at hy;rcases hy with rfl | rfl<;>rfl)) (vG rfl) rfl (two_idx rfl rfl {rfl,rfl,rfl,(rfl)} {rfl,rfl,rfl,(rfl)}) (yF (pv 2)) (λC fp s2 H2=>(jH (i:=0) (show List.Nodup (["key","many","table"]:List Str) by decide +kernel) rfl #[5] #[38])) (λC fp s2 H2=>kN (jA (cal GU hr1 (jA (pv 0) #[74])) (jA (vO hu1 (pv 2) (pv 0) #[11]) jD)))) jD)) jD)))) (jC (qJ (jX wJ (cal GD hr1 (jA (pv 3) jD)) (qD (v:=.int 16) (by rfl) hd {_,rfl}) (kM _)) (jF (uA)) jY) (jF (jR (pv 3)))))), ?_}
  try dsimp only[cxK]
  obtain⟨ek,ei⟩:=LF pr;let lk:aj.length=TT.length:=Paired.length pr;refine{_,rfl,d,aj,rfl,rd,ei,λns pm srt sl H1 n1 s1 e1=>{sl,rfl,{_,SqL.of e1},λq H2 n2 s2 e2=>?_}};rw[ek]at pm;let ndn:ns.Nodup:=pm.nodup_iff.mpr nd;let lt:ns.Pairwise (· < ·):=srt;let cn':(ns.filter (nzb TT)).length=AH TT:=(pm.filter (nzb TT)).length_eq;let ln:ns.length=TT.length:=by rw[pm.length_eq,mS]
  let get:∀{n:Int} {H':Hp},n∈ns->Same H H'->∃v,DGet H' d (.int n) (some v)/\NumH H' v (tv TT n):=fun {n H'} hn sm=>by
   rcases IH (k:=n) pr with⟨v,h1,h2,_⟩ | ⟨_,_,h3⟩
   .exact{v,.inl {aj,.inl n,HP rd sm,rfl,h1.symm},h2.same sm}
   .exact absurd (pm.mem_iff.mp hn) h3
  refine LP (K:=K) (a:=sl) (xs:=ns.map V.int) (KyI H1 q TT ns) (by rw[mS,ln,sizeLine_eq];∎) {s2,e2,(rfl)} (λi ys H3 h=>{SqL.of (h.s _ _ e1),h.e, ?_}) ?_ ?_
  .rw[h.y,mS];let:=List.length_filter_le (nzb TT) (ns.take i);rw[mJ]at this
   ∎
  .intro i m ys x H3 hx hm h;let hx':=hx;rw[mB]at hx';obtain⟨n,hn,rfl⟩:=Option.map_eq_some_iff.mp hx';obtain⟨v,g1,pv',rfl,g2⟩:=get (gL hn) (s1.trans h.s);let tk:(ns.take (i+1)).filter (nzb TT)=(ns.take i).filter (nzb TT)++(if nzb TT n=true then [n]else []):=by
    rw[mD,hn,List.filter_append]
    congr 1
    show [n].filter _=_;rw[mR]
    rfl
   refine{uL,_,rfl,_,rfl,d,_,rfl,g1,pv',na,[(tv TT n).num,((tv TT n).den:Int)],[0,1],rfl,rfl,SqT.of g2,hna H3,_,rfl, ?_};rw[TZ];refine wH (λc=>{_,rfl,h.e,SE hx hm {jV h.s n2,jE, ?_}}) (λc=>SE hx hm {h.s,h.e, ?_})
   .rw[tk,tO (show nzb TT n=true from c),mT,h.y]
    rfl
   .rw[tk,tN (show ¬nzb TT n=true from c),List.append_nil,h.y]
  .rintro ys H3 ⟨s3,e3,ey⟩;rw[mS,mL]at ey;subst ey;dsimp only[jP];let lf:=List.length_filter_le (nzb TT) ns;let s03:=s1.trans s3;rcases go with⟨cn,go⟩ | ⟨cn,go⟩
   .refine{_,rfl,q,_,rfl,.inl (SqL.of e3),_,_,rfl,rfl,_,rfl,DY (mW (by rw[mS];∎)) ?_};refine{_,rfl,q,_,rfl,.inl (SqL.of e3),_,rfl,RZ ∎ (by rw[mS];∎), ?_, ?_,_,rfl,go H3 s03};all_goals
     let tf:=zW (a:=(((List.filter (nzb TT) ns).map V.int).length:Int)) (by rw[mS];∎);simp only[Str.length_append,PySem.ofString_length,sizeLine_eq]at tf ⊢;let z1: "a sum of ".length=9:=by decide
     let z2: " terms".length=6:=by decide
     ∎
   .refine{_,rfl,q,_,rfl,.inl (SqL.of e3),_,_,rfl,rfl,_,rfl,yT (mU (by rw[mS];∎)) ?_};refine{_,rfl,_,rfl,q,rfl,{_,SqL.of e3},λl2 H4 n4 s4 e4=>?_};let ST:=sumT_of cn ky m1 m4 pm lt;refine xY (K:=K) (a:=q) (xs:=(ns.filter (nzb TT)).map V.int) (TuI K H3 l2 (wV ad TT ns)) (by rw[mS,sizeLine_eq];∎) {s4,e4,(.nil)} (λi ys H5 h=>{SqL.of (h.s _ _ e3),h.e}) ?_ ?_
    .intro i m ys x H5 hx hm hy h;let hx':=hx;rw[mB]at hx';obtain⟨n,hn,rfl⟩:=Option.map_eq_some_iff.mp hx';let nm:=gL hn;let nn:=(List.mem_filter.mp nm).1;let ku:=(ky n (pm.mem_iff.mp nn)).unp;let hP:(wV ad TT ns)[i]? = some (unp ad n,tv TT n):=by unfold wV;rw[mB,hn];rfl
     refine{uL,_,rfl,_,rfl,unp ad n,by rw[ku.1,ku.2.2.2];rfl,yA ku.2.1 ku.2.2.1,by rw[ku.1];exact m4,λr H6 n6 s6 e6=>?_};obtain⟨v,g1,pv',rfl,g2⟩:=get nn (s03.trans (h.s.trans s6));refine{_,rfl,_,rfl,d,_,rfl,g1,uR,λtt H7 n7 s7 e7=>?_};let eq7:=(s6.trans s7) _ _ h.e;refine qM hx hm hy eq7 {jV (h.s.trans (s6.trans s7)) n4,jE, ?_};rw[mD,hP];exact Paired.app (Paired.to (λ_ _ k=>(k.same (s6.trans s7)).updL eq7) h.pr) (.cons (TmQ.updL eq7 {tt,r,pv',rfl,e7,s7 _ _ e6,pv',rfl,s7 _ _ g2}) .nil)
    .rintro ys H5 hy ⟨s5,e5,pr5⟩;let lS:(wV ad TT ns).length=(ns.filter (nzb TT)).length:=by unfold wV;rw[mS]
     rw[mS,<-lS,mL]at pr5;refine{l2,_,rfl,.inl {SqL.of e5,λr nr=>{uR,λp H7 n7 s7 e7=>?_}}};let s6:Same H5 (upd H5 r (.tup ys)):=jO _ nr;let e6:(upd H5 r (.tup ys)) r=some (.tup ys):=jE;generalize upd H5 r (.tup ys)=H6 at s6 e6 n7 s7;let SQ:SumQ K H7 p ad (wV ad TT ns):={r,ys,e7,s7 _ _ e6,Paired.to (λ_ _ k=>k.same (s6.trans s7)) pr5};let s07:=s03.trans (s5.trans (s6.trans s7));let n7':H p=none:=(s03.trans (s5.trans s6)).free n7;dsimp only[jP];refine{_,rfl,p,ad,16,_,rfl,SQ,ST.ok.pd,m4,by decide,nQ ST.ok.few #[0],λH8 s8=>{_,_,rfl,rfl,_,rfl,yT (mU ?_) {_,rfl,go p _ H8 n7' (s07.trans s8) (SQ.same s8) ST}}};let:=AX ST.ok.deg #[0]
     ∎
theorem CK{ns:List Int}{l:Nat}(h:l<ns.length):ns[l]? = some (ns.getD l 0):=by
 rw[uT,uY h]
 rfl
def vC(P:Pl)(l:Nat)(p:Int):Pl:=P.filter λx=>decide (x.1.getD l 0=p)
def mxP(P:Pl)(l:Nat):Int:=(P.map λx=>x.1.getD l 0).foldr max 0
def AK(g:Int->Tb->Tb)(m:Nat):Nat->Tb
 | 0=>[]
 | i+1=>g ((m:Int)-i) (AK g m i)
def xT(Td:Tb)(rec:Pl->Tb)(P:Pl)(l:Nat)(p:Int)(A:Tb):Tb:=if vC P l p=[]then xL A Td else ET (xL A Td) (rec (vC P l p))
def xE(Td:Nat->Tb):Nat->Nat->Pl->Tb
 | 0,_,[]=>[]
 | 0,_,x::_=>[(0,x.2)]
 | n+1,l,P=>AK (xT (Td l) (xE Td n (l+1)) P l) (mxP P l).toNat ((mxP P l).toNat+1)
theorem NY{T1 T2:Tb}(n1:(T1.map (·.1)).Nodup)(n2:(T2.map (·.1)).Nodup):AddT T1 T2 (ET T1 T2):=by
 let key:∀i,i<=T2.length->AddT T1 (T2.take i) ((T2.take i).foldl VA T1):=by
  intro i;induction i with
  | zero=>exact λ_=>{n1,λk hk=>.inl hk,Nat.le_add_right ..,λk=>(nV _).symm}
  | succ i ih=>
   intro h;let he:T2[i]? = some T2[i]:=uY ∎;let:=(ih ∎).step he n2;rw[AW he];exact this
 let:=key T2.length uP ;rw[mL]at this;exact this
theorem tv_at{T:Tb}(nd:#[75].Nodup){e:Int×Rat}(h:e∈T):e.2=tv T e.1:=by
 induction T with
 | nil=>exact absurd h #[14]
 | cons a T ih=>
  rw[nH,List.nodup_cons]at nd;rw[kY];rcases nI.mp h with rfl | h
  .rw[tO rfl]
  .rw[tN (λz=>nd.1 (by rw[z];exact List.mem_map_of_mem h))];exact ih nd.2 h
theorem Ov.mul{D E:Int}{n m:Nat}{x y:Rat}(h:Ov D n x)(k:Ov E m y)(hD:0<D)(hE:0<E):Ov (D*E) (n+m) (x*y):=by
 obtain⟨a,rfl,ha⟩:=h.ex;obtain⟨b,rfl,hb⟩:=k.ex;refine{a*b, ?_, ?_}
 .unfold fv;let h1:((D:Int):Rat)≠0:=λz=>by let:D=0:=Rat.intCast_inj.mp (by rw[z];rfl);∎
  let h2:((E:Int):Rat)≠0:=λz=>by let:E=0:=Rat.intCast_inj.mp (by rw[z];rfl);∎
  rw[Rat.intCast_mul,Rat.intCast_mul,tH,tH,tH,Rat.inv_mul_rev]
  grind
 .rw[Int.natAbs_mul,Nat.pow_add];exact mY ha hb
theorem AD{ns:List Int}{l:Nat}(h:l<ns.length)(nn:∀n∈ns,0<=n):(ns.drop l).sum=ns.getD l 0+(ns.drop (l+1)).sum/\0<=ns.getD l 0/\0<=(ns.drop (l+1)).sum:=by
 refine{?_, ?_, ?_}
 .rw[List.drop_eq_getElem_cons h,nM,uT,uY h]
  rfl
 .exact nn _ (gL (CK h))
 .have:∀m:List Int,(∀n∈m,0<=n)->0<=m.sum:=λm=>by
   induction m with
   | nil=>exact λ_=>tJ _
   | cons a m ih=>
    intro h;rw[nM];let:=h a (hU ..);let:=ih λn hn=>h n (gM _ hn)
    ∎
  exact this _ λn hn=>nn n (List.mem_of_mem_drop hn)
theorem part_mem{P:Pl}{l:Nat}{p:Int}{x:List Int×Rat} :x∈vC P l p↔x∈P/\x.1.getD l 0=p:=by
 unfold vC;rw[List.mem_filter];exact and_congr_right λ_=>decide_eq_true_iff
def lf(m:Int->Rat):Tb->Rat
 | []=>0
 | e::T=>e.2*m e.1+lf m T
theorem kI(m:Int->Rat)(e:Int×Rat)(T:Tb):lf m (e::T)=e.2*m e.1+lf m T:=rfl
theorem YI(m:Int->Rat):∀A B:Tb,lf m (A++B)=lf m A+lf m B
 | [],B=>(nU _).symm
 | e::A,B=>by rw[List.cons_append,kI,kI,YI m A B,Rat.add_assoc]
theorem zS{m m':Int->Rat} :∀{T:Tb},(∀e∈T,m e.1=m' e.1)->lf m T=lf m' T
 | [],_=>rfl
 | e::T,h=>by rw[kI,kI,h e (hU ..),zS λe' he=>h e' (gM _ he)]
theorem YH{m:Int->Rat}{k:Int}{x:Rat} :∀{T:Tb},k∈T.map (·.1)->#[75].Nodup->lf m (T.map λe=>if e.1=k then(e.1,x)else e)=lf m T+(x-tv T k)*m k
 | [],h,_=>nomatch h
 | e::T,h,nd=>by
  rw[nH,List.nodup_cons]at nd;rw[nH,kI,kI,kY];by_cases q:e.1=k
  .rw[tO q,tO q];let:T.map (λe=>if e.1=k then(e.1,x)else e)=T:=by
    conv=>rhs;rw[<-List.map_id T]
    refine List.map_congr_left λa ha=>?_;rw[tN (λz=>nd.1 (by rw[q,<-z];exact List.mem_map_of_mem ha))]
    rfl
   rw[this];show x*m e.1+_=_;rw[q]
   grind
  .rw[tN q,tN q];let r:k∈T.map (·.1):=by
    rcases nT.mp h with⟨a,ha,e1⟩
    rcases nI.mp ha with rfl | ha
    .exact absurd e1 q
    .exact e1▸List.mem_map_of_mem ha
   rw[YH r nd.2]
   grind
theorem YG{m:Int->Rat}{T:Tb}(nd:#[75].Nodup)(k:Int)(x:Rat):lf m (xZ T k x)=lf m T+(x-tv T k)*m k:=by
 by_cases h:k∈T.map (·.1)
 .unfold xZ;rw[tO (any_key.mpr h)];exact YH h nd
 .rw[wZ h,YI,xD h];show lf m T+(x*m k+0)=_
  grind
theorem QV(m:Int->Rat):∀(T2:Tb) {A:Tb},#[76].Nodup->lf m (T2.foldl VA A)=lf m A+lf m T2
 | [],A,_=>(nV _).symm
 | e::T,A,nd=>by
  rw[List.foldl_cons,QV m T (show((VA A e).map (·.1)).Nodup from yO nd),kI];unfold VA;rw[YG nd]
  grind
theorem YJ(m:Int->Rat){A:Tb}(B:Tb)(nd:#[76].Nodup):lf m (ET A B)=lf m A+lf m B:=QV m B nd
theorem QR(m:Int->Rat)(e1:Int×Rat):∀(T2:Tb) {A:Tb},#[76].Nodup->lf m (T2.foldl (uJ e1) A)=lf m A+e1.2*lf (λb=>m (e1.1+b)) T2/\((T2.foldl (uJ e1) A).map (·.1)).Nodup
 | [],A,nd=>{by show _=_+e1.2*0;grind,nd}
 | e::T,A,nd=>by
  let n2:((uJ e1 A e).map (·.1)).Nodup:=yO nd;let ih:=QR m e1 T n2;rw[List.foldl_cons];refine{?_,ih.2};rw[ih.1,kI];unfold uJ;rw[YG nd]
  grind
theorem QU(m:Int->Rat)(T2:Tb):∀(T1:Tb) {A:Tb},#[76].Nodup->lf m (T1.foldl (KE T2) A)=lf m A+lf (λa=>lf (λb=>m (a+b)) T2) T1
 | [],A,nd=>by show _=_+(0:Rat);grind
 | e::T,A,nd=>by
  let h:=QR m e T2 nd;rw[List.foldl_cons,QU m T2 T (show((KE T2 A e).map (·.1)).Nodup from h.2),kI];unfold KE;rw[h.1]
  grind
theorem AV(m:Int->Rat)(A B:Tb):lf m (xL A B)=lf (λa=>lf (λb=>m (a+b)) B) A:=by
 unfold xL;rw[QU m B A (A:=[]) mZ];exact nU _
theorem QP(m m':Int->Rat):∀T:Tb,lf (λk=>m k+m' k) T=lf m T+lf m' T
 | []=>(nU _).symm
 | e::T=>by rw[kI,kI,kI,QP m m' T];grind
theorem QQ(m:Int->Rat)(c:Rat):∀T:Tb,lf (λk=>m k*c) T=lf m T*c
 | []=>(nW _).symm
 | e::T=>by rw[kI,kI,QQ m c T];grind
theorem QO:∀T:Tb,lf (λ_=>0) T=0
 | []=>rfl
 | e::T=>by rw[kI,QO T];grind
theorem IC(m:Int->Int->Rat)(B:Tb):∀A:Tb,lf (λa=>lf (λb=>m a b) B) A=lf (λb=>lf (λa=>m a b) A) B
 | []=>(QO B).symm
 | e::A=>by
  rw[kI,IC m B A];let:(λb=>lf (λa=>m a b) (e::A))=λb=>m e.1 b*e.2+lf (λa=>m a b) A:=by funext b;rw[kI,Rat.mul_comm]
  rw[this,QP,QQ,Rat.mul_comm]
def dl(k j:Int):Rat:=if j=k then 1 else 0
theorem wK{k:Int} :∀{T:Tb},#[75].Nodup->lf (dl k) T=tv T k
 | [],_=>rfl
 | e::T,nd=>by
  rw[nH,List.nodup_cons]at nd;rw[kI,kY,wK nd.2];unfold dl;by_cases q:e.1=k
  .rw[tO q,tO q,xD (by rw[<-q];exact nd.1)]
   grind
  .rw[tN q,tN q]
   grind
def sk(f:Int->Rat):List Int->Rat
 | []=>0
 | k::K=>f k+sk f K
theorem OQ(f g:Int->Rat):∀K,sk (λk=>f k+g k) K=sk f K+sk g K
 | []=>(nU _).symm
 | k::K=>by show f k+g k+sk _ K=f k+sk f K+(g k+sk g K);rw[OQ f g K];grind
theorem WB{f:Int->Rat}{j:Int} :∀{K:List Int},j∈K->K.Nodup->(∀k,k≠j->f k=0)->sk f K=f j
 | [],h,_,_=>nomatch h
 | k::K,h,nd,z=>by
  rw[List.nodup_cons]at nd;show f k+sk f K=_;by_cases q:k=j
  .subst q;let:∀{K:List Int},k∉K->sk f K=0:=fun {K} =>by
    induction K with
    | nil=>exact λ_=>rfl
    | cons a K ih=>intro h;show f a+sk f K=0;rw[ih λy=>h (gM _ y),z a (λy=>h (y▸hU ..)),nU]
   rw[this nd.1,nV]
  .rw[z k q,nU];exact WB ((nI.mp h).resolve_left (Ne.symm q)) nd.2 z
theorem OP{f:Int->Rat}(z:∀k,f k=0):∀K:List Int,sk f K=0
 | []=>rfl
 | k::K=>by show f k+sk f K=0;rw[z,OP z K,nU]
theorem ID{m:Int->Rat}{K:List Int}(nK:K.Nodup):∀{T:Tb},#[75].Nodup->(∀e∈T,e.1∈K)->lf m T=sk (λk=>tv T k*m k) K
 | [],_,_=>(OP (λk=>nW _) K).symm
 | e::T,nd,h=>by
  rw[nH,List.nodup_cons]at nd;let ih:=ID (m:=m) nK nd.2 λe' he=>h e' (gM _ he);let:(λk=>tv (e::T) k*m k)=λk=>(if k=e.1 then e.2*m k else 0)+tv T k*m k:=by
   funext k
   rw[kY];by_cases q:e.1=k
   .rw[tO q,tO q.symm,xD (T:=T) (by rw[<-q];exact nd.1)]
    grind
   .rw[tN q,tN (Ne.symm q)]
    grind
  rw[kI,ih,this,OQ,WB (h e (hU ..)) nK λk q=>tN q,tO rfl]
theorem lf_ext{m:Int->Rat}{A B:Tb}(nA:#[76].Nodup)(nB:(B.map (·.1)).Nodup)(h:∀k,tv A k=tv B k):lf m A=lf m B:=by
 let nK:(A.map (·.1)++(B.map (·.1)).filter λk=>decide (k∉A.map (·.1))).Nodup:=by
  rw[mH];refine{nA,nB.filter _,λa ha b hb=>?_};rintro rfl;exact mG (List.mem_filter.mp hb).2 ha
 rw[ID nK nA λe he=>List.mem_append_left _ (List.mem_map_of_mem he),ID nK nB λe he=>?_]
 .congr 1
  funext k
  rw[h]
 .by_cases q:e.1∈A.map (·.1)
  .exact List.mem_append_left _ q
  .exact gH _ (List.mem_filter.mpr {List.mem_map_of_mem he,mW q})
theorem lf_ov{m:Int->Rat}{D:Int}{n:Nat}(hD:0<D):∀{T:Tb},(∀e∈T,Ov D n (e.2*m e.1))->∃z:Int,lf m T=fv z D/\z.natAbs<=T.length*2^n
 | [],_=>{0,(show(0:Rat)=_ by unfold fv;rw[show((0:Int):Rat)=0 from rfl,tH,nW]),tF _}
 | e::T,h=>by
  obtain⟨z,e1,h1⟩:=lf_ov hD λe' he=>h e' (gM _ he);obtain⟨y,e2,h2⟩:=(h e (hU ..)).ex;refine{y+z,by rw[kI,e1,e2,RN hD], ?_};rw[mN,Nat.succ_mul];omega
theorem lf_ov2{m:Int->Rat}{D:Int}{n c:Nat}(hD:0<D){T:Tb}(h:∀e∈T,Ov D n (e.2*m e.1))(l:T.length<=2^c):Ov D (n+c) (lf m T):=by
 obtain⟨z,e,hz⟩:=lf_ov hD h;refine{z,e,nQ hz ?_};rw[Nat.add_comm,Nat.pow_add];exact gR _ l
theorem tv_mul{A B:Tb}(nA:#[76].Nodup)(k:Int):tv (xL A B) k=lf (λb=>tv A (k-b)) B:=by
 rw[<-wK (uI A B).nd,AV,IC];refine zS λb _=>?_;rw[<-wK nA];refine zS λa _=>?_;unfold dl;by_cases q:a.1+b.1=k
 .rw[tO q,tO (by omega)]
 .rw[tN q,tN (by omega)]
theorem FE{D:Int}{n:Nat}(h:∀e∈T,Ov D n e.2)(k:Int):Ov D n (tv T k):=by
 rcases tv_in (T:=T) (k:=k)with z | ⟨e,he,z⟩
 .rw[z];exact .zero _ _
 .rw[<-z];exact h e he
theorem ov_mul{A B:Tb}{D E:Int}{n m c:Nat}(nA:#[76].Nodup)(hD:0<D)(hE:0<E)(hA:∀e∈A,Ov D n e.2)(hB:∀e∈B,Ov E m e.2)(l:B.length<=2^c)(k:Int):Ov (D*E) (n+m+c) (tv (xL A B) k):=by
 rw[tv_mul nA];refine lf_ov2 (tG hD hE) (λe he=>?_) l;rw[Rat.mul_comm];exact(FE hA _).mul (hB e he) hD hE
def el(L:List Int->Rat):Pl->Rat
 | []=>0
 | x::P=>x.2*L x.1+el L P
theorem kZ(L:List Int->Rat)(x:List Int×Rat)(P:Pl):el L (x::P)=x.2*L x.1+el L P:=rfl
theorem yV{L ν:List Int->Rat} :∀{P:Pl},(∀x∈P,L x.1=ν x.1)->el L P=el ν P
 | [],_=>rfl
 | x::P,h=>by rw[kZ,kZ,h x (hU ..),yV λy hy=>h y (gM _ hy)]
theorem RS(L ν:List Int->Rat):∀P:Pl,el (λn=>L n+ν n) P=el L P+el ν P
 | []=>(nU _).symm
 | x::P=>by rw[kZ,kZ,kZ,RS L ν P];grind
theorem RU(L:List Int->Rat)(c:Rat):∀P:Pl,el (λn=>L n*c) P=el L P*c
 | []=>(nW _).symm
 | x::P=>by rw[kZ,kZ,RU L c P];grind
theorem NF(m:Int->Rat):∀P:Pl,lf m (kH P)=el (λn=>m (pk n)) P
 | []=>rfl
 | x::P=>by show x.2*m (pk x.1)+lf m (kH P)=_;rw[NF m P];rfl
def KyD(ad d:Nat)(k:Int):Prop:=∃ns:List Int,ns.length=ad/\(∀n∈ns,0<=n)/\ns.sum<=d/\k=pk ns
theorem KyD.up{ad d e:Nat}{k:Int}(h:KyD ad d k)(l:d<=e):KyD ad e k:=let ⟨ns,h1,h2,h3,h4⟩:=h;{ns,h1,h2,∎,h4}
theorem KyD.add{ad d e:Nat}{j k:Int}(h:KyD ad d j)(h':KyD ad e k):KyD ad (d+e) (j+k):=by
 obtain⟨a,a1,a2,a3,rfl⟩:=h;obtain⟨b,b1,b2,b3,rfl⟩:=h';refine{zP a b,by unfold zP;rw[List.length_zipWith];∎,uF a2 b2, ?_,(MV ad a1 b1).symm};rw[yM ∎]
 ∎
theorem KyD.kp{ad d:Nat}{k:Int}(h:KyD ad d k)(l:d<=16):KyP ad k:=let ⟨ns,h1,h2,h3,h4⟩:=h;{ns,h1,h2,∎,h4}
theorem KyD.small{ad d:Nat}{k:Int}(h:KyD ad d k)(l:d<=16)(m4:ad<=4):k.natAbs<2^40:=by
 obtain⟨ns,h1,h2,h3,rfl⟩:=h;exact jQ (DH (yA h2 ∎) ∎) #[0]
theorem LE{f:Int->List Int}{c:Nat} :∀{l:List Int},(∀x∈l,(f x).length<=c)->(l.flatMap f).length<=l.length*c
 | [],_=>tF _
 | x::l,h=>by
  rw[List.flatMap_cons,List.length_append,mN,Nat.succ_mul];let:=h x (hU ..);let:=LE (l:=l) λy hy=>h y (gM _ hy)
  ∎
theorem DO:∀{l m:List Int},l.Nodup->(∀x∈l,x∈m)->l.length<=m.length
 | [],_,_,_=>tF _
 | a::l,m,nd,h=>by
  rw[List.nodup_cons]at nd;let ha:=h a (hU ..);let ih:=DO (l:=l) (m:=m.erase a) nd.2 λx hx=>(List.mem_erase_of_ne (λz:x=a=>nd.1 (z▸hx))).mpr (h x (gM _ hx));rw[List.length_erase_of_mem ha]at ih;let:=List.length_pos_of_mem ha;rw[mN]
  ∎
def allK:Nat->List Int
 | 0=>[0]
 | n+1=>(allK n).flatMap λk=>(List.range 17).map λ(i:Nat)=>k*256+(i:Int)
theorem EN:∀n,(allK n).length<=17^n
 | 0=>tE _
 | n+1=>by
  rw[Nat.pow_succ];exact nQ (LE (c:=17) λk _=>by rw[mS,List.length_range];exact tE _) (gR _ (EN n))
theorem LV:∀(n:Nat) (ns:List Int),ns.length=n->(∀x∈ns,0<=x/\x<=16)->pk ns∈allK n
 | 0,[],_,_=>hU ..
 | n+1,ns,hl,h=>by
  let ne:ns≠[]:=λz=>by rw[z]at hl;cases hl
  let e:=List.dropLast_concat_getLast ne;rw[<-e,xH];let hx:=h _ (List.getLast_mem ne);refine List.mem_flatMap.mpr {pk ns.dropLast,LV n _ (by rw[List.length_dropLast];∎) (λx hx=>h x (List.dropLast_subset _ hx)),nT.mpr {(ns.getLast ne).toNat,mX.mpr ∎,∎}}
theorem KyD.mem{ad d:Nat}{k:Int}(h:KyD ad d k)(l:d<=16):k∈allK ad:=by
 obtain⟨ns,h1,h2,h3,rfl⟩:=h;refine LV ad ns h1 λx hx=>{h2 x hx, ?_};let:=(vR h2 hx).1
 ∎
structure PT(ad:Nat)(E:Int)(N d:Nat)(A:Tb):Prop where
 nd:#[76].Nodup
 ky:∀k∈A.map (·.1),KyD ad d k
 vl:∀e∈A,Ov E N e.2
theorem PT.nil{ad:Nat}{E:Int}{N d:Nat} :PT ad E N d []:={mZ,λ_ h=>(nomatch h),λ_ h=>(nomatch h)}
theorem PT.ln{ad:Nat}{E:Int}{N d:Nat}{A:Tb}(h:PT ad E N d A)(l:d<=16)(m4:ad<=4):A.length<=83521:=by
 let:=DO h.nd λk hk=>(h.ky k hk).mem l;rw[mS]at this;exact nQ (nQ this (EN ad)) (nQ (gO (n:=17) #[0] m4) #[0])
structure TdO(ad:Nat)(D2:Int)(s e:Nat)(Td:Tb):Prop where
 nd:(Td.map (·.1)).Nodup
 ln:Td.length<=2^5
 vl:∃n c,n+c<=s/\Td.length<=2^c/\∀x∈Td,Ov D2 n x.2
 ky:∀k∈Td.map (·.1),KyD ad e k
theorem PT.mul{ad:Nat}{E D2:Int}{N d e s:Nat}(h:PT ad E N d A)(o:TdO ad D2 s e Td)(hE:0<E)(hD:0<D2):PT ad (E*D2) (N+s) (d+e) (xL A Td):=by
 let a:=uI A Td;obtain⟨n,c,l,ln,vl⟩:=o.vl;refine{a.nd,λk hk=>?_,λe he=>?_}
 .obtain⟨e1,h1,e2,h2,rfl⟩:=a.ks k hk;exact(h.ky _ (List.mem_map_of_mem h1)).add (o.ky _ (List.mem_map_of_mem h2))
 .rw[tv_at a.nd he];exact(ov_mul h.nd hE hD h.vl vl (c:=c) ln _).up ∎
theorem PT.scale{ad:Nat}{E c:Int}{N d k:Nat}(h:PT ad E N d A)(hE:0<E)(hc:0<c)(hk:c.natAbs<=2^k):PT ad (E*c) (N+k) d A:={h.nd,h.ky,λe he=>(h.vl e he).scale hE hc hk}
theorem PT.add{ad:Nat}{E:Int}{N d:Nat}(h:PT ad E N d A)(k:PT ad E N d B)(hE:0<E):PT ad E (N+1) d (ET A B):=by
 let a:=NY h.nd k.nd;refine{a.nd,λj hj=>(a.ks j hj).elim (h.ky j) (k.ky j),λe he=>?_};rw[tv_at a.nd he,a.vl];exact(FE h.vl _).add (FE k.vl _) hE
theorem PT.mono{ad:Nat}{E:Int}{N N' d d':Nat}(h:PT ad E N d A)(hN:N<=N')(hd:d<=d'):PT ad E N' d' A:={h.nd,λk hk=>(h.ky k hk).up hd,λe he=>(h.vl e he).up hN}
def wz(ns es:List Int):Int:=(List.zipWith (· * ·) ns es).sum
theorem GB{ns es:List Int}{l:Nat}(h:l<ns.length)(k:l<es.length):wz (ns.drop l) (es.drop l)=ns.getD l 0*es.getD l 0+wz (ns.drop (l+1)) (es.drop (l+1)):=by
 unfold wz;rw[List.drop_eq_getElem_cons h,List.drop_eq_getElem_cons k,List.zipWith_cons_cons,nM,uT,uY h,uT,uY k]
 rfl
theorem IP:∀{ns es:List Int},(∀n∈ns,0<=n)->(∀e∈es,0<=e)->0<=wz ns es
 | [],_,_,_=>tJ _
 | _::_,[],_,_=>tJ _
 | n::ns,e::es,h,k=>by
  let:=IP (ns:=ns) (es:=es) (λn hn=>h n (gM _ hn)) λe he=>k e (gM _ he);let:=Int.mul_nonneg (h n (hU ..)) (k e (hU ..));show 0<=n*e+wz ns es
  ∎
structure Par where
 D1:Int
 D:Nat->Int
 M:Nat->Nat
 N:Nat
 b:Nat
 s:Nat
 r:Nat
structure ParOk(U:Par):Prop where
 p1:0<U.D1
 p2:∀j,0<U.D j
 b1:U.D1.natAbs<=2^U.b
 b2:∀j,(U.D j).natAbs<=2^U.r
 rs:U.r<=U.s+1
 r4:U.r<1400
 s4:U.s<2400
structure StL(U:Par)(es:List Int)(l dw:Nat)(P:Pl):Prop where
 len:∀x∈P,x.1.length=es.length
 nn:∀x∈P,∀n∈x.1,0<=n
 pm:∀x∈P,∀j,(x.1.getD j 0).toNat<=U.M j
 wg:∀x∈P,wz (x.1.drop l) (es.drop l)<=dw
 cf:∀x∈P,Ov U.D1 U.N x.2
 en:∀e∈es,0<=e
def eN(es:List Int)(l:Nat):Nat:=(es.getD l 0).toNat
theorem StL.pw{U:Par}{es:List Int}{l dw:Nat}{P:Pl}(h:StL U es l dw P)(hl:l<es.length){x:List Int×Rat}(hx:x∈P):0<=x.1.getD l 0/\x.1.getD l 0*es.getD l 0+wz (x.1.drop (l+1)) (es.drop (l+1))<=dw/\0<=wz (x.1.drop (l+1)) (es.drop (l+1)):=by
 let lx:l<x.1.length:=by rw[h.len x hx];exact hl
 let ds:=AD lx (h.nn x hx);let q:=h.wg x hx;rw[GB lx hl]at q;exact{ds.2.1,q,IP (λn hn=>h.nn x hx n (List.mem_of_mem_drop hn)) λe he=>h.en e (List.mem_of_mem_drop he)}
theorem ZS{es:List Int}(en:∀e∈es,0<=e)(l:Nat):(eN es l:Int)=es.getD l 0:=by
 unfold eN;let:0<=es.getD l 0:=by
  rw[uT];cases h:es[l]? with
  | none=>exact tJ _
  | some e=>exact en e (gL h)
 ∎
theorem StL.next{U:Par}{es:List Int}{l dw p:Nat}{P:Pl}(h:StL U es l dw P)(hl:l<es.length):StL U es (l+1) (dw-p*eN es l) (vC P l (p:Int)):=by
 refine{λx hx=>h.len x (part_mem.mp hx).1,λx hx=>h.nn x (part_mem.mp hx).1,λx hx=>h.pm x (part_mem.mp hx).1,λx hx=>?_,λx hx=>h.cf x (part_mem.mp hx).1,h.en};obtain⟨h1,h2⟩:=part_mem.mp hx;let:=h.pw hl h1;rw[h2,<-ZS h.en l,<-Int.natCast_mul]at this;generalize p*eN es l=q at this ⊢
 ∎
theorem mx_nn(P:Pl)(l:Nat):0<=mxP P l:=by
 let:∀m:List Int,0<=m.foldr max 0:=λm=>by
  induction m with
  | nil=>exact tJ _
  | cons a m ih=>show 0<=max a (m.foldr max 0);∎
 exact this _
theorem LD:∀m:List Int,m.foldr max 0=0∨m.foldr max 0∈m
 | []=>.inl rfl
 | a::m=>by
  show max a (m.foldr max 0)=0∨max a (m.foldr max 0)∈a::m;rcases LD m with z | z
  .rw[z];by_cases q:a<=0
   .exact .inl ∎
   .exact .inr (by rw[show max a 0=a by ∎];exact hU ..)
  .by_cases q:a<=m.foldr max 0
   .exact .inr (by rw[show max a (m.foldr max 0)=m.foldr max 0 by ∎];exact gM _ z)
   .exact .inr (by rw[show max a (m.foldr max 0)=a by ∎];exact hU ..)
theorem StL.mx{U:Par}{es:List Int}{l dw:Nat}{P:Pl}(h:StL U es l dw P)(hl:l<es.length):(mxP P l).toNat<=U.M l/\(mxP P l).toNat*eN es l<=dw:=by
 rcases LD (P.map λx=>x.1.getD l 0)with z | z
 .have z:mxP P l=0:=z;rw[z];exact{tF _,by show 0*_<=_;∎}
 .obtain⟨x,hx,e⟩:=nT.mp z;let e:x.1.getD l 0=mxP P l:=e;let q:=h.pw hl hx;let pm:=h.pm x hx l;rw[e]at pm;rw[e,<-ZS h.en l]at q;let m0:=mx_nn P l;let cc:((mxP P l).toNat:Int)=mxP P l:=∎
  rw[<-cc,<-Int.natCast_mul]at q;generalize (mxP P l).toNat*eN es l=y at q ⊢
  ∎
theorem uB{a:Int}{k:Nat}(h:a.natAbs<=2^k):∀n,(a^n).natAbs<=2^(k*n)
 | 0=>by simp
 | n+1=>by
  rw[Int.pow_succ,Int.natAbs_mul,Nat.mul_succ,Nat.pow_add];exact mY (uB h n) h
def gB(U:Par):Nat->Nat->Int
 | 0,_=>U.D1
 | n+1,l=>gB U n (l+1)*U.D l^U.M l
def gE(U:Par):Nat->Nat->Nat
 | 0,_=>U.b
 | n+1,l=>gE U n (l+1)+U.r*U.M l
def gN(U:Par):Nat->Nat->Nat
 | 0,_=>U.N
 | n+1,l=>gN U n (l+1)+U.M l*(U.s+1)+1
abbrev aB(U:Par)(n l t:Nat):Int:=gB U n (l+1)*U.D l^(U.M l-t)
abbrev aN(U:Par)(n l t:Nat):Nat:=gN U n (l+1)+(U.M l-t)*(U.s+1)
theorem LB(ok:ParOk U):∀n l,0<gB U n l/\(gB U n l).natAbs<=2^gE U n l
 | 0,_=>{ok.p1,(ok.b1)}
 | n+1,l=>by
  let h:=LB ok n (l+1);refine{tG h.1 (Int.pow_pos (ok.p2 l)), ?_};show(gB U n (l+1)*U.D l^U.M l).natAbs<=2^(gE U n (l+1)+U.r*U.M l);rw[Int.natAbs_mul,Nat.pow_add];exact mY h.2 (uB (ok.b2 l) _)
theorem SK(ok:ParOk U)(n l t:Nat):0<aB U n l t/\(aB U n l t).natAbs<=2^gE U (n+1) l:=by
 let h:=LB ok n (l+1);refine{tG h.1 (Int.pow_pos (ok.p2 l)), ?_};rw[Int.natAbs_mul];let:=mY h.2 (uB (ok.b2 l) (U.M l-t));rw[<-Nat.pow_add]at this;exact nQ this (gO #[0] (Nat.add_le_add_left (gW _ (Nat.sub_le ..)) _))
theorem aN_le(U:Par)(n l t:Nat):aN U n l t+1<=gN U (n+1) l:=by
 let:=gR (U.s+1) (Nat.sub_le (U.M l) t);show gN U n (l+1)+(U.M l-t)*(U.s+1)+1<=gN U n (l+1)+U.M l*(U.s+1)+1
 ∎
section
variable{ad:Nat}{U:Par}{Td:Nat->Tb}{es:List Int}
structure AccOk(ad:Nat)(U:Par)(Td:Nat->Tb)(es:List Int)(n l dw t:Nat)(A:Tb):Prop where
 a:PT ad (aB U n l (t+1)) (aN U n l (t+1)+1) (dw-(t+1)*eN es l) A
 m:PT ad (aB U n l t) (aN U n l t) (dw-t*eN es l) (xL A (Td l))
theorem acc_mul(ok:ParOk U){n l dw t:Nat}(o:TdO ad (U.D l) U.s (eN es l) (Td l))(ht:t+1<=U.M l)(hw:(t+1)*eN es l<=dw)(a:PT ad (aB U n l (t+1)) (aN U n l (t+1)+1) (dw-(t+1)*eN es l) A):PT ad (aB U n l t) (aN U n l t) (dw-t*eN es l) (xL A (Td l)):=by
 let:=a.mul o (SK ok n l (t+1)).1 (ok.p2 l);let e:aB U n l (t+1)*U.D l=aB U n l t:=by
  show gB U n (l+1)*U.D l^(U.M l-(t+1))*U.D l=gB U n (l+1)*U.D l^(U.M l-t);rw[show U.M l-t=U.M l-(t+1)+1 by ∎,Int.pow_succ,Int.mul_assoc]
 rw[e]at this;refine this.mono ?_ ?_
 .show gN U n (l+1)+(U.M l-(t+1))*(U.s+1)+1+U.s<=gN U n (l+1)+(U.M l-t)*(U.s+1);rw[show U.M l-t=U.M l-(t+1)+1 by ∎,Nat.succ_mul]
  ∎
 .rw[Nat.succ_mul]at hw ⊢;generalize t*eN es l=q at hw ⊢
  ∎
theorem acc_ok(ok:ParOk U){n l dw M:Nat}{P:Pl}(o:TdO ad (U.D l) U.s (eN es l) (Td l))(hM:M<=U.M l)(hW:M*eN es l<=dw)(rec:Pl->Tb)(hr:∀t:Nat,t<=M->PT ad (gB U n (l+1)) (gN U n (l+1)) (dw-t*eN es l) (rec (vC P l (t:Int)))) :
  ∀i,i<=M->AccOk ad U Td es n l dw (M-i) (AK (xT (Td l) rec P l) M i)/\PT ad (aB U n l (M-i)) (aN U n l (M-i)+1) (dw-(M-i)*eN es l) (AK (xT (Td l) rec P l) M (i+1)):=by
 let step:∀(i:Nat) (A:Tb),i<=M->PT ad (aB U n l (M-i)) (aN U n l (M-i)) (dw-(M-i)*eN es l) (xL A (Td l))->PT ad (aB U n l (M-i)) (aN U n l (M-i)+1) (dw-(M-i)*eN es l) (xT (Td l) rec P l ((M:Int)-i) A):=by
  intro i A hi m;rw[show(M:Int)-i=((M-i:Nat):Int) by ∎];unfold xT;split
  .exact m.mono (Nat.le_succ _) uP 
  .refine m.add (((hr (M-i) ∎).scale (LB ok _ _).1 (Int.pow_pos (ok.p2 l)) (uB (ok.b2 l) _)).mono (Nat.add_le_add_left ?_ _) uP) (SK ok n l _).1;rw[Nat.mul_comm];exact gW _ ok.rs
 intro i;induction i with
 | zero=>
  intro hi;exact{{.nil,(.nil)},step 0 [] hi .nil}
 | succ i ih=>
  intro hi;obtain⟨_,a⟩:=ih ∎;rw[show M-i=M-(i+1)+1 by ∎]at a;let m:=acc_mul ok o (show M-(i+1)+1<=U.M l by ∎) (nQ (gR _ (show M-(i+1)+1<=M by ∎)) hW) a;exact{{a,(m)},step (i+1) _ hi m}
theorem DF(ok:ParOk U)(o:∀j,j<es.length->TdO ad (U.D j) U.s (eN es j) (Td j))(m0:KyD ad 0 0):∀(n l dw:Nat) (P:Pl),l+n=es.length->StL U es l dw P->PT ad (gB U n l) (gN U n l) dw (xE Td n l P)
 | 0,_,_,[],_,_=>.nil
 | 0,l,dw,x::P,_,h=>by
  refine{by simp [xE],λk hk=>?_,λe he=>?_}
  .rw[show k=0 by simpa [xE]using hk];exact m0.up (tF _)
  .rw[show e=(0,x.2) by simpa [xE]using he];exact h.cf x (hU ..)
 | n+1,l,dw,P,hn,h=>by
  let hM:=h.mx (show l<es.length by ∎);let:=(acc_ok ok (o l ∎) hM.1 hM.2 (xE Td n (l+1)) (λt _=>DF ok o m0 n (l+1) (dw-t*eN es l) (vC P l (t:Int)) ∎ (h.next ∎)) (mxP P l).toNat uP).2;rw[Nat.sub_self,Nat.zero_mul,Nat.sub_zero]at this;exact this
end
structure Agr(L l:Nat)(P:Pl):Prop where
 nd:(P.map (·.1)).Nodup
 len:∀x∈P,x.1.length=L
 nn:∀x∈P,∀n∈x.1,0<=n
 ag:∀x∈P,∀y∈P,x.1.take l=y.1.take l
theorem Agr.next{L l:Nat}{p:Int}{P:Pl}(h:Agr L l P)(hl:l<L):Agr L (l+1) (vC P l p):=by
 refine{List.Sublist.nodup (List.Sublist.map (λx:List Int×Rat=>x.1) (List.filter_sublist (l:=P))) h.nd,λx hx=>h.len x (part_mem.mp hx).1,λx hx=>h.nn x (part_mem.mp hx).1,λx hx y hy=>?_};obtain⟨x1,x2⟩:=part_mem.mp hx;obtain⟨y1,y2⟩:=part_mem.mp hy;rw[mD,mD,h.ag x x1 y y1,CK (show l<x.1.length by rw[h.len x x1];exact hl),CK (show l<y.1.length by rw[h.len y y1];exact hl),x2,y2]
abbrev pwN(ns:List Int)(l:Nat):Nat:=(ns.getD l 0).toNat
theorem RT(L:List Int->Rat){l t:Nat} :∀{P:Pl},(∀x∈P,0<=x.1.getD l 0)->el L (vC P l (t:Int))=el (λns=>if pwN ns l=t then L ns else 0) P
 | [],_=>rfl
 | x::P,h=>by
  let ih:=RT L (l:=l) (t:=t) (P:=P) λy hy=>h y (gM _ hy);let hx:=h x (hU ..);unfold vC at ih ⊢;rw[kZ];by_cases c:x.1.getD l 0=(t:Int)
  .rw[List.filter_cons_of_pos (p:=λx:List Int×Rat=>decide (x.1.getD l 0=(t:Int))) (mW c),kZ,ih,tO (show pwN x.1 l=t by unfold pwN;∎)]
  .rw[List.filter_cons_of_neg (p:=λx:List Int×Rat=>decide (x.1.getD l 0=(t:Int))) (λy=>c (mG y)),ih,tN (show pwN x.1 l≠t by unfold pwN;∎),Rat.mul_zero,nU]
def sh(T:Tb)(L:Int->Rat):Int->Rat:=λk=>lf (λj=>L (k+j)) T
def shp(T:Tb):Nat->(Int->Rat)->Int->Rat
 | 0,L=>L
 | p+1,L=>shp T p (sh T L)
def pws(Td:Nat->Tb):Nat->Nat->List Int->(Int->Rat)->Rat
 | 0,_,_,L=>L 0
 | n+1,l,ns,L=>pws Td n (l+1) ns (shp (Td l) (pwN ns l) L)
def thr(g:List Int->(Int->Rat)->Rat)(T:Tb)(l t:Nat)(L:Int->Rat)(ns:List Int):Rat:=if t<=pwN ns l then g ns (shp T (pwN ns l-t) L)else 0
theorem VS(g:List Int->(Int->Rat)->Rat)(T:Tb)(l t:Nat)(L:Int->Rat)(ns:List Int):thr g T l t L ns=thr g T l (t+1) (sh T L) ns+if pwN ns l=t then g ns L else 0:=by
 unfold thr;by_cases c:t+1<=pwN ns l
 .rw[tO c,tO (show t<=pwN ns l by ∎),tN (show pwN ns l≠t by ∎),show pwN ns l-t=pwN ns l-(t+1)+1 by ∎,nV]
  rfl
 .rw[tN c];by_cases d:pwN ns l=t
  .rw[tO d,tO ∎,d,Nat.sub_self,nU]
   rfl
  .rw[tN d,tN ∎,nU]
theorem acc_lf{T:Tb}{l M:Nat}{P:Pl}(rec:Pl->Tb)(g:List Int->(Int->Rat)->Rat)(nn:∀x∈P,0<=x.1.getD l 0/\pwN x.1 l<=M)
  (hr:∀(t:Nat) (L:Int->Rat),t<=M->lf L (rec (vC P l (t:Int)))=el (λns=>g ns L) (vC P l (t:Int))) :
  ∀(i:Nat) (L:Int->Rat),i<=M+1->lf L (AK (xT T rec P l) M i)=el (thr g T l (M+1-i) L) P:=by
 intro i;induction i with
 | zero=>
  intro L _;show(0:Rat)=_;rw[yV (ν:=λ_=>(0:Rat)*0) λx hx=>by
   let:=(nn x hx).2;unfold thr;rw[tN ∎,Rat.mul_zero],RU,Rat.mul_zero]
 | succ i ih=>
  intro L hi;let v:lf L (xL (AK (xT T rec P l) M i) T)=el (thr g T l (M+1-i) (sh T L)) P:=by
   rw[AV];exact ih (sh T L) ∎
  show lf L (xT T rec P l ((M:Int)-i) (AK (xT T rec P l) M i))=_;let e:thr g T l (M+1-(i+1)) L=λns=>thr g T l (M+1-i) (sh T L) ns+if pwN ns l=M-i then g ns L else 0:=by
   funext ns
   rw[show M+1-(i+1)=M-i by ∎,VS,show M-i+1=M+1-i by ∎]
  rw[e,RS,<-RT (λns=>g ns L) λx hx=>(nn x hx).1,show(M:Int)-i=((M-i:Nat):Int) by ∎];clear ih;generalize AK (xT T rec P l) M i=A at v ⊢;unfold xT;split
  .rename_i z;rw[v,z];exact(nV _).symm
  .rw[YJ _ _ (uI _ _).nd,v,hr (M-i) L ∎]
theorem pw_le(P:Pl)(l:Nat){x:List Int×Rat}(hx:x∈P):pwN x.1 l<=(mxP P l).toNat:=by
 let:x.1.getD l 0<=mxP P l:=yS (List.mem_map_of_mem (f:=λx:List Int×Rat=>x.1.getD l 0) hx);show(x.1.getD l 0).toNat<=_
 ∎
theorem WQ{Td:Nat->Tb}{L:Nat} :∀(n l:Nat) (P:Pl) (μ:Int->Rat),l+n=L->Agr L l P->lf μ (xE Td n l P)=el (λns=>pws Td n l ns μ) P
 | 0,_,[],_,_,_=>rfl
 | 0,l,x::P,μ,hn,ag=>by
  let:P=[]:=by
   match P,ag with
   | [],_=>rfl
   | y::P,ag=>
    let e:=ag.ag x (hU ..) y (gM _ (hU ..));let lx:=ag.len x (hU ..);let ly:=ag.len y (gM _ (hU ..));rw[gD ∎,gD ∎]at e;let:=ag.nd;rw[nH,List.nodup_cons]at this;exact absurd (by rw[e];exact hU ..) this.1
  subst this
  rfl
 | n+1,l,P,μ,hn,h=>by
  let:=acc_lf (T:=Td l) (P:=P) (l:=l) (M:=(mxP P l).toNat) (xE Td n (l+1)) (λns μ=>pws Td n (l+1) ns μ) (λx hx=>⟨by
   rw[uT,uY (show l<x.1.length by rw[h.len x hx];∎)];exact h.nn x hx _ (mO _),pw_le P l hx⟩) (λt μ _=>WQ n (l+1) (vC P l (t:Int)) μ ∎ (h.next ∎)) ((mxP P l).toNat+1) μ uP 
  rw[Nat.sub_self]at this;show lf μ (AK _ (mxP P l).toNat ((mxP P l).toNat+1))=_;rw[this];refine yV λx hx=>?_;unfold thr;rw[tO (tF _),Nat.sub_zero]
  rfl
theorem sh_comm(S T:Tb)(L:Int->Rat):sh S (sh T L)=sh T (sh S L):=by
 funext k
 show lf (λj=>lf (λi=>L (k+j+i)) T) S=lf (λj=>lf (λi=>L (k+j+i)) S) T;rw[IC];refine zS λb _=>zS λa _=>?_;rw[Int.add_right_comm]
theorem WC(S T:Tb):∀(p:Nat) (L:Int->Rat),shp T p (sh S L)=sh S (shp T p L)
 | 0,_=>rfl
 | p+1,L=>by
  show shp T p (sh T (sh S L))=sh S (shp T p (sh T L));rw[sh_comm,WC S T p]
theorem JI(S T:Tb):∀(p q:Nat) (L:Int->Rat),shp T p (shp S q L)=shp S q (shp T p L)
 | _,0,_=>rfl
 | p,q+1,L=>by
  show shp T p (shp S q (sh S L))=shp S q (sh S (shp T p L));rw[JI S T p q,WC]
def DR(A T:Tb):Nat->Tb
 | 0=>A
 | p+1=>xL (DR A T p) T
theorem QS(A T:Tb):∀(p:Nat) (L:Int->Rat),lf L (DR A T p)=lf (shp T p L) A
 | 0,_=>rfl
 | p+1,L=>by
  show lf L (xL (DR A T p) T)=_;rw[AV];exact QS A T p (sh T L)
def AU(Td:Nat->Tb)(ns:List Int)(c:Rat):Nat->Tb
 | 0=>[(0,c)]
 | l+1=>DR (AU Td ns c l) (Td l) (pwN ns l)
def pwr(Td:Nat->Tb)(ns:List Int):Nat->(Int->Rat)->Int->Rat
 | 0,L=>L
 | l+1,L=>pwr Td ns l (shp (Td l) (pwN ns l) L)
theorem KM(Td:Nat->Tb)(ns:List Int)(c:Rat):∀(l:Nat) (L:Int->Rat),lf L (AU Td ns c l)=c*pwr Td ns l L 0
 | 0,L=>by show c*L 0+0=_;rw[nV];rfl
 | l+1,L=>by
  show lf L (DR (AU Td ns c l) (Td l) (pwN ns l))=_;rw[QS,KM Td ns c l]
  rfl
theorem PD(Td:Nat->Tb)(ns:List Int)(S:Tb)(q:Nat):∀(l:Nat) (L:Int->Rat),pwr Td ns l (shp S q L)=shp S q (pwr Td ns l L)
 | 0,_=>rfl
 | l+1,L=>by
  show pwr Td ns l (shp (Td l) (pwN ns l) (shp S q L))=shp S q (pwr Td ns l (shp (Td l) (pwN ns l) L));rw[JI S (Td l),PD Td ns S q l]
theorem PB(Td:Nat->Tb)(ns:List Int):∀(n l:Nat) (L:Int->Rat),pws Td n l ns (pwr Td ns l L)=pwr Td ns (l+n) L 0
 | 0,_,_=>rfl
 | n+1,l,L=>by
  show pws Td n (l+1) ns (shp (Td l) (pwN ns l) (pwr Td ns l L))=_;rw[<-PD];let:=PB Td ns n (l+1) L;rw[show l+(n+1)=l+1+n by ∎,<-this]
  rfl
def zL(Td:Nat->Tb)(L:Nat)(P:Pl):Tb:=P.foldl (λA x=>ET A (AU Td x.1 x.2 L)) []
theorem mulN_nd{A T:Tb}(nd:#[76].Nodup):∀p,((DR A T p).map (·.1)).Nodup
 | 0=>nd
 | _+1=>(uI _ _).nd
theorem QK(Td:Nat->Tb)(ns:List Int)(c:Rat):∀l,((AU Td ns c l).map (·.1)).Nodup
 | 0=>by simp [AU]
 | l+1=>mulN_nd (QK Td ns c l) _
theorem CH(Td:Nat->Tb)(L:Nat)(μ:Int->Rat):∀(P:Pl) {A:Tb},#[76].Nodup->lf μ (P.foldl (λA x=>ET A (AU Td x.1 x.2 L)) A)=lf μ A+el (λns=>pws Td L 0 ns μ) P/\((P.foldl (λA x=>ET A (AU Td x.1 x.2 L)) A).map (·.1)).Nodup
 | [],A,nd=>{(nV _).symm,nd}
 | x::P,A,nd=>by
  let n2:=(NY nd (QK Td x.1 x.2 L)).nd;let ih:=CH Td L μ P n2;rw[List.foldl_cons];refine{?_,ih.2};rw[ih.1,YJ _ _ nd,KM,kZ];let:=PB Td x.1 L 0 μ;rw[Nat.zero_add]at this;rw[show pws Td L 0 x.1 μ=pwr Td x.1 L μ 0 from this,Rat.add_assoc]
theorem RC{Td:Nat->Tb}{L:Nat}{P:Pl}(ag:Agr L 0 P)(nd:((xE Td L 0 P).map (·.1)).Nodup)(k:Int):tv (zL Td L P) k=tv (xE Td L 0 P) k:=by
 let h:=CH Td L (dl k) P (A:=[]) mZ;rw[<-wK nd,WQ L 0 P (dl k) ∎ ag];show tv (P.foldl _ []) k=_;rw[<-wK h.2,h.1];exact nU _
def iOr(a b:TI):TI:=fun O H R=>a O H R∨b O H R
theorem pi_or(h1:PI X tg l a)(h2:PI X tg l b):PI X tg l (iOr a b):=λae s O H R I h=>h.elim (h1 ae s O H R I) (h2 ae s O H R I)
abbrev Zt:=List (V×#[71])
def BJ(Z:Zt)(l:Nat)(p:Int):Zt:=Z.filter λz=>decide (z.2.1.getD l 0=p)
theorem zY(Z:Zt)(z:V×#[71])(l:Nat)(p:Int):BJ (Z++[z]) l p=if z.2.1.getD l 0=p then BJ Z l p++[z]else BJ Z l p:=by
 unfold BJ;rw[List.filter_append];by_cases h:z.2.1.getD l 0=p
 .rw[tO h,List.filter_cons_of_pos (p:=λz:V×#[71]=>decide (z.2.1.getD l 0=p)) (mW h)]
  rfl
 .rw[tN h,List.filter_cons_of_neg (p:=λz:V×#[71]=>decide (z.2.1.getD l 0=p)) (λy=>h (mG y))];exact List.append_nil _
structure PartI(H0 H:Hp)(d:Addr)(aj:List (Key×V))(Z:Zt)(l:Nat):Prop where
 e:H d=some (.dK aj)
 no:∀p:Int,kK aj (.inl p:Key)=none->BJ Z l p=[]
 yes:∀(p:Int) (v:V),kK aj (.inl p:Key)=some v->∃q,v=.ref q/\H0 q=none/\q≠d/\H q=some (.lst ((BJ Z l p).map (·.1)))/\BJ Z l p≠[]
 inj:∀(p p':Int) (v:V),kK aj (.inl p:Key)=some v->kK aj (.inl p':Key)=some v->p=p'
 ks:∀kv∈aj,∃i:Int,kv.1=.inl i
 ln:aj.length<=Z.length
theorem PartI.same{l:Nat}(I:PartI H0 H d aj Z l)(s:Same H H'):PartI H0 H' d aj Z l:=
 {s _ _ I.e,I.no,λp v h=>let ⟨q,h1,h2,h3,h4,h5⟩:=I.yes p v h;{q,h1,h2,h3,s _ _ h4,h5},I.inj,I.ks,I.ln}
theorem PartI.there{l:Nat}{z:V×#[71]}(I:PartI H0 H d aj Z l)(h:kK aj (.inl (z.2.1.getD l 0):Key)=some (.ref q)) :
  PartI H0 (upd H q (.lst ((BJ Z l (z.2.1.getD l 0)).map (·.1)++[z.1]))) d aj (Z++[z]) l:=by
 obtain⟨q',e1,f1,n1,e2,ne⟩:=I.yes _ _ h;cases e1;refine{by rw[jG (Ne.symm n1)];exact I.e,λp hp=>?_,λp v hv=>?_,I.inj,I.ks,by rw[List.length_append];exact nQ I.ln (Nat.le_add_right ..)}
 .rw[zY,tN (λy=>by rw[y,hp]at h;cases h)];exact I.no p hp
 .obtain⟨q2,e3,f2,n2,e4,ne2⟩:=I.yes p v hv;rw[zY];by_cases c:z.2.1.getD l 0=p
  .subst c;rw[h]at hv;cases hv;cases e3;rw[tO rfl];exact{q,rfl,f1,n1,by rw[jE,mT];rfl,by simp}
  .rw[tN c];refine{q2,e3,f2,n2, ?_,ne2};rw[jG (λy=>c (I.inj _ _ _ h (by rw[hv,e3,y])))];exact e4
theorem PartI.new{l:Nat}{z:V×#[71]}(I:PartI H0 H d aj Z l)(h:kK aj (.inl (z.2.1.getD l 0):Key)=none)(f0:H0 q=none)(qd:q≠d)(nq:∀xs:List V,xs≠[]->H q≠some (.lst xs)) :
  PartI H0 (upd (upd H d (.dK (qB aj (.inl (z.2.1.getD l 0)) (.ref q)))) q (.lst [z.1])) d (qB aj (.inl (z.2.1.getD l 0)) (.ref q)) (Z++[z]) l:=by
 let old:∀(p:Int) (v:V),kK aj (.inl p:Key)=some v->v≠.ref q:=λp v hv y=>by
  obtain⟨q2,e3,_,_,e4,ne⟩:=I.yes p v hv;rw[y]at e3;cases e3;exact nq _ (λy=>ne (List.map_eq_nil_iff.mp y)) e4
 let vp:∀p:Int,kK (qB aj (.inl (z.2.1.getD l 0)) (.ref q)) (.inl p:Key)=if p=z.2.1.getD l 0 then some (.ref q)else kK aj (.inl p):=λp=>by
  rw[VE];by_cases c:p=z.2.1.getD l 0
  .rw[tO c,tO (by rw[c])]
  .rw[tN c,tN (λy=>c (Sum.inl.inj y))]
 refine{by rw[jG (Ne.symm qd)];exact jE,λp hp=>?_,λp v hv=>?_,λp p' v h1 h2=>?_, ?_, ?_}
 .rw[vp]at hp;split at hp
  .cases hp
  .rename_i c;rw[zY,tN (Ne.symm c)];exact I.no p hp
 .rw[vp]at hv;rw[zY];split at hv
  .rename_i c;cases hv;rw[tO c.symm,c,I.no _ h];exact{q,rfl,f0,qd,jE,by simp}
  .rename_i c;rw[tN (Ne.symm c)];obtain⟨q2,e3,f2,n2,e4,ne2⟩:=I.yes p v hv;exact{q2,e3,f2,n2,by rw[jG (λy=>old p v hv (by rw[e3,y])),jG n2];exact e4,ne2}
 .rw[vp]at h1 h2;split at h1
  .rename_i c;cases h1;split at h2
   .rename_i c2;rw[c,c2]
   .exact absurd rfl (old _ _ h2)
  .split at h2
   .cases h2;exact absurd rfl (old _ _ h1)
   .exact I.inj _ _ _ h1 h2
 .rw[WR _ h];intro kv hk;rcases mV.mp hk with hk | hk
  .exact I.ks kv hk
  .rw[hJ.mp hk];exact{_,rfl}
 .have:=vW aj (.inl (z.2.1.getD l 0):Key) (.ref q);rw[List.length_append];let:=I.ln;show _<=Z.length+1
  ∎
def Sq2(H:Hp)(a:Addr)(xs:List V):Prop:=H a=some (.tup xs)∨H a=some (.lst xs)
theorem Sq2.same(h:Sq2 H a xs)(s:Same H H'):Sq2 H' a xs:=h.imp (s _ _) (s _ _)
def JF(K:tP):Sp:=λvs H Q _=>∃(a:Addr) (l ad:Nat) (xs:List V) (P:Pl),vs=[.ref a,.int l]/\Sq2 H a xs/\Paired (TmQ K H) xs P/\(∀x∈P,x.1.length=ad)/\l<ad/\P.length<=60/\
 ∀(d:Addr) (aj:List (Key×V)) (H':Hp),H d=none->Same H H'->PartI H H' d aj (xs.zip P) l->Q (.ref d) H'
inductive PtI(H:Hp)(a d:Addr)(l:Nat)(Z:Zt)(i:Nat):L2.St->Hp->Prop where
 | mk {u:Option V} {H':Hp} {aj:List (Key×V)} (s:Same H H') (I:PartI H H' d aj (Z.take i) l):PtI H a d l Z i [some (.ref a),some (.int l),some (.ref d),u] H'
theorem VB{F:V->#[71]->Prop} :∀{xs:List V} {P:Pl} {i:Nat} {x:V} {y:List Int×Rat},Paired F xs P->xs[i]? = some x->P[i]? = some y->(xs.zip P)[i]? = some (x,y)
 | _::_,_::_,0,_,_,.cons _ _,h1,h2=>by cases h1;cases h2;rfl
 | _::_,_::_,i+1,_,_,.cons _ t,h1,h2=>VB (i:=i) t h1 h2
theorem zip_len{F:V->#[71]->Prop}{xs:List V}{P:Pl}(h:Paired F xs P):(xs.zip P).length=xs.length:=by
 rw[List.length_zip,<-Paired.length h,Nat.min_self]
theorem scPt:FnScope ["terms","letter","parts","term"] ["terms","letter"] (jI BV):=scK #[2]
theorem TU(F:Fun K "parted" "parted" BV f fd):FnOk P w K mg base CX0 1 f fd ["terms","letter"] (JF K):=by
 refine F.ok scPt #[9] #[4]
 .obtain⟨a,l,ad,xs,PP,rfl,_⟩:=h
  rfl
 .obtain⟨a,l,ad,xs,PP,rfl,ha,pr,lm,hl,fw,go⟩:=h;refine{_,jC (jM (i:=2) scPt.nd rfl #[5] (uE)) (jC (qC PassesOwn.never rfl (pi_or (wM (pv 0)) (yF (pv 0))) (jH (i:=3) scPt.nd rfl #[5]) (jF (yC (XA PySem.F.plainAttrs_list PySem.F.slot_list_append PySem.F.type_list_append yQ (JS (pv 2) (jT jW (jT jW (pv 3) jB #[11]) (pv 1) #[11]) (vN jD) {rfl,rfl,rfl,(rfl)}) (jA (pv 3) jD))))) (jF (jR (pv 2)))), ?_};try dsimp only[cxK]
  intro d nd;let s0:Same H (upd H d (.dK [])):=jO _ nd;let e0:(upd H d (.dK [])) d=some (.dK []):=jE;generalize upd H d (.dK [])=H0 at s0 e0;let lx:xs.length=PP.length:=Paired.length pr;let lz:=zip_len pr;let st0:PtI H a d l (xs.zip PP) 0 [some (.ref a),some (.int l),some (.ref d),none] H0:=.mk (aj:=[]) s0 {e0,λ_ _=>rfl,λ_ _ h=>(nomatch h),λ_ _ _ h=>(nomatch h),λ_ h=>(nomatch h),tF _};let step:∀(D:Ends) (i:Nat) (x:V) (O:L2.St) (H2:Hp),(∀O' H',PtI H a d l (xs.zip PP) (i+1) O' H'->D.nx O' H')->xs[i]? = some x->PtI H a d l (xs.zip PP) i O H2->jP 3 x O H2 fun O2 H3=>tDrop (tBM K "list" rAppend (VW (jZ 2) (tOp (TK K) (tOp (TK K) (jZ 3) (tC (V.int 0))) (jZ 1)) (tLstF tNil)) (vY (jZ 3) tNil)) D O2 H3:=by
   rintro D i x O H2 hD hx ⟨s2,I2⟩;rename_i aj;obtain⟨y,hy,r,b,c,rfl,r1,r2,r3⟩:=Paired.at pr hx;let ym:=gL hy;let zt:=VB pr hx hy;let tk:(xs.zip PP).take (i+1)=(xs.zip PP).take i++[(.ref r,y)]:=by rw[mD,zt];rfl
   let il:i<xs.length:=(uW.mp hx).1;let ll:=I2.ln;rw[mJ]at ll;refine{_,rfl,d,rfl,.inl {_,.inl I2.e},_,rfl,_,_,_,_,rfl,rfl,SqT.of (s2 _ _ r1),rfl,_,rfl,b,_,_,_,rfl,rfl,SqT.of (s2 _ _ r2),zI (by rw[mB,CK (show l<y.1.length by rw[lm y ym];exact hl)];rfl),(by show 0<=sizeLine;decide),λq H3 n3 s3 e3=>?_};let I3:=I2.same s3;let hs:=s2.trans s3;refine{aj,.inl (y.1.getD l 0),I3.e,rfl,by rw[sizeLine_eq];∎,λv hv=>?_,λhv=>?_}
   .obtain⟨q2,rfl,f2,n2,e2,ne2⟩:=I3.yes _ _ hv;let:=List.length_filter_le (λz:V×#[71]=>decide (z.2.1.getD l 0=y.1.getD l 0)) ((xs.zip PP).take i);rw[mJ]at this;refine{.inl {rfl,_,SqL.of e2},_,rfl,q2,_,_,rfl,rfl,e2,by rw[mS,sizeLine_eq];unfold BJ;∎,hD _ _ (.mk (aj:=aj) (jV hs f2) ?_)};rw[tk];exact I3.there (z:=(.ref r,y)) hv
   .have qd:q≠d:=λz=>by rw[z,I2.e]at n3;cases n3
    let eq:(upd H3 d (.dK (qB aj (.inl (y.1.getD l 0)) (.ref q)))) q=some (.lst []):=by rw[jG qd];exact e3
    refine{.inl {rfl,_,SqL.of eq},_,rfl,q,_,_,rfl,rfl,eq,(by show 0<sizeLine;decide),hD _ _ (.mk (aj:=qB aj (.inl (y.1.getD l 0)) (.ref q)) (jV (jV hs nd) (s2.free n3)) ?_)};rw[tk];exact I3.new (z:=(.ref r,y)) hv (s2.free n3) qd λzs hz y=>by rw[e3]at y;cases y;exact hz rfl
  let fin:∀O H2,PtI H a d l (xs.zip PP) xs.length O H2->ME (jZ 2) { nx:=λx H'=>Q V.non H',rt:=Q } O H2:=by
   rintro O H2 ⟨s2,I2⟩;rw[<-lz,mL]at I2;exact{_,rfl,go d _ H2 nd s2 I2}
  rcases ha with ha | ha
  .exact .inl {_,rfl,a,rfl,{_,SqT.of (s0 _ _ ha)},uM (K:=K) (a:=a) (xs:=xs) (PtI H a d l (xs.zip PP)) st0 (λi O H2 _ h=>by obtain⟨s2,_⟩:=h;exact SqT.of (s2 _ _ ha)) (λi x O H2 hx h=>step _ i x O H2 (λ_ _ h=>h) hx h) fin}
  .exact .inr {_,rfl,a,rfl,{_,SqL.of (s0 _ _ ha)},LC (K:=K) (a:=a) (xs:=xs) (PtI H a d l (xs.zip PP)) st0 (λi O H2 _ h=>by obtain⟨s2,_⟩:=h;exact SqL.of (s2 _ _ ha)) (λi x O H2 hx h=>step _ i x O H2 (λ_ _ h=>h) hx h) fin}
theorem ZP{n:Nat}{g:TG}{tb:TS}{D:Ends}{O:L2.St}{H:Hp}(Pv:Nat->L2.St->Hp->Prop)(h0:Pv 0 O H)
  (hs:∀i O H,i<n->Pv i O H->g (.int ((n:Int)-1-i)) O H fun O2 H2=>tb { D with nx:=Pv (i+1),ct:=Pv (i+1),bk:=D.nx } O2 H2) (hd:∀O H,Pv n O H->D.nx O H) :
  ∃W:Nat->Nat->L2.St->Hp->Prop,(∃m,W 0 m O H)/\∀i m O H,W i m O H->
   ((Itd n).stop i H/\D.nx O H)∨((Itd n).go i H/\∃N:L2.St->Hp->Prop,(∀O' H',N O' H'->∃m',m'<m/\W (i+1) m' O' H')/\∀x H',(Itd n).yld i H x H'->g x O H' fun O2 H2=>tb { D with nx:=N,ct:=N,bk:=D.nx } O2 H2):=by
 refine{λi m O H=>m=n-i/\i<=n/\Pv i O H,{n,by simp,tF _,h0}, ?_};rintro i m O H ⟨rfl,hi,p⟩;by_cases hlt:i<n
 .refine .inr {hlt,Pv (i+1),fun O' H' p'=>{n-(i+1),∎,rfl,hlt,p'},λx H' y=>?_};obtain⟨e,y⟩:=y;subst e y;exact hs i O _ hlt p
 .have e:i=n:=∎
  subst e;exact .inl {tE _,hd O H p}
def Kp(S:Addr->Prop)(H H':Hp):Prop:=∀c u,H c=some u->¬S c->H' c=some u
def Dcs(H:Hp)(S:Addr->Prop):Prop:=∀c,S c->∃kv,Rd H c (.dK kv)
theorem Kp.tup{S:Addr->Prop}(k:Kp S H H')(d:Dcs H S)(h:H c=some (.tup xs)):H' c=some (.tup xs):=k _ _ h λz=>by
 obtain⟨kv,r | ⟨o,r⟩⟩:=d c z<;>rw[r]at h<;>cases h
theorem Kp.lst{S:Addr->Prop}(k:Kp S H H')(d:Dcs H S)(h:H c=some (.lst xs)):H' c=some (.lst xs):=k _ _ h λz=>by
 obtain⟨kv,r | ⟨o,r⟩⟩:=d c z<;>rw[r]at h<;>cases h
theorem Kp.ent{S:Addr->Prop}(k:Kp S H H')(d:Dcs H S){x:Int×Rat}(h:EntQ K H kv x):EntQ K H' kv x:=let ⟨z1,pz,z2,z3⟩:=h;{z1,pz,z2,k.tup d z3}
theorem Kp.tm{S:Addr->Prop}(k:Kp S H H')(d:Dcs H S){x:List Int×Rat}(h:TmQ K H v x):TmQ K H' v x:=let ⟨r,b,c,e1,e2,e3,pz,e4,e5⟩:=h;{r,b,c,e1,k.tup d e2,k.tup d e3,pz,e4,k.tup d e5}
structure TabsAt(K:tP)(H:Hp)(ta:Addr)(Td:Nat->Tb)(ds:List Addr):Prop where
 e:H ta=some (.lst (ds.map V.ref))
 dk:∀(j:Nat) (d:Addr),ds[j]? = some d->∃kv,Rd H d (.dK kv)/\Paired (EntQ K H) kv (Td j)
theorem rd_one(h:Rd H d (.dK a))(k:Rd H d (.dK b)):a=b:=by
 rcases h with h | ⟨o,h⟩<;>rcases k with k | ⟨o',k⟩<;>rw[h]at k<;>cases k<;>rfl
theorem TabsAt.dc{Td:Nat->Tb}(h:TabsAt K H ta Td ds):Dcs H (·∈ds):=λc hc=>let ⟨j,hj⟩:=gK.mp hc;let ⟨kv,r,_⟩:=h.dk j c hj;{kv,(r)}
theorem TabsAt.same{Td:Nat->Tb}(h:TabsAt K H ta Td ds)(s:Same H H'):TabsAt K H' ta Td ds:={s _ _ h.e,λj d hd=>let ⟨kv,r,p⟩:=h.dk j d hd;{kv,HP r s,Paired.to (λ_ _ q=>q.same s) p}}
theorem FZ{F:V->#[71]->Prop}{l:Nat}{p:Int} :∀{xs:List V} {P:Pl},Paired F xs P->Paired F ((BJ (xs.zip P) l p).map (·.1)) (vC P l p)
 | _,_,.nil=>.nil
 | x::xs,y::P,.cons h t=>by
  let ih:=FZ (l:=l) (p:=p) t;unfold BJ vC at *;rw[List.zip_cons_cons];by_cases c:y.1.getD l 0=p
  .rw[List.filter_cons_of_pos (p:=λz:V×#[71]=>decide (z.2.1.getD l 0=p)) (mW c),List.filter_cons_of_pos (p:=λx:List Int×Rat=>decide (x.1.getD l 0=p)) (mW c)];exact .cons h ih
  .rw[List.filter_cons_of_neg (p:=λz:V×#[71]=>decide (z.2.1.getD l 0=p)) (λy=>c (mG y)),List.filter_cons_of_neg (p:=λx:List Int×Rat=>decide (x.1.getD l 0=p)) (λy=>c (mG y))];exact ih
theorem wS{F:V->#[71]->Prop}{l:Nat}{p:Int}{xs:List V}{P:Pl}(h:Paired F xs P):BJ (xs.zip P) l p=[]↔vC P l p=[]:=by
 let:=Paired.length (FZ (l:=l) (p:=p) h);rw[mS]at this;rw[<-List.length_eq_zero_iff,<-List.length_eq_zero_iff,this]
theorem KQ{aj:List (Key×V)}(h:∀p∈aj,∃i:Int,p.1=.inl i)(i:Int):i∈jN aj↔(.inl i:Key)∈aj.map (·.1):=by
 unfold jN;rw[nT,nT];constructor
 .rintro⟨p,hp,e⟩;obtain⟨j,hj⟩:=h p hp;rw[hj]at e;exact{p,hp,by rw[hj,<-e]}
 .rintro⟨p,hp,e⟩;exact{p,hp,by rw[e]}
theorem XE{F:V->#[71]->Prop}{H0 H:Hp}{d:Addr}{aj:List (Key×V)}{xs:List V}{P:Pl}{l:Nat}(pr:Paired F xs P)(I:PartI H0 H d aj (xs.zip P) l)(nn:∀x∈P,0<=x.1.getD l 0) :
  (aj=[]->mxP P l=0)/\∀m,m∈jN aj->(∀x∈jN aj,x<=m)->m=mxP P l:=by
 let has:∀x∈P,x.1.getD l 0∈jN aj:=λx hx=>by
  rw[KQ I.ks];refine uV λn=>?_;let:kK aj (.inl (x.1.getD l 0):Key)=none:=by
   cases h:kK aj (.inl (x.1.getD l 0):Key)with
   | none=>rfl
   | some v=>exact absurd (valV_in h) n
  let:=(wS pr).mp (I.no _ this);let:x∈vC P l (x.1.getD l 0):=part_mem.mpr {hx,(rfl)};rw[‹vC P l (x.1.getD l 0)=[]›]at this;exact absurd this #[14]
 refine{λe=>?_,λm hm hle=>?_}
 .have:P=[]:=by
   match P,has with
   | [],_=>rfl
   | x::_,has=>let:=has x (hU ..);rw[e]at this;exact absurd this (by simp [jN])
  rw[this]
  rfl
 .have hv:kK aj (.inl m:Key)≠none:=λz=>VF z ((KQ I.ks m).mp hm);obtain⟨v,hv⟩:=Option.ne_none_iff_exists'.mp hv;obtain⟨_,_,_,_,_,ne⟩:=I.yes m v hv;let ne:vC P l m≠[]:=λz=>ne ((wS pr).mpr z);obtain⟨x,hx⟩:=List.exists_mem_of_ne_nil _ ne;obtain⟨hx,ex⟩:=part_mem.mp hx;refine Int.le_antisymm (yS (nT.mpr {x,hx,(ex)})) (wE (λy hy=>?_) (by rw[<-ex];exact nn x hx));obtain⟨x',hx',rfl⟩:=nT.mp hy;exact hle _ (has x' hx')
theorem NumH.upd{x:Rat}(e:H p=some (.dK aj))(h:NumH H v x):NumH (upd H p o) v x:=let ⟨pz,z2,z3⟩:=h;{pz,z2,SH e z3}
theorem TabsAt.but1{Td:Nat->Tb}(h:TabsAt K H ta Td ds)(e:H d=some (.dK kv))(n:d∉ds):TabsAt K (upd H d o) ta Td ds:=by
 refine{by rw[jG (λz=>by let:=h.e;rw[z,e]at this;cases this)];exact h.e,λj c hc=>?_};obtain⟨kv',r,p⟩:=h.dk j c hc;let cd:c≠d:=λz=>n (z▸gL hc);refine{kv', ?_,Paired.to (λ_ _ q=>q.upd e) p};rcases r with r | ⟨o',r⟩
 .exact .inl (by rw[jG cd];exact r)
 .exact .inr {o',by rw[jG cd];exact r}
theorem TabsAt.out{Td:Nat->Tb}(h:TabsAt K H ta Td ds)(n:H d=none):d∉ds:=λz=>by
 obtain⟨j,hj⟩:=gK.mp z;obtain⟨kv',r | ⟨o,r⟩,_⟩:=h.dk j d hj<;>rw[r]at n<;>cases n
theorem rMaxK.of{d:Int}{M:Int}(ra:Rd H a (.dK aj))(hk:∀p∈aj,∃i:Int,p.1=.inl i)(h1:aj=[]->M=d)(h2:∀m,m∈jN aj->(∀x∈jN aj,x<=m)->m=M)(q:Q (.int M) H):rMaxK d [.ref a] H Q:={a,aj,rfl,ra,hk,λe=>h1 e▸q,λm a b=>h2 m a b▸q}
theorem Ov.dn{D:Int}{n m:Nat}{x:Rat}(h:Ov D n x)(hD:0<D)(k:n<m):(x.den:Int)∣D/\x.num.natAbs<2^m:=by
 obtain⟨z,e,hz⟩:=h.ex;let q:=IK hD e;exact{q.1,gX (nQ q.2 hz) (gP #[0] k)}
structure TdA(U:Par)(ad:Nat)(es:List Int)(dw:Nat)(Td:Nat->Tb):Prop where
 m4:ad<=4
 w16:dw<=16
 ok:ParOk U
 o:∀j,j<es.length->TdO ad (U.D j) U.s (eN es j) (Td j)
 e:∀j,j<es.length->eN es j<=16
 z:KyD ad 0 0
theorem TdA.low{ad dw e:Nat}{es:List Int}{Td:Nat->Tb}(h:TdA U ad es dw Td)(k:e<=dw):TdA U ad es e Td:={h.m4,nQ k h.w16,h.ok,h.o,h.e,h.z}
theorem n14{a k:Nat}(h:a<=2^k)(l:k<1400):a<2^1400:=gX h (gP #[0] l)
theorem PT.sz{ad:Nat}{E:Int}{N d k:Nat}(h:PT ad E N d A)(hE:0<E)(hb:E.natAbs<=2^k)(hk:k<1400)(hN:N<7900)(j:Int):SzR 7900 (tv A j):=(FE h.vl j).sz hE hb hN ∎
theorem PT.szE{ad:Nat}{E:Int}{N d k:Nat}(h:PT ad E N d A)(hE:0<E)(hb:E.natAbs<=2^k)(hk:k<1400)(hN:N<7900):∀e∈A,SzR 7900 e.2:=λe he=>(h.vl e he).sz hE hb hN ∎
def CU(K:tP)(n:Nat):Sp:=λvs H Q _=>∃(a ta:Addr) (l ad dw:Nat) (es:List Int) (xs:List V) (P:Pl) (Td:Nat->Tb) (ds:List Addr) (U:Par),vs=[.ref a,.ref ta,.int l]/\l+n=es.length/\ds.length=es.length/\es.length<=4/\Sq2 H a xs/\(n=0->P≠[]/\H a=some (.lst xs))/\Paired (TmQ K H) xs P/\StL U es l dw P/\P.length<=60/\TdA U ad es dw Td/\gE U n l<1400/\gN U n l<2400/\TabsAt K H ta Td ds/\
 ∀(d:Addr) (aj:List (Key×V)) (H':Hp),H d=none->Kp (·∈ds) H H'->TabsAt K H' ta Td ds->H' d=some (.dK aj)->Paired (EntQ K H') aj (xE Td n l P)->Q (.ref d) H'
inductive TpI(K:tP)(H1:Hp)(a ta dp:Addr)(l:Nat)(Td:Nat->Tb)(ds:List Addr)(g:Int->Tb->Tb)(m:Nat)(i:Nat):L2.St->Hp->Prop where
 | mk {u:Option V} {H':Hp} {dt:Addr} {kt:List (Key×V)} (n:H1 dt=none) (b:Kp (·∈ds) H1 H') (t:TabsAt K H' ta Td ds) (e:H' dt=some (.dK kt)) (p:Paired (EntQ K H') kt (AK g m i)):TpI K H1 a ta dp l Td ds g m i [some (.ref a),some (.ref ta),some (.int l),some (.ref dp),some (.ref dt),u] H'
theorem scTp:FnScope ["terms","tables","letter","parts","table","power"] ["terms","tables","letter"] (jI BR):=scK #[2]
theorem FG(D:Df K mg "table_put_in" BR ["terms","tables","letter"] f fd)(T:Txt mg)(DP:Df K mg "parted" BV ["terms","letter"] fP fdP)(GP:FnOk P w K mg base CX0 1 fP fdP ["terms","letter"] (JF K))(DM:Df K mg "tables_multiplied" BS ["one","other"] fM fdM)(GM:FnOk P w K mg base CX0 5 fM fdM ["one","other"] (JC K))(DA:Df K mg "tables_added" BU ["one","other"] fA fdA)(GA:FnOk P w K mg base CX0 3 fA fdA ["one","other"] (JD K)):∀n:Nat,FnOk P w K mg base CX0 (n+6) f fd ["terms","tables","letter"] (CU K n)
 | 0=>by
  refine D.F.ok scTp #[9] #[4]
  .obtain⟨a,ta,l,ad,dw,es,xs,PP,Td,ds,U,rfl,_⟩:=h
   rfl
  .obtain⟨a,ta,l,ad,dw,es,xs,PP,Td,ds,U,rfl,hn,ld,hL,ha,h0,pr,st,fw,tdk,hgE,hgN,tb,go⟩:=h;let hu:_+1<cLine:=gX #[10] hr.units;obtain⟨ne,ha⟩:=h0 rfl;refine{_,jC (qJ (jX BC (pv 2) (kL qR (by rfl) T.len PySem.boot_len #[74]) (kM _)) (jF (jR (pe_disp (WT jB (jT jW (jT qQ (pv 0) jB #[11]) jB #[11]) pps_nil) rfl rfl #[14] #[0]))) jY) (FC), ?_};try dsimp only[cxK]
   let ll:l=(ds.map V.ref).length:=by rw[mS,ld];∎
   refine{_,rfl,_,rfl,ta,_,rfl,.inl (SqL.of tb.e),rfl,_,rfl, ?_};refine wH (λ_=>?_) (λc=>absurd (by rw[ll];exact mW rfl) c)
   match PP,xs,pr,ne with
   | y::PP',x::xs',.cons hx pr',_=>
    obtain⟨r,b,c,rfl,r1,r2,r3⟩:=hx;intro d nd;let s1:Same H (upd H d (.dK [])):=jO _ nd;let e1:(upd H d (.dK [])) d=some (.dK []):=jE;generalize upd H d (.dK [])=H1 at s1 e1;refine{_,rfl,a,_,_,_,rfl,rfl,SqL.of (s1 _ _ ha),(show atI _ ((0:Nat):Int)=_ from zI rfl),r,_,_,_,rfl,rfl,SqT.of (s1 _ _ r1),rfl,e1,[(.inl 0,.ref c)],rfl,(by show 1<=15;decide), ?_};refine go d [(.inl 0,.ref c)] _ nd (λc' u h _=>jV s1 nd _ _ h) ((tb.same s1).but1 e1 (tb.out nd)) jE (.cons {rfl,NumH.upd e1 (r3.same s1)} .nil)
 | n+1=>by
  let G:FnOk P w K mg base CX0 (n+6) f fd ["terms","tables","letter"] (CU K n):=FG D T DP GP DM GM DA GA n;refine D.F.ok scTp #[9] #[4]
  .obtain⟨a,ta,l,ad,dw,es,xs,PP,Td,ds,U,rfl,_⟩:=h
   rfl
  .obtain⟨a,ta,l,ad,dw,es,xs,PP,Td,ds,U,rfl,hn,ld,hL,ha,h0,pr,st,fw,tdk,hgE,hgN,tb,go⟩:=h;let hu:_+1<cLine:=gX #[10] hr.units;let hr1:Room 1 _:=hr.mono ∎;let hr3:Room 3 _:=hr.mono ∎;let hr5:Room 5 _:=hr.mono ∎;refine{_,jC (qJ (jX BC (pv 2) (kL qR (by rfl) T.len PySem.boot_len #[74]) (kM _)) (jF (uA)) jY) (jC (jM (i:=3) scTp.nd rfl #[5] (kU GP hr1 rfl DP.m DP.F.kp DP.b .nil vI (jA (pv 0) (jA (pv 2) jD)))) (jC (jM (i:=4) scTp.nd rfl #[5] (uE)) (jC (qC PassesOwn.never rfl (pi_rev (by rfl) T.rev (jA (qL NU (by rfl) T.rng boot_range (jA (jJ qA (pe_maxK rfl (by rfl) T.max (jA (pv 3) jD) (wC jB WU)) jB) jD)) jD)) (jH (i:=5) scTp.nd rfl #[5]) (jC (jM (i:=4) scTp.nd rfl #[5] (kU GM hr5 rfl DM.m DM.F.kp DM.b .nil vI (jA (pv 4) (jA (jT qQ (pv 1) (pv 2) #[11]) jD)))) (jF (qJ (MT (XD hu (pv 5) (pv 3))) (jF (jM (i:=4) scTp.nd rfl #[5] (kU GA hr3 rfl DA.m DA.F.kp DA.b .nil vI (jA (pv 4) (jA (kU G hr rfl D.m D.F.kp D.b .nil vI (jA (vO hu (pv 3) (pv 5) #[11]) (jA (pv 1) (jA (jJ qA (pv 2) jB) jD)))) jD))))) jY)))) (jF (jR (pv 4)))))), ?_}
   try dsimp only[cxK]
   let lx:xs.length=PP.length:=Paired.length pr;let ll:(l:Int)≠((ds.map V.ref).length:Int):=by rw[mS,ld];∎
   refine{_,rfl,_,rfl,ta,_,rfl,.inl (SqL.of tb.e),rfl,_,rfl,yT (mU λz=>ll (V.int.inj z)) ?_};refine{_,rfl,_,rfl,a,l,es.length,xs,PP,rfl,ha,pr,st.len,∎,fw,λpd kvp H1 n1 s1 I1=>?_};let pm:=XE pr I1 λx hx=>(st.pw (show l<es.length by ∎) hx).1;let mb:=st.mx (show l<es.length by ∎);let m0:=mx_nn PP l;intro dt0 nt0;let t1:=tb.same s1;let s2:Same H1 (upd H1 dt0 (.dK [])):=jO _ nt0;let e2:(upd H1 dt0 (.dK [])) dt0=some (.dK []):=jE;generalize upd H1 dt0 (.dK [])=H2 at s2 e2;let I2:=I1.same s2;let tdo:=tdk.o l ∎;let e16:=tdk.e l ∎;let hrec:=λ(t:Nat)=>DF (Td:=Td) tdk.ok tdk.o tdk.z n (l+1) (dw-t*eN es l) (vC PP l (t:Int)) ∎ (st.next ∎);let aok:=acc_ok (Td:=Td) (P:=PP) tdk.ok tdo mb.1 mb.2 (xE Td n (l+1)) (λt _=>hrec t);generalize hg:xT (Td l) (xE Td n (l+1)) PP l=g at aok;let mnn:mxP PP l+1=(((mxP PP l).toNat+1:Nat):Int):=∎
   let fine:xE Td (n+1) l PP=AK g (mxP PP l).toNat ((mxP PP l).toNat+1):=by rw[<-hg];rfl
   dsimp only[jP];refine{_,rfl,0,rfl,rMaxK.of (M:=mxP PP l) (.inl I2.e) I2.ks pm.1 pm.2 {_,_,rfl,rfl,_,rfl,λpr0 npr=>?_}};rw[mnn];let w16:=tdk.w16;let mM:U.M l<=gN U (n+1) l:=by
    let:=Nat.le_mul_of_pos_right (U.M l) (show 0<U.s+1 by ∎);show _<=gN U n (l+1)+U.M l*(U.s+1)+1
    ∎
   generalize (mxP PP l).toNat=m at aok mb fine;let s3:Same H2 (upd H2 pr0 (.rng 0 ((m+1:Nat):Int))):=jO _ npr;let e3:(upd H2 pr0 (.rng 0 ((m+1:Nat):Int))) pr0=some (.rng 0 ((m+1:Nat):Int)):=jE;generalize upd H2 pr0 (.rng 0 ((m+1:Nat):Int))=H3 at s3 e3;let pdo:pd∉ds:=tb.out n1;refine{pr0,m+1,rfl,e3,∎,ZP (n:=m+1) (TpI K H1 a ta pd l Td ds g m) (.mk nt0 (λc u h _=>(s2.trans s3) _ _ h) (t1.same (s2.trans s3)) (s3 _ _ e2) .nil) (λi O H4 hi h=>?_) (fun O H4 h=>?_)}
   .obtain⟨nt,bt,tt,et,pt⟩:=h;rename_i dt kt;let el:(((m+1:Nat):Int))-1-(i:Int)=(m:Int)-i:=∎
    rw[el];obtain⟨⟨zg,zm⟩,_⟩:=aok i ∎;let acs:AK g m (i+1)=xT (Td l) (xE Td n (l+1)) PP l ((m:Int)-i) (AK g m i):=by rw[hg];rfl
    generalize AK g m i=A at pt zg zm acs;let gr:=hrec (m-i);rw[show((m-i:Nat):Int)=(m:Int)-i by ∎]at gr;let bg:=SK tdk.ok n l (m-i+1);let ng:=aN_le U n l (m-i+1);let nm:=aN_le U n l (m-i);let ge:gE U n (l+1)<=gE U (n+1) l:=Nat.le_add_right ..;let gn:gN U n (l+1)+1<=gN U (n+1) l:=by show _<=gN U n (l+1)+U.M l*(U.s+1)+1;∎
    let gb:=LB tdk.ok n (l+1);obtain⟨nv,cv,hs,_,tv'⟩:=tdo.vl;let r4:=tdk.ok.r4;let s4:=tdk.ok.s4;let bm:=SK tdk.ok n l (m-i);let lg:=zg.ln ∎ tdk.m4;let lz:=zm.ln ∎ tdk.m4;let lr:=gr.ln ∎ tdk.m4;let wq:dw-(m-i)*eN es l<=dw:=Nat.sub_le ..;let sN:=st.next (p:=m-i) (show l<es.length by ∎);rw[show((m-i:Nat):Int)=(m:Int)-i by ∎]at sN;generalize hp:(m:Int)-(i:Int)=p at acs gr sN lr;let p0:0<=p:=∎
    let dto:dt∉ds:=t1.out nt;let lt:l<ds.length:=∎
    let hdl:ds[l]? = some ds[l]:=uY lt;let mdl:ds[l]∈ds:=mO lt;generalize ds[l]=dl at hdl mdl;obtain⟨kl,rl,pl⟩:=tt.dk l dl hdl;let dd:dt≠dl:=λz=>dto (z▸mdl);refine{_,rfl,_,rfl,_,rfl,ta,_,_,_,rfl,rfl,SqL.of tt.e,zI (by rw[mB,hdl];rfl), ?_};refine{dt,dl,kt,kl,A,Td l,aB U n l (m-i+1),U.D l,rfl,dd,.inl et,rl,pt,pl,zg.nd,tdo.nd,nQ lg #[0],nQ tdo.ln #[0],nQ (mY lg tdo.ln) #[0],bg.1,n14 bg.2 hgE,tdk.ok.p2 l,n14 (tdk.ok.b2 l) r4,λe he=>((zg.vl e he).dn bg.1 (mQ _)).1,λe he=>((tv' e he).dn (tdk.ok.p2 l) (mQ _)).1,λe he=>((zg.vl e he).dn bg.1 ∎).2,λe he=>((tv' e he).dn (tdk.ok.p2 l) ∎).2,λe he=>(zg.ky _ (List.mem_map_of_mem he)).small ∎ tdk.m4,λe he=>(tdo.ky _ (List.mem_map_of_mem he)).small e16 tdk.m4,λdm km H5 n5 b5 rl5 e5 p5=>?_};let S5:Kp (λc=>c=dt∨c=dl) H4 H5:=λc u h hc=>b5 c u h (λz=>hc (.inl z)) (λz=>hc (.inr z));let D5:Dcs H4 (λc=>c=dt∨c=dl):=λc hc=>hc.elim (λz=>{kt,z▸.inl et}) (λz=>{kl,z▸rl});let bt5:Kp (·∈ds) H1 H5:=λc u h hc=>b5 c u (bt c u h hc) (λz=>by rw[z,nt]at h;cases h) (λz=>hc (z▸mdl));let tt5:TabsAt K H5 ta Td ds:=⟨S5.lst D5 tt.e,λj c hc=>by
     obtain⟨kc,rc,pc⟩:=tt.dk j c hc;by_cases y:c=dl
     .subst y;let e:=rd_one rc rl;exact{kl,rl5,Paired.to (λ_ _ q=>S5.ent D5 q) (e▸pc)}
     .have yd:c≠dt:=λz=>dto (z▸gL hc);refine{kc, ?_,Paired.to (λ_ _ q=>S5.ent D5 q) pc};rcases rc with r | ⟨o,r⟩
      .exact .inl (b5 _ _ r yd y)
      .exact .inr {o,b5 _ _ r yd y}⟩
    let n15:H1 dm=none:=by
     cases q:H1 dm with
     | none=>rfl
     | some u=>
      by_cases y:dm∈ds
      .exact absurd y (tt.out n5)
      .rw[bt dm u q y]at n5;cases n5
    let ep5:H5 pd=some (.dK kvp):=bt5 _ _ I1.e pdo;dsimp only[jP];refine{_,rfl,_,rfl,pd,_,rfl,DGet.k (k:=.inl p) ep5,_,rfl, ?_};cases hv:kK kvp (.inl p:Key)with
    | none=>
     refine yT rfl ?_;refine .mk n15 bt5 tt5 e5 ?_;rw[acs];unfold xT;rw[tO ((wS pr).mp (I1.no p hv))];exact p5
    | some v=>
     obtain⟨q,rfl,fq,qd,eq1,nez⟩:=I1.yes p v hv;let nep:vC PP l p≠[]:=λz=>nez ((wS pr).mpr z);refine DY rfl ?_;let qo:q∉ds:=tb.out fq;let eq5:=bt5 _ _ eq1 qo;let tm1:Paired (TmQ K H1) xs PP:=Paired.to (λ_ _ h=>h.same s1) pr;let tm5:Paired (TmQ K H5) xs PP:=Paired.to (λ_ _ h=>bt5.tm t1.dc h) tm1;refine{_,rfl,_,rfl,_,rfl,pd,.ref q,rfl,hv▸DGet.k (k:=.inl p) ep5,_,rfl,_,rfl,_,_,rfl,rfl, ?_};refine{q,ta,l+1,ad,dw-(m-i)*eN es l,es,_,vC PP l p,Td,ds,U,rfl,∎,ld,hL,.inr eq5,λ_=>{nep,(eq5)},FZ tm5,sN,nQ (List.length_filter_le ..) fw,tdk.low wq,∎,∎,tt5,λd2 k2 H6 n6 b6 tt6 e6 p6=>?_};let dmo:dm∉ds:=tt.out n5;let em6:=b6 _ _ e5 dmo;let pm6:Paired (EntQ K H6) km (xL A (Td l)):=Paired.to (λ_ _ h=>b6.ent tt5.dc h) p5;refine{dm,d2,km,k2,xL A (Td l),xE Td n (l+1) (vC PP l p),rfl,.inl em6,e6,pm6,p6,zm.nd,gr.nd,nQ (Nat.add_le_add lz lr) #[0],zm.sz bm.1 bm.2 hgE ∎,gr.szE gb.1 gb.2 ∎ ∎,λd3 k3 T3 H7 n7 b7 e7 p7 _ eT=>?_};let d2o:d2∉ds:=tt5.out n6;let n12:H1 d2=none:=by
      cases q:H1 d2 with
      | none=>rfl
      | some u=>
       by_cases y:d2∈ds
       .exact absurd y d2o
       .rw[bt5 d2 u q y]at n6;cases n6
     let S7:Kp (λc=>c=d2) H6 H7:=λc u h hc=>b7 c u h hc;let D7:Dcs H6 (λc=>c=d2):=λc hc=>{k2,hc▸.inl e6};refine .mk ?_ (λc u h hc=>b7 c u (b6 c u (bt5 c u h hc) hc) (λz=>by rw[z,n12]at h;cases h)) {S7.lst D7 tt6.e,λj c hc=>?_} e7 ?_
     .cases q:H1 d3 with
      | none=>rfl
      | some u=>
       by_cases y:d3∈ds
       .exact absurd y (tt6.out n7)
       .rw[b6 _ _ (bt5 d3 u q y) y]at n7;cases n7
     .obtain⟨kc,rc,pc⟩:=tt6.dk j c hc;let cd2:c≠d2:=λz=>d2o (z▸gL hc);refine{kc, ?_,Paired.to (λ_ _ q=>S7.ent D7 q) pc};rcases rc with r | ⟨o,r⟩
      .exact .inl (b7 _ _ r cd2)
      .exact .inr {o,b7 _ _ r cd2}
     .rw[acs];unfold xT;rw[tN nep,<-eT];exact p7
   .obtain⟨nt,bt,tt,et,pt⟩:=h;rename_i dt kt;rw[<-fine]at pt;exact{_,rfl,go dt kt H4 (s1.free nt) (λc u h hc=>bt c u (s1 _ _ h) hc) tt et pt}
theorem EI{ts us:List V}(Pv:Nat->List V->Hp->Prop)(hle:ts.length=us.length)(hz:us.length<sizeLine)(h0:Pv 0 [] H')
  (hl:∀i ys H2,Pv i ys H2->SqT K H2 a ts/\SqL K H2 b us/\H2 p=some (.lst ys))
  (hs:∀i m ys x y c H2,ts[i]? = some x->us[i]? = some y->m=us.length-i->ys.length=i->Pv i ys H2->H2 c=none->g (.ref c) O0 (upd H2 c (.tup [x,y])) fun O4 H4=>Keep O0 O4/\te O4 H4 λy H5=>H5 p=some (.lst ys)/\∃m',m'<m/\CompW us Pv (i+1) m' (ys++[y]) #[42])
  (hd:∀ys H2,ys.length=us.length->Pv us.length ys H2->Q (.ref p) H2):CompGoF O0 (Itu K a b) g te Q p H':=by
 refine{CompW us Pv,{_,rfl,tF _,rfl,h0}, ?_};rintro i m ys H2 ⟨hm,hi,hy,hp⟩;obtain⟨q1,q2,e⟩:=hl i ys H2 hp;refine{e,∎, ?_};by_cases hlt:i<us.length
 .have h2:i<ts.length:=∎
  refine .inr {{ts,us,ts[i],us[i],q1,q2,by simp [h2],by simp [hlt]}, ?_};rintro _ _ ⟨c,x,y,hc,rfl,rfl,h1,h2⟩;exact hs i m ys x y c H2 (h1 _ q1) (h2 _ q2) hm hy hp hc
 .obtain rfl:i=us.length:=∎
  exact .inl {{ts,us,q1,q2,.inr uP},hd ys H2 hy hp}
theorem CA:∀n,pk (List.replicate n 0)=0
 | 0=>rfl
 | n+1=>by rw[List.replicate_succ',xH,CA n];rfl
structure QOk(ad:Nat)(D2:Int)(s:Nat)(Q:Pl):Prop where
 ok:PlOk ad Q
 ln:Q.length<=2^5
 cf:∃n c,n+c<=s/\Q.length<=2^c/\∀x∈Q,Ov D2 n x.2
theorem wR(P:Pl):0<=vX P:=by
 let:∀m:List Int,0<=m.foldr max 0:=λm=>by
  induction m with
  | nil=>exact tJ _
  | cons a m ih=>show 0<=max a (m.foldr max 0);∎
 exact this _
abbrev QT(Qs:List Pl)(j:Nat):Tb:=kH (Qs.getD j [])
theorem WN{Qs:List Pl}{j:Nat}(h:Qs[j]? = some Q):Qs.getD j []=Q:=by rw[uT,h];rfl
abbrev dgs(Qs:List Pl):List Int:=Qs.map vX
theorem ZW :∀e∈dgs Qs,0<=e:=λe he=>by
 obtain⟨Q,_,rfl⟩:=nT.mp he;exact wR Q
theorem eN_at{j:Nat}(h:Qs[j]? = some Q):eN (dgs Qs) j=(vX Q).toNat:=by
 unfold eN;rw[uT,mB,h]
 rfl
theorem QOk.td{ad s:Nat}{D2:Int}{j:Nat}(hQ:Qs[j]? = some Q)(h:QOk ad D2 s Q):TdO ad D2 s (eN (dgs Qs) j) (QT Qs j)/\eN (dgs Qs) j<=16:=by
 let dn:=wR Q;obtain⟨n,c,hs,hl,vl⟩:=h.cf;unfold QT;rw[WN hQ,eN_at hQ];refine{{h.ok.nd,by rw[GK];exact h.ln,{n,c,hs,by rw[GK];exact hl,λe he=>?_},λk hk=>?_}, ?_}
 .obtain⟨x,hx,rfl⟩:=nT.mp he;exact vl x hx
 .rw[qU]at hk;obtain⟨x,hx,rfl⟩:=nT.mp hk;refine{x.1,h.ok.len x hx,h.ok.nn x hx, ?_,rfl};let:x.1.sum<=vX Q:=yS (List.mem_map_of_mem (f:=λx:List Int×Rat=>x.1.sum) hx)
  ∎
 .have:=AX h.ok.deg #[0]
  ∎
theorem wz_le:∀{ns es:List Int},(∀n∈ns,0<=n)->(∀e∈es,e<=16)->wz ns es<=16*ns.sum
 | [],_,_,_=>tJ _
 | n::ns,[],h,_=>by
  let:=(vR h (hU ..)).2;show(0:Int)<=16*(n::ns).sum
  ∎
 | n::ns,e::es,h,k=>by
  let ih:=wz_le (ns:=ns) (es:=es) (λn hn=>h n (gM _ hn)) (λQ hQ=>k Q (gM _ hQ));let h3:=Int.mul_le_mul_of_nonneg_left (k e (hU ..)) (h n (hU ..));show n*e+wz ns es<=16*(n+ns.sum)
  ∎
theorem NZ{α β γ:Type}{f:α->β->γ}{a:List α}{b:List β}{i:Nat}{x:α}{y:β}(h1:a[i]? = some x)(h2:b[i]? = some y):(List.zipWith f a b).take (i+1)=(List.zipWith f a b).take i++[f x y]:=by
 rw[mD,List.getElem?_zipWith,h1,h2]
 rfl
structure PutH(K:tP)(H:Hp)(p1 oa:Addr)(mo ad:Nat)(P1:Pl)(ps:List Addr)(Qs:List Pl)(U:Par):Prop where
 q1:SumQ K H p1 mo P1
 o1:PlOk mo P1
 c1:∀x∈P1,Ov U.D1 U.N x.2
 pm:∀x∈P1,∀j,(x.1.getD j 0).toNat<=U.M j
 fw:P1.length<=60
 eo:H oa=some (.lst (ps.map V.ref))
 pq:Paired (λa Q=>SumQ K H a ad Q) ps Qs
 lp:ps.length=mo
 qo:∀j Q,Qs[j]? = some Q->QOk ad (U.D j) U.s Q
 k:ParOk U
 e:gE U mo 0<1400
 n:gN U mo 0<2400
theorem PutH.same{mo ad:Nat}(h:PutH K H p1 oa mo ad P1 ps Qs U)(s:Same H H'):PutH K H' p1 oa mo ad P1 ps Qs U:={h.q1.same s,h.o1,h.c1,h.pm,h.fw,s _ _ h.eo,Paired.to (λ_ _ q=>q.same s) h.pq,h.lp,h.qo,h.k,h.e,h.n}
def Grt(P1:Pl)(Qs:List Pl):Prop:=∃x∈P1,16<wz x.1 (dgs Qs)
theorem PutH.tb{mo ad:Nat}(h:PutH K H p1 oa mo ad P1 ps Qs U)(g:¬Grt P1 Qs):StL U (dgs Qs) 0 16 P1/\(0<mo->TdA U ad (dgs Qs) 16 (QT Qs)):=by
 let lq:(dgs Qs).length=mo:=by rw[mS,<-Paired.length h.pq];exact h.lp
 refine{{λx hx=>by rw[h.o1.len x hx,lq],h.o1.nn,h.pm,λx hx=>?_,h.c1,ZW},λm0=>?_}
 .rw[List.drop_zero,List.drop_zero];exact Int.not_lt.mp λz=>g {x,hx,(z)}
 .have at':∀j,j<(dgs Qs).length->∃Q,Qs[j]? = some Q/\QOk ad (U.D j) U.s Q:=λj hj=>by
   let hj:j<Qs.length:=by rwa [mS]at hj
   exact{_,uY hj,h.qo _ _ (uY hj)}
  obtain⟨Q0,_,k0⟩:=at' 0 ∎;refine{k0.ok.m4,tE _,h.k,λj hj=>?_,λj hj=>?_,List.replicate ad 0,gI,λn hn=>by rw[List.eq_of_mem_replicate hn];exact tJ _, ?_,(CA ad).symm}
  .obtain⟨Q,hQ,k⟩:=at' j hj;exact(k.td hQ).1
  .obtain⟨Q,hQ,k⟩:=at' j hj;exact(k.td hQ).2
  .have:∀m:Nat,(List.replicate m (0:Int)).sum=0:=λm=>by
    induction m with
    | zero=>rfl
    | succ n ih=>rw[List.replicate_succ,nM,ih];rfl
   rw[this];exact tJ _
def OM(K:tP)(C:Addr):Sp:=λvs H Q E=>∃(p1 oa:Addr) (mo ad:Nat) (P1:Pl) (ps:List Addr) (Qs:List Pl) (U:Par),vs=[.ref p1,.ref oa]/\PutH K H p1 oa mo ad P1 ps Qs U/\
 (((Grt P1 Qs∨¬Grt P1 Qs/\500<AH (xE (QT Qs) mo 0 P1))/\∀H',Same H H'->E (.ref C) none H')∨
  (¬Grt P1 Qs/\AH (xE (QT Qs) mo 0 P1)<=500/\∀(p:Addr) (P:Pl) (H':Hp),H p=none->Same H H'->SumQ K H' p ad P->SumT ad (xE (QT Qs) mo 0 P1) P->Q (.ref p) H'))
inductive PiI(H:Hp)(p1 oa dg:Addr)(P1:Pl)(Qs:List Pl)(i:Nat):L2.St->Hp->Prop where
 | mk {u v w:Option V} {H':Hp} (s:Same H H') (g:∀x∈P1.take i,wz x.1 (dgs Qs)<=16):PiI H p1 oa dg P1 Qs i [some (.ref p1),some (.ref oa),some (.ref dg),u,v,w,none] H'
structure TsI(K:tP)(H1:Hp)(q:Addr)(Td:Nat->Tb)(i:Nat)(ys:List V)(H2:Hp):Prop where
 s:Same H1 H2
 e:H2 q=some (.lst ys)
 y:∃ds:List Addr,ys=ds.map V.ref/\ds.length=i/\∀(j:Nat) (d:Addr),ds[j]? = some d->H1 d=none/\∃kv,H2 d=some (.dK kv)/\Paired (EntQ K H2) kv (Td j)
theorem FO(e:H p=some (.lst xs)){x:Int×Rat}(h:EntQ K H kv x):EntQ K (upd H p (.lst ys)) kv x:=by
 obtain⟨z1,pz,z2,z3⟩:=h;exact{z1,pz,z2,at_updL e z3}
theorem scPi:FnScope ["one","others","degrees","powers","fraction","reached","tables"] ["one","others"] (jI GZ):=scK #[2]
theorem XJ(F:Fun K "put_in" "put_in" GZ f fd)(T:Txt mg)(c:LwE.XCls K C fI bl "ValueError.__new__")(GI:FnOk P w K mg base CX0 1 fI fdI ["self","text"] (LwE.spInit K))(bI:L2.Binds K fdI ["self","text"] [])(hm:mg "TooGreat" = some (.ref C))(GD:DG P w K mg base 1 "degree" wY ["one"] (MP K))(GT:DG P w K mg base 2 "table_of" GV ["one"] (OL K))(DP:Df K mg "table_put_in" BR ["terms","tables","letter"] fP fdP)(GP:∀n,FnOk P w K mg base CX0 (n+6) fP fdP ["terms","tables","letter"] (CU K n))(DS:Df K mg "sum_of" GX ["many","table"] fS fdS)(GS:FnOk P w K mg base (LwE.CXF P w) 3 fS fdS ["many","table"] (JE K C)):FnOk P w K mg base (LwE.CXF P w) 11 f fd ["one","others"] (OM K C):=by
 obtain⟨td,hd⟩:=T.degree;obtain⟨oc,od,kV,doc,pm',an,cdv,ct,osl,rfl,lk,hcd⟩:=F.ex;refine RO lk hcd scPi #[9] (λA outer s H vs Q E hr h=>?_)
 .obtain⟨p1,oa,mo,ad,P1,ps,Qs,U,rfl,_⟩:=h
  rfl
 .obtain⟨p1,oa,mo,ad,P1,ps,Qs,U,rfl,PH,go⟩:=h;obtain⟨q1,o1,c1,_,fw,eo,pq,lp,qo',_,gE',gN'⟩:=id PH;let qo:∀Q∈Qs,PlOk ad Q:=λQ hQ=>let ⟨j,hj⟩:=gK.mp hQ;(qo' j Q hj).ok;have hr3:Room 3 _:=hr.mono #[0];have hr1:Room 1 _:=hr.mono #[0];have hr2:Room 2 _:=hr.mono #[0];have m4:=o1.m4;have hrP:Room (mo+6) _:=hr.mono ∎;have GP:=GP mo;refine{_,jC (xU (i:=2) scPi.nd rfl #[5] (own:=1) (idx:=[]) (N:=["other"]) rfl rfl rfl #[2] #[2] #[72] (vG rfl) rfl #[55] (yF (pv 1)) (λC fp s2 H2=>(jH (i:=0) (show List.Nodup (["other"]:List Str) by decide +kernel) rfl #[5] #[38])) (λC fp s2 H2=>cal GD hr1 (jA (pv 0) jD))) (jC (qC PassesOwn.leaving rfl (wM (jT jW (pv 0) jB #[11])) (qK rfl (jK (jH (i:=3) scPi.nd rfl #[5]) (jK (jH (i:=4) scPi.nd rfl #[5]) kT))) (jC (jM (i:=5) scPi.nd rfl #[5] (kL (FT rfl) (by rfl) T.sum boot_sum (jA (xV (own:=2) (idx:=[]) (N:=["power","most"]) rfl rfl rfl #[2] #[2] #[72] (vG rfl) rfl #[55] (HS (by rfl) T.zip (jA (pv 3) (jA (pv 2) jD))) (λC fp s2 H2=>show PG (jL _ ["power","most"] _ _ C fp s2 H2) _ #[28]from qK (X:=jL _ ["power","most"] _ _ C fp s2 H2) rfl (jK (jH (i:=0) (show List.Nodup (["power","most"]:List Str) by decide +kernel) rfl #[5] #[38]) (jK (jH (i:=1) (show List.Nodup (["power","most"]:List Str) by decide +kernel) rfl #[5] #[38]) kT))) (λC fp s2 H2=>jJ qE (pv 0) (pv 1))) jD))) (jF (qJ (jX wJ (pv 5) (qD (v:=.int 16) (by rfl) hd {_,rfl}) (kM _)) (jF (LwE.ps_raise c GI bI hr2 rfl hm (pe_f2 #[0] (pv 5)))) jY)))) (jC (xU (i:=6) scPi.nd rfl #[5] (own:=1) (idx:=[]) (N:=["other"]) rfl rfl rfl #[2] #[2] #[72] (vG rfl) rfl #[55] (yF (pv 1)) (λC fp s2 H2=>(jH (i:=0) (show List.Nodup (["other"]:List Str) by decide +kernel) rfl #[5] #[38])) (λC fp s2 H2=>cal GT hr2 (jA (pv 0) jD))) (jF (jR (kU GS hr3 rfl DS.m DS.F.kp DS.b .nil LwE.pass_fly (jA (jT jW (jT qQ (pv 1) jB #[11]) jB #[11]) (jA (kU GP hrP rfl DP.m DP.F.kp DP.b .nil vI (jA (jT jW (pv 0) jB #[11]) (jA (pv 6) #[73]))) jD))))))), ?_}
  try dsimp only[cxK]
  have lq:Qs.length=mo:=by rw[<-Paired.length pq];exact lp
  let dg2:∀Q∈Qs,vX Q<=16:=λQ hQ=>AX (qo Q hQ).deg #[0];let d10:∀Q∈Qs,(vX Q).natAbs<2^10:=λQ hQ=>by let:=dg2 Q hQ;let:=wR Q;let:(2:Nat)^10=1024:=rfl;∎
  let lpm:(ps.map V.ref).length=mo:=by rw[mS];exact lp
  let at1:∀{i:Nat} {x:V},(ps.map V.ref)[i]? = some x->∃(a:Addr) (Q:Pl),x=.ref a/\ps[i]? = some a/\Qs[i]? = some Q/\SumQ K H a ad Q/\PlOk ad Q/\Q∈Qs:=fun {i x} hx=>by
   rw[mB]at hx;cases e:ps[i]? with
   | none=>rw[e]at hx;cases hx
   | some a=>
    rw[e]at hx;obtain⟨Q,hQ,hq⟩:=Paired.at pq e;exact{a,Q,(Option.some.inj hx).symm,rfl,hQ,hq,qo Q (gL hQ),gL hQ}
  refine{_,rfl,oa,rfl,{_,SqL.of eo},λl1 H1 n1 s1 e1=>?_};refine xY (K:=K) (a:=oa) (xs:=ps.map V.ref) (CmI (λi=>(Qs.take i).map λQ=>V.int (vX Q)) l1 H) (by rw[lpm,sizeLine_eq];∎) {s1,e1,(rfl)} (λi ys H2 h=>{SqL.of (h.s _ _ eo),h.e}) ?_ ?_
  .rintro i m ys x H2 hx hm hy ⟨s2,e2,ey⟩;obtain⟨p2,P2,rfl,hp2,hQ2,q2,k2,_⟩:=at1 hx;refine{uL,_,rfl,p2,ad,16,P2,rfl,q2.same s2,k2.pd,k2.m4,by decide,by let:=k2.few;∎,λH3 s3=>?_};exact qM hx hm hy (s3 _ _ e2) {jV (s2.trans s3) n1,jE,by rw[ey,mD,hQ2,mT];rfl}
  .rintro ys H2 hl ⟨s2,e2,ey⟩;rw[lpm,<-lq,mL]at ey;subst ey;obtain⟨q,xs,e3,e4,pr⟩:=q1.ex;refine{_,rfl,p1,_,_,_,rfl,rfl,SqT.of (s2 _ _ e3),rfl,q,rfl,{_,SqT.of (s2 _ _ e4)},uM (K:=K) (a:=q) (xs:=xs) (PiI H2 p1 oa l1 P1 Qs) (.mk #[43] λ_ h=>nomatch h) (λi O H3 _ h=>?_) (λi x O H3 hx h=>?_) (fun O H3 h=>?_)}
   .obtain⟨s3,_⟩:=h;exact SqT.of ((s2.trans s3) _ _ e4)
   .obtain⟨s3,g3⟩:=h;obtain⟨y,hy,r,b,c,rfl,r1,r2,r3⟩:=Paired.at pr hx;let ym:=gL hy;let ly:=o1.len y ym;refine gT2 (SqT.of ((s2.trans s3) _ _ r1)) rfl ?_;refine{_,rfl,_,rfl,b,l1,rfl,{_,SqT.of ((s2.trans s3) _ _ r2)},{_,SqL.of (s3 _ _ e2)},λl2 H4 n4 s4 e4'=>?_};refine EI (K:=K) (a:=b) (b:=l1) (ts:=y.1.map V.int) (us:=Qs.map λQ=>V.int (vX Q)) (CmI (λi=>((List.zipWith (· * ·) y.1 (dgs Qs)).take i).map V.int) l2 H3) (by rw[mS,mS,lq];exact ly) (by rw[mS,lq,sizeLine_eq];∎) {s4,e4',(rfl)} (λi ys H5 h=>{SqT.of (h.s _ _ ((s2.trans s3) _ _ r2)),SqL.of (h.s _ _ (s3 _ _ e2)),h.e}) ?_ ?_
    .rintro i m ys x' y' c' H5 hx' hy' hm hyl ⟨s5,e5,ey⟩ hc;rw[mB]at hx';let hy2:=hy';rw[mB]at hy2;cases hQ:Qs[i]? with
     | none=>rw[hQ]at hy2;cases hy2
     | some P2=>
     rw[hQ]at hy2;cases hy2;cases hn:y.1[i]? with
     | none=>rw[hn]at hx';cases hx'
     | some n=>
      rw[hn]at hx';cases hx';let nb:=(vR (o1.nn y ym) (gL hn)).1;let n0:=o1.nn y ym n (gL hn);let nd:=o1.deg y ym;let n10:n.natAbs<2^10:=by let:(2:Nat)^10=1024:=rfl;∎
      let s6:Same H5 (upd H5 c' (.tup [V.int n,.int (vX P2)])):=jO _ hc;refine{c',_,rfl,SqT.of jE,rfl,_,_,rfl,_,_,rfl,rfl,FK,_,rfl,_,rfl,_,_,rfl,rfl,{jQ n10 #[0],jQ (d10 P2 (gL hQ)) #[0]}, ?_};refine qM hy' hm hyl (s6 _ _ e5) {jV (s5.trans s6) n4,jE, ?_};rw[ey,NZ hn (show(dgs Qs)[i]? = some (vX P2) by rw[mB,hQ];rfl),mT]
      rfl
    .rintro ys H5 hl5 ⟨s5,e5,ey⟩;rw[mS,gD (show(List.zipWith (· * ·) y.1 (dgs Qs)).length<=Qs.length by rw[List.length_zipWith,mS];∎)]at ey;subst ey;refine{l2,_,rfl,SqL.of e5, ?_};dsimp only[jP];let dd:y.1.sum<=16:=o1.deg y ym;let sm:=wz_le (o1.nn y ym) (es:=dgs Qs) λe he=>by
      obtain⟨Q,hQ,rfl⟩:=nT.mp he;exact dg2 Q hQ
     let sn:=IP (o1.nn y ym) (ZW (Qs:=Qs));refine{_,rfl,_,_,rfl,rfl,_,rfl, ?_};show(if decide ((16:Int)<wz y.1 (dgs Qs))=true then _ else _);refine wH (λk=>?_) (λk=>?_)
     .have k:=mG k;refine{_,rfl,_,rfl,RZ sn (show wz y.1 (dgs Qs)<=999999 by ∎),by decide, ?_,_,rfl, ?_}
      .have tf:=zW (a:=wz y.1 (dgs Qs)) ∎;simp only[Str.length_append,PySem.ofString_length,sizeLine_eq]at tf ⊢;let z1: "a term that comes to degree ".length=28:=by decide
       unfold wz at tf
       ∎
      .rcases go with⟨_,gE⟩ | ⟨ng,_⟩
       .exact gE _ (s2.trans (s3.trans s5))
       .exact absurd {y,ym,(k)} ng
     .refine .mk (s3.trans s5) λx hx=>?_;rw[mD,hy]at hx;rcases mV.mp hx with hx | hx
      .exact g3 x hx
      .obtain rfl:x=y:=by simpa using hx
       exact Int.not_lt.mp λz=>k (mW z)
   .obtain⟨s3,g3⟩:=h;rw[Paired.length pr,mL]at g3;let ng:¬Grt P1 Qs:=λ⟨x,hx,z⟩=>by let:=g3 x hx;∎
    obtain⟨st1,tda⟩:=PH.tb ng;let tda:=tda o1.m1;let s03:=s2.trans s3;refine{_,rfl,oa,rfl,{_,SqL.of (s03 _ _ eo)},λl6 H4 n4 s4 e4'=>?_};refine xY (K:=K) (a:=oa) (xs:=ps.map V.ref) (TsI K H3 l6 (QT Qs)) (by rw[lpm,sizeLine_eq];∎) {s4,e4',[],rfl,rfl,λ_ _ h=>nomatch h} (λi ys H5 h=>{SqL.of (h.s _ _ (s03 _ _ eo)),h.e}) ?_ ?_
    .rintro i m ys x H5 hx hm hy ⟨s5,e5,ds,rfl,ld,hds⟩;obtain⟨p2,P2,rfl,hp2,hQ2,q2,k2,_⟩:=at1 hx;refine{uL,_,rfl,p2,ad,P2,rfl,q2.same (s03.trans s5),k2,λd aj H6 n6 s6 e6 p6=>?_};let e56:=s6 _ _ e5;let dl:∀{d:Addr} {kv:List (Key×V)},H6 d=some (.dK kv)->d≠l6:=λh z=>by rw[z,e56]at h;cases h
     refine qM hx hm hy e56 {jV (s5.trans s6) n4,jE,ds++[d],by rw[mT];rfl,by rw[List.length_append,ld];rfl,λj d' hd'=>?_};by_cases hj:j<ds.length
     .rw[uX hj]at hd';obtain⟨h1,kv,h2,h3⟩:=hds j d' hd';exact{h1,kv,by rw[jG (dl (s6 _ _ h2))];exact s6 _ _ h2,Paired.to (λ_ _ q=>FO e56 (q.same s6)) h3}
     .rw[uU ∎]at hd';let j0:j-ds.length=0:=by
       let:=(uW.mp hd').1;rw[List.length_singleton]at this
       ∎
      rw[j0]at hd';cases hd';let ji:j=i:=∎
      subst ji;unfold QT;rw[WN hQ2];exact{s5.free n6,aj,by rw[jG (dl e6)];exact e6,Paired.to (λ_ _ q=>FO e56 q) p6}
    .rintro ys H5 hl5 ⟨s5,e5,ds,rfl,ld,hds⟩;rw[lpm]at ld;dsimp only[jP];let s05:=s03.trans s5;let h0:(ps.map V.ref)[0]? = some ((ps.map V.ref)[0]'(by rw[lpm];exact o1.m1)):=uY _;obtain⟨p2,P2,e02,_,_,q2,k2,_⟩:=at1 h0;rw[e02]at h0;obtain⟨qq,xx,f1,_⟩:=(q2.same s05).ex;let gr:=DF (Td:=QT Qs) tda.ok tda.o tda.z mo 0 16 P1 (by rw[mS];∎) st1;refine{_,rfl,oa,_,_,_,rfl,rfl,SqL.of (s05 _ _ eo),(show atI _ ((0:Nat):Int)=_ from zI h0),p2,_,_,_,rfl,rfl,SqT.of f1,rfl,_,rfl,p1,_,_,_,rfl,rfl,SqT.of (s05 _ _ e3),rfl,_,rfl, ?_};refine{q,l6,0,ad,16,dgs Qs,xs,P1,QT Qs,ds,U,rfl,by rw[mS];∎,by rw[mS];∎,by rw[mS];∎,.inl (s05 _ _ e4),λz=>by let:=o1.m1;∎,Paired.to (λ_ _ h=>h.same s05) pr,st1,fw,tda,gE',gN',{e5,λj d hd=>let ⟨_,kv,h2,h3⟩:=hds j d hd;{kv,.inl h2,h3}},λd aj H6 n6 b6 t6 e6 p6=>?_};let s06:Same H H6:=λc u h=>b6 c u (s05 _ _ h) λz=>by obtain⟨j,hj⟩:=gK.mp z;let:=(hds j c hj).1;rw[s03 _ _ h]at this;cases this
     let lg:=gr.ln uP k2.m4;rcases go with⟨gw,gE⟩ | ⟨_,fw',gQ⟩
     .exact{d,ad,aj,_,rfl,.inl e6,p6,gr.nd,∎,λk hk=>(gr.ky k hk).kp uP,k2.m1,k2.m4,.inl {(gw.resolve_left ng).2,λH7 s7=>gE H7 (s06.trans s7)}}
     .exact{d,ad,aj,_,rfl,.inl e6,p6,gr.nd,∎,λk hk=>(gr.ky k hk).kp uP,k2.m1,k2.m4,.inr {fw',λp PP H7 n7 s7 SQ ST=>gQ p PP H7 (s06.free n7) (s06.trans s7) SQ ST}}
end Lw
namespace LwK
open PySem PySem.Spec PyProof.Rows L2 Lw
structure FrS(t b:Int):Prop where
 pos:0<b
 low:Int.gcd t b=1
 st:t.natAbs<2^41
 sb:b.natAbs<2^14
variable{P:Program}{w:World}{K:tP}{mg:Str->Option Value}{base:Heap}{f fd:_}
def OO(c M:Int):Sp:=λvs H Q _=>∃(tp:Addr) (B:Int),vs=[.ref tp]/\∃cl,Tape cl H tp B/\B<M/\
 ∀(r:Addr) (t b:Int) (H':Hp),FrS t b->At2 H' r t b->r≠tp->Tape cl H' tp (B+c)->But tp H H'->(∀c o,H c=some o->c≠r)->Q (.ref r) H'
theorem low_fr{t b:Int}(hb:0<b)(ht:t.natAbs<2^41)(hs:b.natAbs<2^14):FrS (yR t b) (zK t b):=by
 let g1:=LwM.vF t b hb;let gp:0<Int.gcd t b:=∎
 rw[vK hb,xW hb];refine{?_,Int.gcd_ediv_gcd_ediv_gcd gp,qY ht g1,qY hs g1};exact Int.ediv_pos_of_pos_of_dvd hb ∎ (mI ..)
theorem BP{B:Int}(T:Tape cl H tp B)(n:H r=none):r≠tp:=by
 obtain⟨ns,spot,rest,left,z,_⟩:=T;rintro rfl;rw[n]at z;cases z
theorem zQ(b:But p H H')(n:H' r=none)(hr:r≠p):H r=none:=by
 cases q:H r with
 | none=>rfl
 | some o=>rw[b r o q hr]at n;cases n
theorem scNumber:FnScope ["tape","way","top","great"] ["tape"] (jI BX):=scK #[2]
theorem ok_number(F:Fun K "_law_number" "_law_number" BX f fd)(T:Txt mg)(DD:Df K mg "_law_draw" CY ["tape","many"] fD fdD)(DL:Df K mg "_law_low" SY ["top","bottom"] fL fdL):FnOk P w K mg base CX0 2 f fd ["tape"] (OO 6 (2^38)):=by
 let GD:FnOk P w K mg base CX0 1 fD fdD ["tape","many"] spDraw:=QA DD.F T;let GL:FnOk P w K mg base CX0 1 fL fdL ["top","bottom"] spLow:=XN DL.F T;refine F.ok scNumber #[9] #[4]
 .obtain⟨tp,B,rfl,_⟩:=h
  rfl
 .obtain⟨tp,B,rfl,cl,hT,hB,k⟩:=h;refine⟨_,jC (jM (i:=1) scNumber.nd rfl #[5] #[40])
   (jC (jM (i:=2) scNumber.nd rfl #[5] (jJ AT #[40] jB))
   (jC (qJ (jX JW (pv 1) jB (kM _)) (jF (jR (kN (jA (pv 2) #[73])))) jY)
   (jC (qJ (jX JW (pv 1) jB (kM _)) (jF (jR (kU GL hr rfl DL.m DL.F.kp DL.b .nil vI (jA (pv 2) (jA (jJ qA jB #[40]) jD))))) jY)
   (jC (jM (i:=3) scNumber.nd rfl #[5] (jJ wO (kU GD hr rfl DD.m DD.F.kp DD.b .nil vI (jA (pv 0) (jA (jJ HW jB jB) jD))) (jJ AT jB (jJ wO jB #[40]))))
   (jF (jR (kU GL hr rfl DL.m DL.F.kp DL.b .nil vI (jA (pv 3) (jA (jJ qA jB (kU GD hr rfl DD.m DD.F.kp DD.b .nil vI (jA (pv 0) (jA (jJ HW jB jB) jD)))) jD)))))))))
   , ?_⟩
  refine{_,rfl,tp,24,B,rfl,_,hT,∎,by decide,by decide,λway H1 w0 w1 T1 b1=>?_};refine{_,rfl,tp,13,_,rfl,_,T1,∎,by decide,by decide,λtop H2 t0 t1 T2 b2=>{_,_,rfl,rfl, ?_}};let p10:∀n:Int,0<=n->n<=1000000->CPow 10 n:=λn h0 h1=>{h0,h1,by decide};let tell:∀(t b B':Int) (H3:Hp),0<b->t.natAbs<2^41->b.natAbs<2^14->Tape cl H3 tp B'->B'<=B+6->But tp H H3->spLow [.int t,.int b] H3 Q E0:=by
   intro t b B' H3 hb ht hs T3 hB' b3;refine{t,b,rfl,∎,.inl (jQ hs #[0]),λp H4 n4 s4 e4=>?_};refine k p _ _ H4 (low_fr hb ht hs) e4 (BP T3 n4) (T3.mono s4 ∎) (b3.trans (But.of s4)) (λc o hc hp=>?_);subst hp;let:=zQ b3 n4 (BP T3 n4);rw[hc]at this;cases this
  refine{_,rfl,_,_,rfl,rfl,_,rfl, ?_};refine wH (λ_=>?_) (λ_=>?_)
  .refine{_,rfl,uR,λp H3 n3 s3 e3=>?_};refine k p (top-6) 1 H3 {by decide,by simp,∎,by decide} e3 (BP T2 n3) (T2.mono s3 ∎) ((b1.trans b2).trans (But.of s3)) (λc o hc hp=>?_);subst hp;let:=zQ (b1.trans b2) n3 (BP T2 n3);rw[hc]at this;cases this
  .refine{_,rfl,_,_,rfl,rfl,_,rfl, ?_};refine wH (λ_=>?_) (λ_=>?_)
   .refine{_,rfl,_,rfl,tp,7,_,rfl,_,T2,∎,by decide,by decide,λc H3 c0 c1 T3 b3=>{_,_,rfl,rfl, ?_}};exact tell _ _ _ H3 ∎ ∎ ∎ T3 ∎ ((b1.trans b2).trans b3)
   .refine{_,rfl,_,_,rfl,rfl,p10 12 #[0] #[0],tp,_,_,rfl,_,T2,∎,by decide,by decide,λg H3 g0 g1 T3 b3=>?_};refine{_,rfl,tp,2,_,rfl,_,T3,∎,by decide,by decide,λr H4 r0 r1 T4 b4=>?_};refine{_,_,rfl,rfl,.inl {by decide,by decide},_,_,rfl,rfl,_,_,rfl,rfl,.inr {∎,∎}, ?_};refine{_,rfl,_,rfl,_,_,rfl,rfl,p10 4 #[0] #[0],tp,_,_,rfl,_,T4,∎,by decide,by decide,λc H5 c0 c1 T5 b5=>{_,_,rfl,rfl, ?_}};let e12:(10:Int)^(12:Int).toNat=1000000000000:=by decide +kernel
    let e4:(10:Int)^(4:Int).toNat=10000:=by decide +kernel
    rw[e12]at g1;rw[e4]at c1;let hr2:r=0∨r=1:=∎
    refine tell _ _ _ H5 ∎ ?_ ∎ T5 ∎ ((((b1.trans b2).trans b3).trans b4).trans b5);rcases hr2 with rfl | rfl
    .simp only[Int.mul_zero,Int.sub_zero,Int.mul_one]
     ∎
    .rw[show(1:Int)-2*1 = -1 by decide,Int.mul_neg,Int.mul_one,Int.natAbs_neg]
     ∎
open LwQ
def spPlus:Sp:=λvs H Q _=>∃(p q:Addr) (t b o u:Int),vs=[.ref p,.ref q]/\At2 H p t b/\At2 H q o u/\0<b/\0<u/\t.natAbs<2^50000/\b.natAbs<2^50000/\o.natAbs<2^50000/\u.natAbs<2^8000/\
 ∀(r:Addr) (t' b':Int) (H':Hp),H r=none->Same H H'->At2 H' r t' b'->0<b'->b'.natAbs<=b.natAbs*u.natAbs->t'*(b*u)=(t*u+o*b)*b'->Q (.ref r) H'
theorem QI{b u:Int}(h:decide (V.int (b%u)=V.int 0)=true):b=u*(b/u):=by
 let e:b%u=0:=by
  let:=mG h;injection this
 let:=Int.mul_ediv_add_emod b u
 ∎
theorem scPlus:FnScope ["one","other","top"] ["one","other"] (jI OT):=scK #[2]
theorem ok_plus(F:Fun K "_law_plus" "_law_plus" OT f fd):FnOk P w K mg base CX0 1 f fd ["one","other"] spPlus:=by
 refine F.ok scPlus #[9] #[4]
 .obtain⟨p,q,t,b,o,u,rfl,_⟩:=h
  rfl
 .obtain⟨p,q,t,b,o,u,rfl,hp,hq,hb,hu,st,sb,so,su,k⟩:=h;refine⟨_,jC (qJ (jX BC (jJ vT (jT jW (pv 0) jB #[11]) (jT jW (pv 1) jB #[11])) jB (kM _))
    (jF (jR (kN (jA (jJ qA (jT jW (pv 0) jB #[11]) (jJ qE (jT jW (pv 1) jB #[11]) (jJ qV (jT jW (pv 0) jB #[11]) (jT jW (pv 1) jB #[11])))) (jA (jT jW (pv 0) jB #[11]) jD))))) jY)
   (jC (qJ (jX BC (jJ vT (jT jW (pv 1) jB #[11]) (jT jW (pv 0) jB #[11])) jB (kM _))
    (jF (jR (kN (jA (jJ qA (jT jW (pv 1) jB #[11]) (jJ qE (jT jW (pv 0) jB #[11]) (jJ qV (jT jW (pv 1) jB #[11]) (jT jW (pv 0) jB #[11])))) (jA (jT jW (pv 1) jB #[11]) jD))))) jY)
   (jC (jM (i:=2) scPlus.nd rfl #[5] (jJ qA (jJ qE (jT jW (pv 0) jB #[11]) (jT jW (pv 1) jB #[11])) (jJ qE (jT jW (pv 1) jB #[11]) (jT jW (pv 0) jB #[11]))))
   (jF (jR (kN (jA (pv 2) (jA (jJ qE (jT jW (pv 0) jB #[11]) (jT jW (pv 1) jB #[11])) jD))))))), ?_⟩
  let P:=SqT.of (K:=K) hp;let R:=SqT.of (K:=K) hq;let d1:(b/u).natAbs<2^100000:=jQ (qY sb hu) #[0];let d2:(u/b).natAbs<2^100000:=jQ (qY su hb) #[0];let st':t.natAbs<2^100000:=jQ st #[0];let sb':b.natAbs<2^100000:=jQ sb #[0];let so':o.natAbs<2^100000:=jQ so #[0];let su':u.natAbs<2^100000:=jQ su #[0];let lb:b.natAbs<=b.natAbs*u.natAbs:=Nat.le_mul_of_pos_right _ ∎;let lu:u.natAbs<=b.natAbs*u.natAbs:=Nat.le_mul_of_pos_left _ ∎;refine{_,rfl,p,_,_,_,rfl,rfl,P,rfl,_,rfl,q,_,_,_,rfl,rfl,R,rfl,_,_,rfl,rfl,hu,rfl,_,rfl, ?_};refine wH (λe=>?_) (λ_=>?_)
  .refine{_,rfl,p,_,_,_,rfl,rfl,P,rfl,_,rfl,q,_,_,_,rfl,rfl,R,rfl,_,rfl,p,_,_,_,rfl,rfl,P,rfl,_,rfl,q,_,_,_,rfl,rfl,R,rfl,_,_,rfl,rfl,{hu,(su)},_,_,rfl,rfl,{so',(d1)},_,_,rfl,rfl,_,rfl,p,_,_,_,rfl,rfl,P,rfl,uR,λr H1 n1 s1 e1=>?_};refine k r _ _ H1 n1 s1 e1 hb lb ?_;let m:=QI e;generalize b/u=x at m;subst m
   grind
  refine{_,rfl,q,_,_,_,rfl,rfl,R,rfl,_,rfl,p,_,_,_,rfl,rfl,P,rfl,_,_,rfl,rfl,hb,rfl,_,rfl, ?_};refine wH (λe=>?_) (λ_=>?_)
  .have m:=QI e;let bu:b.natAbs<2^8000:=by
    let:b∣u:={_,m};let:=Int.le_of_dvd hu this;exact gX ∎ su
   refine{_,rfl,q,_,_,_,rfl,rfl,R,rfl,_,rfl,p,_,_,_,rfl,rfl,P,rfl,_,rfl,q,_,_,_,rfl,rfl,R,rfl,_,rfl,p,_,_,_,rfl,rfl,P,rfl,_,_,rfl,rfl,{hb,(bu)},_,_,rfl,rfl,{st',(d2)},_,_,rfl,rfl,_,rfl,q,_,_,_,rfl,rfl,R,rfl,uR,λr H1 n1 s1 e1=>?_};refine k r _ _ H1 n1 s1 e1 hu lu ?_;generalize u/b=x at m;subst m
   grind
  .refine{_,rfl,p,_,_,_,rfl,rfl,P,rfl,_,rfl,q,_,_,_,rfl,rfl,R,rfl,_,_,rfl,rfl,{st',(su')},_,rfl,q,_,_,_,rfl,rfl,R,rfl,_,rfl,p,_,_,_,rfl,rfl,P,rfl,_,_,rfl,rfl,{so',(sb')},_,_,rfl,rfl, ?_};refine{_,rfl,_,rfl,p,_,_,_,rfl,rfl,P,rfl,_,rfl,q,_,_,_,rfl,rfl,R,rfl,_,_,rfl,rfl,{sb',(su')},uR,λr H1 n1 s1 e1=>?_};exact k r _ _ H1 n1 s1 e1 (tG hb hu) (Nat.le_of_eq (Int.natAbs_mul _ _)) rfl
open LwV
structure Kp(H H':Hp):Prop where
 tup:∀a xs,H a=some (.tup xs)->H' a=some (.tup xs)
 frz:∀a o x,H a=some (.frz o x)->H' a=some (.frz o x)
theorem Kp.of(s:Same H H'):Kp H H':={λ_ _ e=>s _ _ e,λ_ _ _ e=>s _ _ e}
theorem Kp.trans(h:Kp A B)(k:Kp B C):Kp A C:={λ_ _ e=>k.tup _ _ (h.tup _ _ e),λ_ _ _ e=>k.frz _ _ _ (h.frz _ _ _ e)}
def Soft:HO->Prop
 | .tup _=>False
 | .frz _ _=>False
 | _=>True
theorem Kp.but(b:But p H H')(e:H p=some x)(s:Soft x):Kp H H':=
 {λa xs h=>b _ _ h λz=>by rw[z,e]at h;cases h;exact s,λa o y h=>b _ _ h λz=>by rw[z,e]at h;cases h;exact s}
theorem Kp.butT{B:Int}(b:But tp H H')(T:Tape cl H tp B):Kp H H':=by
 obtain⟨ns,spot,rest,left,z,_⟩:=T;exact Kp.but b z trivial
theorem Kp.upd(e:H p=some x)(s:Soft x):Kp H (upd H p y):=Kp.but (p:=p) (λc o h n=>by rw[jG n];exact h) e s
structure Ent where
 ns:List Int
 c:Addr
 t:Int
 b:Int
 k:Nat
def Ent.kv(e:Ent):List Key×V:=(LwD.ik e.ns,.ref e.c)
def Ent.pr(e:Ent):List Int×Rat:=(e.ns,(e.t:Rat)/(e.b:Rat))
def pl(E:List Ent):Pl:=E.map Ent.pr
theorem HQ(E:List Ent):(pl E).map (·.1)=E.map Ent.ns:=by unfold pl;rw[nX];rfl
structure EntOk(H:Hp)(ad D:Nat)(e:Ent):Prop where
 len:e.ns.length=ad
 nn:∀n∈e.ns,0<=n
 deg:e.ns.sum<=D
 at':At2 H e.c e.t e.b
 pos:0<e.b
 nz:e.t≠0
 sb:e.b.natAbs<=2^e.k
 st:e.t.natAbs<=2^e.k
theorem EntOk.kp{ad D:Nat}(h:EntOk H ad D e)(k:Kp H H'):EntOk H' ad D e:={h.len,h.nn,h.deg,k.tup _ _ h.at',h.pos,h.nz,h.sb,h.st}
structure DB(H:Hp)(ad D:Nat)(E:List Ent):Prop where
 nd:(E.map Ent.ns).Nodup
 each:∀e∈E,EntOk H ad D e
theorem DB.kp{ad D:Nat}(h:DB H ad D E)(k:Kp H H'):DB H' ad D E:={h.nd,λe he=>(h.each e he).kp k}
theorem DB.nil{ad D:Nat} :DB H ad D []:={mZ,λe h=>nomatch h}
theorem DB.up{ad D D':Nat}(h:DB H ad D E)(l:D<=D'):DB H ad D' E:=⟨h.nd,λe he=>by
 let k:=h.each e he;exact{k.len,k.nn,by let:=k.deg;∎,k.at',k.pos,k.nz,k.sb,k.st}⟩
theorem DB.kyp{ad D:Nat}(h:DB H ad D E):∀e∈E,KyD ad D (pk e.ns):=λe he=>{e.ns,(h.each e he).len,(h.each e he).nn,(h.each e he).deg,rfl}
theorem DB.len{ad D:Nat}{E:List Ent}(h:DB H ad D E)(l:D<=16)(m4:ad<=4):E.length<=83521:=by
 let inj:((E.map Ent.ns).map pk).Nodup:=List.pairwise_map.mpr (List.Pairwise.imp_of_mem (fun {a b} ha hb q e=>by
  obtain⟨x,hx,rfl⟩:=nT.mp ha;obtain⟨y,hy,rfl⟩:=nT.mp hb;let kx:=h.each x hx;let ky:=h.each y hy;exact q (AR ad kx.len ky.len (yA kx.nn (by let:=kx.deg;∎)) (yA ky.nn (by let:=ky.deg;∎)) e)) h.nd)
 let:=DO inj λk hk=>by
  rw[nX]at hk;obtain⟨e,he,rfl⟩:=nT.mp hk;exact(h.kyp e he).mem l
 rw[mS,mS]at this;exact nQ (nQ this (EN ad)) (nQ (gO (n:=17) #[0] m4) #[0])
theorem EA{ns ms:List Int}(h:LwD.ik ns=LwD.ik ms):ns=ms:=by
 let:=congrArg (List.map kV) h;rw[LwD.xM,LwD.xM]at this;exact(List.map_inj_right (f:=V.int) (λa b e=>by injection e)).mp this
section
variable{k:List Key}{v v0:V}{L R l:List #[57]}
theorem val_out(h:∀p∈l,p.1≠k):kK l k=none:=by
 unfold kK;rw[List.find?_eq_none.mpr λp hp=>by simp [h p hp]]
 rfl
theorem OB(h:∀p∈L,p.1≠k):kK (L++(k,v)::R) k=some v:=by
 unfold kK;rw[List.find?_append,List.find?_eq_none.mpr λp hp=>by simp [h p hp]];simp
theorem PJ(h:∀p∈l,p.1≠k):qB l k v=l++[(k,v)]:=by
 unfold qB;rw[tN];intro z;obtain⟨p,hp,e⟩:=List.any_eq_true.mp z;exact h p hp (mG e)
theorem QJ(h:∀p∈l,p.1≠k):l.map (λkv=>if kv.1=k then(kv.1,v)else kv)=l:=by
 conv=>rhs;rw[<-List.map_id l]
 exact List.map_congr_left λp hp=>by rw[tN (h p hp)];rfl
theorem put_mid(h1:∀p∈L,p.1≠k)(h2:∀p∈R,p.1≠k):qB (L++(k,v0)::R) k v=L++(k,v)::R:=by
 unfold qB;rw[tO #[14],mT,nH,QJ h1,QJ h2];simp
theorem ZT(h1:∀p∈L,p.1≠k)(h2:∀p∈R,p.1≠k):BH (L++(k,v0)::R) k=L++R:=by
 unfold BH;rw[List.filter_append,mR,List.filter_eq_self.mpr (λp hp=>mW (h1 p hp)),List.filter_eq_self.mpr (λp hp=>mW (h2 p hp))];simp
end
theorem zE{E:List Ent}{ns:List Int}(h:ns∉E.map Ent.ns):∀p∈E.map Ent.kv,p.1≠LwD.ik ns:=by
 intro p hp z;obtain⟨e,he,rfl⟩:=nT.mp hp;exact h (nT.mpr {e,he,EA z})
theorem UK{t b o u t' b':Int}(hb:0<b)(hu:0<u)(hb':0<b')(h:t'*(b*u)=(t*u+o*b)*b'):(t':Rat)/(b':Rat)=(t:Rat)/(b:Rat)+(o:Rat)/(u:Rat):=by
 let h1:(b:Rat)≠0:=by simpa using (show b≠0 by ∎)
 let h2:(u:Rat)≠0:=by simpa using (show u≠0 by ∎)
 let h3:(b':Rat)≠0:=by simpa using (show b'≠0 by ∎)
 let e:(t':Rat)*(b*u)=(t*u+o*b)*b':=by exact_mod_cast h
 grind
theorem sum_fit{t b o u t' b':Int}{k j:Nat}(hb:0<b)(hu:0<u)(l:b'.natAbs<=b.natAbs*u.natAbs)(h:t'*(b*u)=(t*u+o*b)*b')(ht:t.natAbs<=2^k)(sb:b.natAbs<=2^k)(so:o.natAbs<=2^j)(su:u.natAbs<=2^j):t'.natAbs<=2^(k+(j+1))/\b'.natAbs<=2^(k+(j+1)):=by
 let h1:=mY ht su;let h2:=mY so sb;let h3:=mY sb su;rw[<-Nat.pow_add]at h1 h3;rw[<-Nat.pow_add,Nat.add_comm]at h2;let p:0<b.natAbs*u.natAbs:=Nat.mul_pos ∎ ∎;let e:=congrArg Int.natAbs h;rw[Int.natAbs_mul,Int.natAbs_mul,Int.natAbs_mul]at e;let s:(t*u+o*b).natAbs<=t.natAbs*u.natAbs+o.natAbs*b.natAbs:=by
  rw[<-Int.natAbs_mul,<-Int.natAbs_mul];exact Int.natAbs_add_le ..
 let q:t'.natAbs<=(t*u+o*b).natAbs:=Nat.le_of_mul_le_mul_right (e▸gW _ l) p;rw[<-Nat.add_assoc,Nat.pow_succ]
 ∎
def KB(B:List Int->Nat)(E:List Ent):Prop:=∀e∈E,e.k<=B e.ns
theorem KB.up{B B':List Int->Nat}(h:KB B E)(k:∀m,B m<=B' m):KB B' E:=λe he=>nQ (h e he) (k _)
def spPut:Sp:=λvs H Q _=>∃(d b q:Addr) (ns:List Int) (o u:Int) (ad j D:Nat) (E:List Ent) (B:List Int->Nat),vs=[.ref d,.ref b,.ref q]/\H d=some (.dT #[30])/\DB H ad D E/\D<=16/\ad<=4/\KB B E/\B ns<=40000/\j<=7900/\H b=some (.tup #[16])/\ns.length=ad/\(∀n∈ns,0<=n)/\ns.sum<=D/\
 At2 H q o u/\0<u/\u.natAbs<=2^j/\o.natAbs<=2^j/\∀(E':List Ent) (H':Hp),But d H H'->H' d=some (.dT (E'.map Ent.kv))->DB H' ad D E'->KB (λm=>B m+if m=ns then j+1 else 0) E'->
  (∀m,cf (pl E') m=cf (pl E) m+if ns=m then(o:Rat)/(u:Rat)else 0)->E'.length<=E.length+1->Q .non H'
theorem xK{b:Int}{S n:Nat}(hb:b.natAbs<=2^S)(h:S<n):b.natAbs<2^n:=gX hb (gP #[0] h)
theorem scPut:FnScope ["found","powers","number","some"] ["found","powers","number"] (jI SX):=scK #[2]
theorem ok_put(F:Fun K "_law_put" "_law_put" SX f fd)(DP:Df K mg "_law_plus" OT ["one","other"] fP fdP):FnOk P w K mg base CX0 2 f fd ["found","powers","number"] spPut:=by
 let GP:FnOk P w K mg base CX0 1 fP fdP ["one","other"] spPlus:=ok_plus DP.F;refine F.ok scPut #[9] #[4]
 .obtain⟨d,b,q,ns,o,u,ad,j,D,E',B,rfl,_⟩:=h
  rfl
 .obtain⟨d,b,q,ns,o,u,ad,j,D,EE,BB,rfl,hd,hD,D16,m4,kB,hS,hj,hb,hl,hns,hsum,hq,pu,su,so,go⟩:=h;let hu:_+1<cLine:=gX #[10] hr.units;refine⟨_,jC (jM (i:=3) scPut.nd rfl #[5] (kU GP hr rfl DP.m DP.F.kp DP.b .nil vI (jA (DI hu (pv 0) (pv 1) (kN (jA jB #[73])) {rfl,rfl,rfl,(rfl)}) (jA (pv 2) jD))))
   (jF (qJ (jX XH (jT jW (pv 3) jB #[11]) jB (kM _)) (jF (BZ hu (pv 0) (pv 1) (pv 3) rfl))
    (jF (qJ (MT (XD hu (pv 1) (pv 0))) (jF (yC (LwD.WX hu (pv 0) (pv 1) {rfl,rfl,rfl,(rfl)}))) jY)))), ?_⟩
  let hb':H b=some (.tup ((LwD.ik ns).map kV)):=by rw[LwD.xM];exact hb
  let kz:(EE.map Ent.kv).length<sizeLine:=by rw[mS];exact gX (hD.len D16 m4) #[0]
  refine{_,rfl,d,rfl,.inr {_,.inl hd},_,rfl,uR,λz1 H1 n1 s1 e1=>{kK (EE.map Ent.kv) (LwD.ik ns),DGet.t (s1 _ _ hd) (s1 _ _ hb'),_,rfl, ?_}};let uf:u.natAbs<2^8000:=xK su ∎;let of:o.natAbs<2^50000:=xK so ∎;let fin:∀(t b0 t' b':Int) (k:Nat) (r:Addr) (H2:Hp),Same H H2->At2 H2 r t' b'->H1 r=none->0<b'->0<b0->b'.natAbs<=b0.natAbs*u.natAbs->t'*(b0*u)=(t*u+o*b0)*b'->t.natAbs<=2^k->b0.natAbs<=2^k->
    (t':Rat)/(b':Rat)=(t:Rat)/(b0:Rat)+(o:Rat)/(u:Rat)/\(t'.natAbs<=2^(k+(j+1))/\b'.natAbs<=2^(k+(j+1)))/\r≠d:=λt b0 t' b' k r H2 s2 e2 n2 pb pb0 lb eq ht hb0=>
   {UK pb0 pu pb eq,sum_fit pb0 pu lb eq ht hb0 so su,λzz=>by rw[zz,s1 _ _ hd]at n2;cases n2}
  by_cases hin:ns∈EE.map Ent.ns
  .obtain⟨e,he,en⟩:=nT.mp hin;obtain⟨L,R,eE⟩:=List.append_of_mem he;have hE:=hD.each e he;have nd:=hD.nd;rw[eE,mT,nH]at nd;have nL:ns∉L.map Ent.ns:=λy=>by
    rw[<-en]at y;exact(mH.mp nd).2.2 _ y _ (hU ..) rfl
   let nR:ns∉R.map Ent.ns:=λy=>by
    rw[<-en]at y;exact(List.nodup_cons.mp (mH.mp nd).2.1).1 y
   let km:EE.map Ent.kv=L.map Ent.kv++(LwD.ik ns,V.ref e.c)::R.map Ent.kv:=by
    rw[eE,mT,nH,<-en]
    rfl
   let ev:kK (EE.map Ent.kv) (LwD.ik ns)=some (.ref e.c):=by rw[km];exact OB (zE nL)
   rw[ev];let ke:e.k<=BB ns:=en▸kB e he;refine{e.c,q,e.t,e.b,o,u,rfl,s1 _ _ hE.at',s1 _ _ hq,hE.pos,pu,xK hE.st ∎,xK hE.sb ∎,of,uf,λr t' b' H2 n2 s2 e2 pb lb eq=>?_};let s12:Same H H2:=s1.trans s2;obtain⟨ex,rt,rd⟩:=fin e.t e.b t' b' e.k r H2 s12 e2 n2 pb hE.pos lb eq hE.st hE.sb;let hd2:H2 d=some (.dT (EE.map Ent.kv)):=s12 _ _ hd;let hb2:H2 b=some (.tup ((LwD.ik ns).map kV)):=s12 _ _ hb';let bd:∀o,But d H (upd H2 d o):=λo x y hx hn=>by
    rw[jG hn];exact s12 _ _ hx
   let tu:∀o:HO,Kp H (upd H2 d o):=λo=>(Kp.of s12).trans (Kp.upd hd2 trivial);let cE:∀m,cf (pl EE) m=(if ns=m then(e.t:Rat)/(e.b:Rat)else 0)+(cf (pl L) m+cf (pl R) m):=λm=>by
    rw[eE,pl,mT,nH,zG,xJ];show cf (pl L) m+((if e.ns=m then(e.t:Rat)/(e.b:Rat)else 0)+cf (pl R) m)=_;rw[en]
    grind
   refine{_,rfl,r,_,_,_,rfl,rfl,SqT.of e2,rfl,rfl,_,rfl, ?_};refine wH (λnz=>?_) (λnz=>?_)
   .refine{_,rfl,_,rfl,_,rfl,d,_,rfl,DPut.t (k:=LwD.ik ns) hd2 hb2 kz, ?_};let tz:t'≠0:=λy=>by rw[y]at nz;simp at nz
    refine go (L++{ns,r,t',b',e.k+(j+1)}::R) _ (bd _) ?_ {?_,λx hx=>?_} (λx hx=>?_) (λm=>?_) ?_
    .rw[jE,km,put_mid (zE nL) (zE nR),mT,nH]
     rfl
    .rw[mT,nH];rw[en]at nd;exact nd
    .rcases mV.mp hx with hx | hx
     .exact(hD.each x (by rw[eE];exact List.mem_append_left _ hx)).kp (tu _)
     .rcases nI.mp hx with rfl | hx
      .exact{hl,hns,hsum,by show At2 _ r t' b';rw[At2,jG rd];exact e2,pb,tz,rt.2,rt.1}
      .exact(hD.each x (by rw[eE];exact gH _ (gM _ hx))).kp (tu _)
    .rcases mV.mp hx with hx | hx
     .exact nQ (kB x (by rw[eE];exact List.mem_append_left _ hx)) (Nat.le_add_right ..)
     .rcases nI.mp hx with rfl | hx
      .show e.k+(j+1)<=BB ns+if ns=ns then j+1 else 0
       rw[tO rfl];∎
      .exact nQ (kB x (by rw[eE];exact gH _ (gM _ hx))) (Nat.le_add_right ..)
    .rw[cE,pl,mT,nH,zG,xJ];show cf (pl L) m+((if ns=m then(t':Rat)/(b':Rat)else 0)+cf (pl R) m)=_;rw[ex];split<;>grind
    .rw[eE,List.length_append,List.length_append];exact Nat.le_succ _
   .refine{_,rfl,_,rfl,d,_,rfl,DGet.t (k:=LwD.ik ns) hd2 hb2,_,rfl, ?_};rw[ev];refine iteT {_,rfl,d,rfl,.inr {_,.inl hd2},_,rfl,_,LwD.ik ns,_,b,hd2,rfl,hb2,ev, ?_};let tz:t'=0:=by
     by_cases y:t'=0
     .exact y
     .exact absurd (by simp [y]) nz
    refine go (L++R) _ (bd _) ?_ {?_,λx hx=>?_} (λx hx=>nQ (kB x ?_) (Nat.le_add_right ..)) (λm=>?_) ?_
    .rw[jE,km,ZT (zE nL) (zE nR),mT]
    .rw[mT];rw[mH]at nd ⊢;exact{nd.1,(List.nodup_cons.mp nd.2.1).2,λa ha b hb=>nd.2.2 a ha b (gM _ hb)}
    .refine(hD.each x ?_).kp (tu _);rw[eE];rcases mV.mp hx with hx | hx
     .exact List.mem_append_left _ hx
     .exact gH _ (gM _ hx)
    .rw[eE];rcases mV.mp hx with hx | hx
     .exact List.mem_append_left _ hx
     .exact gH _ (gM _ hx)
    .rw[cE,pl,mT,zG];show cf (pl L) m+cf (pl R) m=_;rw[tz]at ex;let:(e.t:Rat)/(e.b:Rat)+(o:Rat)/(u:Rat)=0:=by rw[<-ex];show((0:Int):Rat)/_=0;grind
     split<;>grind
    .rw[eE,List.length_append,List.length_append,mN]
     ∎
  .have ev:kK (EE.map Ent.kv) (LwD.ik ns)=none:=val_out (zE hin);rw[ev];refine{z1,q,0,1,o,u,rfl,e1,s1 _ _ hq,by decide,pu,by show 0<_;exact Nat.pow_pos #[0],by show 1<_;exact Nat.one_lt_pow #[0] #[0],of,uf,λr t' b' H2 n2 s2 e2 pb lb eq=>?_};let s12:Same H H2:=s1.trans s2;obtain⟨ex,rt,rd⟩:=fin 0 1 t' b' 0 r H2 s12 e2 n2 pb #[0] lb eq (tF _) uP ;rw[Nat.zero_add]at rt;let hd2:H2 d=some (.dT (EE.map Ent.kv)):=s12 _ _ hd;let hb2:H2 b=some (.tup ((LwD.ik ns).map kV)):=s12 _ _ hb';let bd:∀o,But d H (upd H2 d o):=λo x y hx hn=>by
    rw[jG hn];exact s12 _ _ hx
   let tu:∀o:HO,Kp H (upd H2 d o):=λo=>(Kp.of s12).trans (Kp.upd hd2 trivial);let ex':(t':Rat)/(b':Rat)=(o:Rat)/(u:Rat):=by rw[ex];show((0:Int):Rat)/_+_=_;grind
   refine{_,rfl,r,_,_,_,rfl,rfl,SqT.of e2,rfl,rfl,_,rfl, ?_};refine wH (λnz=>?_) (λnz=>?_)
   .refine{_,rfl,_,rfl,_,rfl,d,_,rfl,DPut.t (k:=LwD.ik ns) hd2 hb2 kz, ?_};let tz:t'≠0:=λy=>by rw[y]at nz;simp at nz
    refine go (EE++[{ns,r,t',b',j+1}]) _ (bd _) ?_ {?_,λx hx=>?_} (λx hx=>?_) (λm=>?_) (by rw[List.length_append];exact tE _)
    .rw[jE,PJ (zE hin),mT]
     rfl
    .rw[mT,mH];refine{hD.nd,by simp,λa ha b hb=>?_};let:b=ns:=by simpa using hb
     rintro rfl;rw[this]at ha;exact hin ha
    .rcases mV.mp hx with hx | hx
     .exact(hD.each x hx).kp (tu _)
     .rw[hJ]at hx;subst hx;exact{hl,hns,hsum,by show At2 _ r t' b';rw[At2,jG rd];exact e2,pb,tz,rt.2,rt.1}
    .rcases mV.mp hx with hx | hx
     .exact nQ (kB x hx) (Nat.le_add_right ..)
     .rw[hJ]at hx;subst hx;show j+1<=BB ns+if ns=ns then j+1 else 0
      rw[tO rfl];∎
    .rw[pl,mT,zG];show cf (pl EE) m+((if ns=m then(t':Rat)/(b':Rat)else 0)+0)=_;rw[ex'];split<;>grind
   .refine{_,rfl,_,rfl,d,_,rfl,DGet.t (k:=LwD.ik ns) hd2 hb2,_,rfl, ?_};rw[ev];let tz:t'=0:=by
     by_cases y:t'=0
     .exact y
     .exact absurd (by simp [y]) nz
    let o0:(o:Rat)/(u:Rat)=0:=by rw[<-ex',tz];show((0:Int):Rat)/_=0;grind
    refine iteF ?_;refine go EE H2 (But.of s12) hd2 (hD.kp (Kp.of s12)) (kB.up λm=>Nat.le_add_right ..) (λm=>?_) (Nat.le_succ _);rw[o0];split<;>grind
end LwK
namespace LwK
open PySem PySem.Spec PyProof.Rows L2 Lw LwD
inductive BT where
 | nil
 | node (l:BT) (x:Int) (r:BT)
def BT.ins(x:Int):BT->Option BT
 | .nil=>some (.node .nil x .nil)
 | .node l y r=>bif decide (x<y)then(match BT.ins x l with | some l'=>some (.node l' y r) | none=>none)else bif decide (y<x)then(match BT.ins x r with | some r'=>some (.node l y r') | none=>none)else none
def BT.toL:BT->List Int
 | .nil=>[]
 | .node l x r=>l.toL++x::r.toL
def BT.all:List Int->BT->Bool
 | [],_=>true
 | x::r,t=>match BT.ins x t with | some t'=>BT.all r t' | none=>false
theorem BT.ins_perm{x:Int} :∀{t t':BT},BT.ins x t=some t'->t'.toL.Perm (x::t.toL)
 | .nil,t',h=>by cases h;exact .refl _
 | .node l y r,t',h=>by
  unfold BT.ins at h;by_cases h1:x<y
  .rw[mW h1]at h;cases e:BT.ins x l with
   | none=>rw[e]at h;cases h
   | some l'=>
    rw[e]at h;cases h;exact(BT.ins_perm e).append_right _
  .rw[mU h1]at h;by_cases h2:y<x
   .rw[mW h2]at h;cases e:BT.ins x r with
    | none=>rw[e]at h;cases h
    | some r'=>
     rw[e]at h;cases h;show(l.toL++y::r'.toL).Perm (x::(l.toL++y::r.toL));exact(((BT.ins_perm e).cons y).append_left l.toL).trans (((List.Perm.swap x y r.toL).append_left l.toL).trans List.perm_middle)
   .rw[mU h2]at h;cases h
theorem BT.ins_lt{x:Int} :∀{t t':BT},BT.ins x t=some t'->t.toL.Pairwise (· < ·)->t'.toL.Pairwise (· < ·)
 | .nil,t',h,_=>by cases h;exact List.pairwise_singleton _ _
 | .node l y r,t',h,p=>by
  obtain⟨pl,pr,pc⟩:=List.pairwise_append.mp p;obtain⟨py,pr⟩:=List.pairwise_cons.mp pr;unfold BT.ins at h;by_cases h1:x<y
  .rw[mW h1]at h;cases e:BT.ins x l with
   | none=>rw[e]at h;cases h
   | some l'=>
    rw[e]at h;cases h;refine List.pairwise_append.mpr {BT.ins_lt e pl,List.pairwise_cons.mpr {py,(pr)},λa ha b hb=>?_};rcases nI.mp ((BT.ins_perm e).mem_iff.mp ha)with rfl | ha
    .rcases nI.mp hb with rfl | hb
     .exact h1
     .exact Int.lt_trans h1 (py _ hb)
    .exact pc a ha b hb
  .rw[mU h1]at h;by_cases h2:y<x
   .rw[mW h2]at h;cases e:BT.ins x r with
    | none=>rw[e]at h;cases h
    | some r'=>
     rw[e]at h;cases h;refine List.pairwise_append.mpr {pl,List.pairwise_cons.mpr {λb hb=>?_,BT.ins_lt e pr},λa ha b hb=>?_}
     .rcases nI.mp ((BT.ins_perm e).mem_iff.mp hb)with rfl | hb
      .exact h2
      .exact py b hb
     .rcases nI.mp hb with rfl | hb
      .exact pc a ha _ (hU ..)
      .rcases nI.mp ((BT.ins_perm e).mem_iff.mp hb)with rfl | hb
       .exact Int.lt_trans (pc a ha y (hU ..)) h2
       .exact pc a ha b (gM _ hb)
   .rw[mU h2]at h;cases h
theorem BT.all_nd:∀{l:List Int} {t:BT},BT.all l t=true->t.toL.Pairwise (· < ·)->(l++t.toL).Nodup
 | [],t,_,p=>p.imp λh=>Int.ne_of_lt h
 | x::r,t,h,p=>by
  unfold BT.all at h;cases e:BT.ins x t with
  | none=>rw[e]at h;cases h
  | some t'=>
   rw[e]at h;let:=BT.all_nd h (BT.ins_lt e p);refine(List.Perm.nodup_iff ?_).mp this;exact((BT.ins_perm e).append_left r).trans List.perm_middle
theorem QD{l:List Int}(h:BT.all l .nil=true):l.Nodup:=by
 let:=BT.all_nd h List.Pairwise.nil
 rwa [show(BT.nil).toL=[]from rfl,List.append_nil]at this
set_option maxRecDepth 100000 in
theorem hM1:((UZ 1 16).map hT).Nodup:=QD #[2]
set_option maxRecDepth 100000 in
theorem hM2:((UZ 2 16).map hT).Nodup:=QD #[2]
set_option maxRecDepth 100000 in
theorem hM3:((UZ 3 16).map hT).Nodup:=QD #[2]
set_option maxRecDepth 100000 in
theorem hM4:((UZ 4 16).map hT).Nodup:=QD #[2]
structure PwM(ad:Nat)(ns:List Int):Prop where
 len:ns.length=ad
 nn:∀n∈ns,0<=n
 deg:ns.sum<=16
theorem hM_inj{ad:Nat}(m1:1<=ad)(m4:ad<=4){a b:List Int}(ha:PwM ad a)(hb:PwM ad b)(e:hT a=hT b):a=b:=by
 let h1:=EM ad 16 a ha.len ha.nn ha.deg;let h2:=EM ad 16 b hb.len hb.nn hb.deg;let:ad=1∨ad=2∨ad=3∨ad=4:=∎
 rcases this with rfl | rfl | rfl | rfl
 .exact yP hM1 h1 h2 e
 .exact yP hM2 h1 h2 e
 .exact yP hM3 h1 h2 e
 .exact yP hM4 h1 h2 e
def KeyM(ad:Nat)(k:List Key):Prop:=∃ns,k=ik ns/\PwM ad ns
theorem YS{ad:Nat}(m1:1<=ad)(m4:ad<=4)(h:KeyM ad k)(h':KeyM ad k')(e:(tkd P w).hash k=(tkd P w).hash k'):k=k':=by
 obtain⟨ns,rfl,hn⟩:=h;obtain⟨ms,rfl,hm⟩:=h';rw[RK,RK]at e;rw[hM_inj m1 m4 hn hm e]
section
variable{X:Cx}
def rDictM:List V->Hp->VK->Prop:=λxs H Q=>∃(a:Addr) (ad:Nat) (aj:List #[57]),xs=[.ref a]/\Rd H a (.dT aj)/\1<=ad/\ad<=4/\(∀p∈aj,KeyM ad p.1)/\New H (.dT aj) Q
theorem NV:CallR X (.type "dict") rDictM:=by
 intro ae s O H xs us Q I r h;obtain⟨a,ad,aj,rfl,ha,m1,m4,hn,q⟩:=h;obtain⟨u,rfl,ru⟩:=vV r;cases ru;obtain⟨z,lo,ks,rel,dd⟩:=AC I.hok ha;let lz:=Paired.length rel;refine UO lo dd ?_ ∎ λh' D kk=>?_
 .have e:=KTkeys rel;obtain⟨_,_,_,_,_,_,_,_,nd⟩:=id dd;let sm:∀x∈ks.map (·.1),KeyM ad x:=λx hx=>by
   rw[<-e]at hx;obtain⟨p,hp,rfl⟩:=nT.mp hx;exact hn p hp
  let:(ks.map λx=>(tkd X.prog X.w).hash x.1)=(ks.map (·.1)).map λk=>(tkd X.prog X.w).hash k:=by rw[nX];rfl
  rw[this];generalize ks.map (·.1)=l at nd sm;refine List.pairwise_map.mpr (List.Pairwise.imp_of_mem (fun {a b} ha hb hab hs=>hab (YS m1 m4 (sm a ha) (sm b hb) hs)) nd)
 .obtain⟨ob,es,ep,g1,g2,g3,g4,_,g5⟩:=D;refine{.ref s.heap.objs.size,_,I.laid (a:=s.heap.objs.size) (o:=.dT aj) (t':=s.toks) kk uP {∎,beq_eq_false_iff_ne.mpr (Ne.symm (nS I.big)),ks,(KT.keeps rel λc ys e=>?_),ob,es,ep,g1,g2,g3,g4,g5},rfl,q.at (I.hok.fresh uP)};rw[jG (λz=>by rw[z,I.hok.fresh uP]at e;cases e)];exact e
end
end LwK
namespace LwK
open PySem PySem.Spec PyProof.Rows L2 LwQ LwV Lw
structure FQ(H:Hp)(d:Addr)(ad:Nat)(D:Nat)(E:List Ent):Prop where
 fr:∃o,H d=some (.frz o (.dT #[30]))
 db:DB H ad D E
theorem FQ.kp{ad:Nat}{D:Nat}(h:FQ H d ad D E)(k:Kp H H'):FQ H' d ad D E:={h.fr.elim λo e=>{o,k.frz _ _ _ e},h.db.kp k}
theorem FQ.rd{ad:Nat}{D:Nat}{E:List Ent}(h:FQ H d ad D E):Rd H d (.dT #[30]):=.inr h.fr
theorem val_in{E:List Ent}(nd:(E.map Ent.ns).Nodup){e:Ent}(he:e∈E):kK #[30] (LwD.ik e.ns)=some (.ref e.c):=by
 obtain⟨L,R,rfl⟩:=List.append_of_mem he;rw[mT,nH]at nd ⊢;refine OB (zE λy=>?_);exact(mH.mp nd).2.2 _ y _ (hU ..) rfl
theorem WK{E:List Ent}(h:Rd H d (.dT #[30]))(nd:(E.map Ent.ns).Nodup){e:Ent}(he:e∈E)(hb:H b=some (.tup (e.ns.map V.int))):DGet H d (.ref b) (some (.ref e.c)):=
 .inr {_,LwD.ik e.ns,b,h,rfl,by rw[LwD.xM];exact hb,(val_in nd he).symm}
theorem FQ.get{ad:Nat}{D:Nat}(h:FQ H d ad D E){e:Ent}(he:e∈E)(hb:H b=some (.tup (e.ns.map V.int))):DGet H d (.ref b) (some (.ref e.c)):=WK h.rd h.db.nd he hb
theorem zD(E:List Ent):∀p∈E.map Ent.kv,∃ns:List Int,p.1=LwD.ik ns:=λp hp=>by
 obtain⟨e,_,rfl⟩:=nT.mp hp;exact{e.ns,(rfl)}
theorem DB.keyM{ad:Nat}{D:Nat}{E:List Ent}(h:DB H ad D E)(hD:D<=16):∀p∈E.map Ent.kv,KeyM ad p.1:=λp hp=>by
 obtain⟨e,he,rfl⟩:=nT.mp hp;let k:=h.each e he;exact{e.ns,rfl,k.len,k.nn,by let:=k.deg;∎}
theorem zX{d:Addr}{o:Obj}{E:List Ent}{ys:List V}{g:TG}{tb:TS}{D:Ends}{O:L2.St}{H H0:Hp}(ks:LwD.Keyed H0 ys #[30])(Pv:Nat->L2.St->Hp->Prop)(h0:Pv 0 O H)(hl:∀i O H,Pv i O H->H d=some (.frz o (.dT #[30]))/\Kp H0 H)
  (hs:∀i e b O H,E[i]? = some e->e∈E->H b=some (.tup (e.ns.map V.int))->Pv i O H->g (.ref b) O H fun O2 H2=>tb { D with nx:=Pv (i+1),ct:=Pv (i+1),bk:=D.nx } O2 H2) (hd:∀O H,Pv E.length O H->D.nx O H) :
  ∃W:Nat->Nat->L2.St->Hp->Prop,(∃m,W 0 m O H)/\∀i m O H,W i m O H->
   ((LwD.Itk d o #[30] ys).stop i H/\D.nx O H)∨((LwD.Itk d o #[30] ys).go i H/\∃N:L2.St->Hp->Prop,(∀O' H',N O' H'->∃m',m'<m/\W (i+1) m' O' H')/\∀x H',(LwD.Itk d o #[30] ys).yld i H x H'->g x O H' fun O2 H2=>tb { D with nx:=N,ct:=N,bk:=D.nx } O2 H2):=by
 let lk:ys.length=E.length:=by rw[ks.1,mS]
 refine LwD.ZO Pv h0 (λi O H h=>(hl i O H h).1) (λi x O H hx h=>?_) (fun O H h=>hd O H (by rw[<-lk];exact h));let hi:i<E.length:=by rw[<-lk];exact(uW.mp hx).1
 obtain⟨e,he⟩:∃e,E[i]? = some e:={E[i],by simp [hi]};obtain⟨b,ns',rfl,hb,hns⟩:=ks.2 i x e.kv hx (by rw[mB,he];rfl);let ens:e.ns=ns':=EA hns;subst ens;exact hs i e b O H he (gL he) ((hl i O H h).2.tup _ _ hb) h
theorem uC{E:List Ent}{i:Nat}{e:Ent}(he:E[i]? = some e):pl (E.take (i+1))=pl (E.take i)++[e.pr]:=by
 rw[mD,he];unfold pl;rw[mT]
 rfl
theorem jV(s:Same H H')(n:H l=none):Same H (upd H' l o):=λc u h=>by
 rw[jG (jS h n)];exact s c u h
structure CmI(F:Nat->List V)(q:Addr)(H1:Hp)(i:Nat)(ys:List V)(H2:Hp):Prop where
 s:Same H1 H2
 e:H2 q=some (.lst ys)
 y:ys=F i
theorem UR{K:tP}{a b:Addr}{ts us:List V}{O0:L2.St}{g:TG}{te:TE}{Q:VK}{p:Addr}{H':Hp}(Pv:Nat->List V->Hp->Prop)(hle:us.length=ts.length)(hz:us.length<sizeLine)(h0:Pv 0 [] H')
  (hl:∀i ys H2,Pv i ys H2->SqT K H2 a ts/\SqT K H2 b us/\H2 p=some (.lst ys))
  (hs:∀i m ys x y c H2,ts[i]? = some x->us[i]? = some y->m=us.length-i->ys.length=i->Pv i ys H2->H2 c=none->g (.ref c) O0 (upd H2 c (.tup [x,y])) fun O4 H4=>Keep O0 O4/\te O4 H4 λy H5=>H5 p=some (.lst ys)/\∃m',m'<m/\CompW us Pv (i+1) m' (ys++[y]) #[42])
  (hd:∀ys H2,ys.length=us.length->Pv us.length ys H2->Q (.ref p) H2):CompGoF O0 (Itz K a b) g te Q p H':=by
 refine{CompW us Pv,{_,rfl,tF _,rfl,h0}, ?_};rintro i m ys H2 ⟨hm,hi,hy,hp⟩;obtain⟨q1,q2,e⟩:=hl i ys H2 hp;refine{e,∎, ?_};by_cases hlt:i<us.length
 .have h2:i<ts.length:=∎
  refine .inr {{ts,us,ts[i],us[i],q1,q2,by simp [h2],by simp [hlt]}, ?_};rintro _ _ ⟨c,x,y,hc,rfl,rfl,h1,h2⟩;exact hs i m ys x y c H2 (h1 _ q1) (h2 _ q2) hm hy hp hc
 .obtain rfl:i=us.length:=∎
  exact .inl {{ts,us,q1,q2,.inr uP},hd ys H2 hy hp}
abbrev rTupOf(K:tP):List V->Hp->VK->Prop:=λxs H Q=>∃p ys,xs=[.ref p]/\((SqL K H p ys/\∀l,H l=none->Q (.ref l) (upd H l (.tup ys)))∨(SqT K H p ys/\Q (.ref p) H))
abbrev tBoth(K:tP)(i j:Nat):TE:=tCB (rTupOf K) (vY (MM 2 [] (iZipT K (vY (jZ i) (vY (jZ j) tNil))) #[28] (tOp #[54] (jZ 0) (jZ 1))) tNil)
theorem dBoth{K:tP}{i j:Nat}{O:L2.St}{H:Hp}{a b:Addr}{as bs:List Int}{Q:VK}(e1:O[i]? = some (some (.ref a)))(e2:O[j]? = some (some (.ref b)))(ha:H a=some (.tup (as.map V.int)))(hb:H b=some (.tup (bs.map V.int)))(hl:bs.length=as.length)(h4:bs.length<=4)
  (q:∀p H',H p=none->Same H H'->H' p=some (.tup ((qS as bs).map V.int))->Q (.ref p) H'):tBoth K i j O H Q:=by
 refine{_,e1,_,e2,a,b,rfl,{_,SqT.of ha},{_,SqT.of hb},λl H1 n1 s1 h1=>?_};refine UR (K:=K) (a:=a) (b:=b) (ts:=as.map V.int) (us:=bs.map V.int) (CmI (λk=>((qS as bs).take k).map V.int) l H) (by simp [hl]) (by rw[mS];exact gX h4 #[0]) {s1,h1,(rfl)} (λk ys H2 h=>{SqT.of (h.s _ _ ha),SqT.of (h.s _ _ hb),h.e}) ?_ ?_
 .rintro k m ys x y c H2 hx hy hm hyl ⟨s2,h2,ey⟩ hc;rw[mB]at hx hy;obtain⟨x',hx',rfl⟩:=Option.map_eq_some_iff.mp hx;obtain⟨y',hy',rfl⟩:=Option.map_eq_some_iff.mp hy;let s3:Same H2 (upd H2 c (.tup [.int x',.int y'])):=jO _ hc;refine{c,_,rfl,SqT.of jE,rfl,_,_,rfl,_,_,rfl,rfl,FK,_,rfl,_,rfl,_,_,rfl,rfl, ?_};refine qM (by rw[mB,hy'];rfl) hm hyl (s3 _ _ h2) {jV (s2.trans s3) n1,jE, ?_};rw[ey,mD,mT]
  congr 1
  let:(qS as bs)[k]? = some (x'+y'):=by unfold qS;rw[List.getElem?_zipWith,hx',hy']
  rw[this]
  rfl
 .rintro ys H2 hyl ⟨s2,h2,ey⟩;let el:(qS as bs).length=bs.length:=by unfold qS;rw[List.length_zipWith];∎
  rw[mS,<-el,mL]at ey;refine{l,_,rfl,.inl {SqL.of h2,λp np=>?_}};rw[ey];exact q p _ (s2.free np) (s2.trans (jO _ np)) jE
theorem yM:∀{as bs:List Int},as.length=bs.length->(qS as bs).sum=as.sum+bs.sum
 | [],[],_=>rfl
 | a::as,b::bs,h=>by
  show(a+b)+(qS as bs).sum=(a+as.sum)+(b+bs.sum);rw[yM #[62]]
  ∎
theorem uF{as bs:List Int}(ha:∀n∈as,0<=n)(hb:∀n∈bs,0<=n):∀n∈qS as bs,0<=n:=λn hn=>by
 obtain⟨i,hi⟩:=gK.mp hn;unfold qS at hi;rw[List.getElem?_zipWith]at hi;split at hi
 .rename_i x y h1 h2;cases hi;let:=ha x (gL h1);let:=hb y (gL h2)
  ∎
 .cases hi
def VY(K:tP):Sp:=λvs H Q _=>∃(p q:Addr) (t b o u:Int),vs=[.ref p,.ref q]/\SqT K H p [.int t,.int b]/\SqT K H q [.int o,.int u]/\t.natAbs<2^50000/\b.natAbs<2^50000/\o.natAbs<2^50000/\u.natAbs<2^50000/\
 ∀(r:Addr) (H':Hp),H r=none->Same H H'->At2 H' r (t*o) (b*u)->Q (.ref r) H'
variable{P:Program}{w:World}{K:tP}{mg:Str->Option Value}{base:Heap}{f fd:_}
theorem scLMul:FnScope ["one","other"] ["one","other"] (jI OV):=scK #[2]
theorem ok_lmul(F:Fun K "_law_mul" "_law_mul" OV f fd):FnOk P w K mg base CX0 1 f fd ["one","other"] (VY K):=by
 refine F.ok scLMul #[9] #[4]
 .obtain⟨p,q,t,b,o,u,rfl,_⟩:=h
  rfl
 .obtain⟨p,q,t,b,o,u,rfl,hp,hq,st,sb,so,su,k⟩:=h;refine{_,jF (jR (kN (jA (jJ qE (jT jW (pv 0) jB #[11]) (jT jW (pv 1) jB #[11])) (jA (jJ qE (jT jW (pv 0) jB #[11]) (jT jW (pv 1) jB #[11])) jD)))), ?_};try dsimp only[cxK]
  let up:∀{a:Int},a.natAbs<2^50000->a.natAbs<2^100000:=λh=>jQ h #[0];exact rvT rfl hp rfl (rvT rfl hq rfl {_,_,rfl,rfl,{up st,up so},rvT rfl hp rfl (rvT rfl hq rfl {_,_,rfl,rfl,{up sb,up su},uR,k})})
theorem JK(s:Same H H1)(b:But p H1 H2)(n:H p=none):Same H H2:=λc o h=>b _ _ (s _ _ h) (λz=>by rw[z,n]at h;cases h)
def spAdded:Sp:=λvs H Q _=>∃(d1 d2:Addr) (ad D:Nat) (E1 E2:List Ent) (k1 k2:Nat),vs=[.ref d1,.ref d2]/\FQ H d1 ad D E1/\FQ H d2 ad D E2/\1<=ad/\ad<=4/\D<=16/\KB (λ_=>k1) E1/\KB (λ_=>k2) E2/\k1<=40000/\k2<=7900/\
 ∀(p:Addr) (E':List Ent) (H':Hp),H p=none->Same H H'->H' p=some (.dT (E'.map Ent.kv))->DB H' ad D E'->KB (λ_=>k1+(k2+1)) E'->(∀m,cf (pl E') m=cf (pl E1) m+cf (pl E2) m)->Q (.ref p) H'
inductive AdI(H H1:Hp)(d1 d2 p:Addr)(ad D:Nat)(E1 E2:List Ent)(k1 k2:Nat)(i:Nat):L2.St->Hp->Prop where
 | mk {u:Option V} {H':Hp} {E':List Ent} (s:Same H H') (k:Kp H1 H') (e:H' p=some (.dT (E'.map Ent.kv))) (db:DB H' ad D E') (kb:KB (λm=>k1+if m∈(E2.take i).map Ent.ns then k2+1 else 0) E') (c:∀m,cf (pl E') m=cf (pl E1) m+cf (pl (E2.take i)) m):AdI H H1 d1 d2 p ad D E1 E2 k1 k2 i [some (.ref d1),some (.ref d2),some (.ref p),u] H'
theorem QC{E:List Ent}{i:Nat}{e:Ent}(nd:(E.map Ent.ns).Nodup)(he:E[i]? = some e):e.ns∉(E.take i).map Ent.ns:=λh=>by
 rw[nN]at h;obtain⟨j,hj⟩:=gK.mp h;let hi:i<E.length:=(uW.mp he).1;let hji:j<i:=by
  let:=(uW.mp hj).1;rw[mJ]at this
  ∎
 rw[uZ hji]at hj;let g2:(E.map Ent.ns)[i]? = some e.ns:=by rw[mB,he];rfl
 let:=(List.getElem?_inj (by rw[mS];∎) nd).mp (hj.trans g2.symm)
 ∎
theorem scAdded:FnScope ["one","other","found","powers"] ["one","other"] (jI HL):=scK #[2]
theorem ok_ladd(F:Fun K "_law_added" "_law_added" HL f fd)(T:Txt mg)(GT:DG P w K mg base 2 "_law_put" SX ["found","powers","number"] spPut):FnOk P w K mg base CX0 3 f fd ["one","other"] spAdded:=by
 refine F.ok scAdded #[9] #[4]
 .obtain⟨d1,d2,ad,D,E1,E2,k1,k2,rfl,_⟩:=h
  rfl
 .obtain⟨d1,d2,ad,D,E1,E2,k1,k2,rfl,h1,h2,m1,m4,hD,kb1,kb2,hb1,hb2,go⟩:=h;let hu:_+1<cLine:=gX #[10] hr.units;refine⟨_,jC (jM (i:=2) scAdded.nd rfl #[5] (qL NV (by rfl) T.dct boot_dict (jA (pv 0) jD)))
   (jC (qC PassesOwn.never rfl (LwD.yW (pv 1)) (jH (i:=3) scAdded.nd rfl #[5])
    (jF (yC (cal GT hr (jA (pv 2) (jA (pv 3) (jA (vO hu (pv 1) (pv 3) #[11]) jD)))))))
   (jF (jR (pv 2)))), ?_⟩
  try dsimp only[cxK]
  refine{_,rfl,d1,ad,_,rfl,h1.rd,m1,m4,h1.db.keyM hD,λp H1 n1 s1 e1=>?_};obtain⟨o2,f2⟩:=(h2.kp (Kp.of s1)).fr;refine{_,rfl,d2,o2,_,rfl,f2,zD E2,λks hks=>?_};refine zX hks (AdI H H1 d1 d2 p ad D E1 E2 k1 k2) (.mk s1 (Kp.of #[43]) e1 (h1.db.kp (Kp.of s1)) (kb1.up λm=>Nat.le_add_right ..) λm=>by show _=_+(0:Rat);grind) (λi O H2 h=>?_) (λi e b O H2 he eM hb h=>?_) (fun O H2 h=>?_)
  .obtain⟨s2,k,e2,db,kb,c⟩:=h;exact{k.frz _ _ _ f2,k}
  .obtain⟨s2,k,e2,db,kb,c⟩:=h;let kE:=(h2.db.each e eM).kp (Kp.of s2);refine{_,rfl,_,rfl,_,rfl,_,rfl,d2,_,rfl,(h2.kp (Kp.of s2)).get eM hb,p,b,e.c,e.ns,e.t,e.b,ad,k2,D,_,_,rfl,e2,db,hD,m4,kb, ?_,hb2,hb,kE.len,kE.nn,kE.deg,kE.at',kE.pos,nQ kE.sb (gO #[0] (kb2 e eM)),nQ kE.st (gO #[0] (kb2 e eM)),λE' H3 b3 e3 db3 kb3 c3 _=>?_}
   .show k1+_<=40000;rw[tN (QC h2.db.nd he)];exact hb1
   .refine .mk (JK s2 b3 n1) (k.trans (Kp.but b3 e2 trivial)) e3 db3 (kb3.up λm=>?_) λm=>?_
    .show k1+_+_<=k1+_;rw[mD,he,mT];by_cases q:m=e.ns
     .rw[tO q,tO (gH _ (by rw[q];exact hU ..)),q,tN (QC h2.db.nd he)]
      ∎
     .rw[tN q];by_cases r:m∈(E2.take i).map Ent.ns
      .rw[tO r,tO (List.mem_append_left _ r)];exact tE _
      .rw[tN r];∎
    .rw[c3,c,uC he,zG];show _=_+(_+((if e.ns=m then(e.t:Rat)/(e.b:Rat)else 0)+0))
     grind
  .obtain⟨s2,k,e2,db,kb,c⟩:=h;rw[mL]at c;exact{_,rfl,go p _ H2 n1 s2 e2 db (kb.up λm=>by split<;>∎) c}
def hb(c:Nat)(e:Ent)(F:List Ent)(m:List Int):Nat:=(F.map λf=>if m=qS e.ns f.ns then c else 0).sum
def hA(c:Nat)(E F:List Ent)(m:List Int):Nat:=(E.map λe=>hb c e F m).sum
theorem YY(c:Nat)(e:Ent)(F G:List Ent)(m:List Int):hb c e (F++G) m=hb c e F m+hb c e G m:=by
 unfold hb;rw[mT,List.sum_append]
theorem hA_app(c:Nat)(E E' F:List Ent)(m:List Int):hA c (E++E') F m=hA c E F m+hA c E' F m:=by
 unfold hA;rw[mT,List.sum_append]
def hc(c:Nat)(E:List Ent)(f:Ent)(m:List Int):Nat:=(E.map λe=>if m=qS e.ns f.ns then c else 0).sum
theorem RM(c:Nat)(f:Ent)(F:List Ent)(m:List Int):∀E:List Ent,hA c E (f::F) m=hc c E f m+hA c E F m
 | []=>rfl
 | e::E=>by
  show(if m=qS e.ns f.ns then c else 0)+hb c e F m+hA c E (f::F) m=(if m=qS e.ns f.ns then c else 0)+hc c E f m+(hb c e F m+hA c E F m);rw[RM c f F m E]
  ∎
theorem JV:∀{a b c:List Int},b.length=a.length->c.length=a.length->qS a b=qS a c->b=c
 | [],[],[],_,_,_=>rfl
 | x::a,y::b,z::c,h1,h2,h=>by
  let h:(x+y)::qS a b=(x+z)::qS a c:=h;injection h with e1 e2
  rw[JV (by simpa using h1) (by simpa using h2) e2,show y=z by ∎]
theorem wN:∀(a b:List Int),qS a b=qS b a
 | [],[]=>rfl
 | [],_::_=>rfl
 | _::_,[]=>rfl
 | x::a,y::b=>by
  show(x+y)::qS a b=(y+x)::qS b a;rw[wN a b,Int.add_comm]
theorem hc_le{c ad:Nat}{f:Ent}{m:List Int}(lf:f.ns.length=ad):∀{E:List Ent},(E.map Ent.ns).Nodup->(∀e∈E,e.ns.length=ad)->hc c E f m<=c/\(hc c E f m≠0->∃e∈E,m=qS e.ns f.ns)
 | [],_,_=>{tF _,λh=>absurd rfl h}
 | e::E,nE,lE=>by
  obtain⟨ne,nE⟩:=List.nodup_cons.mp nE;obtain⟨h1,h2⟩:=hc_le (c:=c) (m:=m) lf nE λx hx=>lE x (gM _ hx);show(if m=qS e.ns f.ns then c else 0)+hc c E f m<=c/\_;by_cases q:m=qS e.ns f.ns
  .refine{?_,λ_=>{e,hU ..,q}};rw[tO q];by_cases z:hc c E f m=0
   .lia
   .obtain⟨x,hx,e2⟩:=h2 z;let:=q.symm.trans e2;rw[wN e.ns,wN x.ns]at this;let:=JV (by rw[lf,lE e (hU ..)]) (by rw[lf,lE x (gM _ hx)]) this;exact absurd (this▸List.mem_map_of_mem hx) ne
  .refine{by rw[tN q];∎,λz=>?_};obtain⟨x,hx,e2⟩:=h2 λy=>z (by show(if m=qS e.ns f.ns then c else 0)+hc c E f m=0;rw[tN q,y]);exact{x,gM _ hx,e2}
theorem hA_le{c ad:Nat}{m:List Int}{E:List Ent}(nE:(E.map Ent.ns).Nodup)(lE:∀e∈E,e.ns.length=ad):∀{F:List Ent},(∀f∈F,f.ns.length=ad)->hA c E F m<=F.length*c
 | [],_=>by
  let:∀E:List Ent,hA c E [] m=0:=λE=>by
   induction E with
   | nil=>rfl
   | cons e E ih=>show 0+hA c E [] m=0;rw[ih]
  rw[this];exact tF _
 | f::F,lF=>by
  let h1:=(hc_le (c:=c) (m:=m) (lF f (hU ..)) nE lE).1;let h2:=hA_le (c:=c) (m:=m) nE lE (F:=F) λx hx=>lF x (gM _ hx);rw[RM,mN,Nat.succ_mul]
  ∎
theorem RL{c:Nat}{E F:List Ent}{i:Nat}(he:E[i]? = some e)(m:List Int):hA c (E.take (i+1)) F m=hA c (E.take i) F m+hb c e F m:=by
 rw[mD,he,hA_app];show _+(hb c e F m+0)=_
 rfl
theorem hb_take{c:Nat}{e:Ent}{F:List Ent}{j:Nat}{f:Ent}(hf:F[j]? = some f)(m:List Int):hb c e (F.take (j+1)) m=hb c e (F.take j) m+if m=qS e.ns f.ns then c else 0:=by
 rw[mD,hf,YY];show _+((if m=qS e.ns f.ns then c else 0)+0)=_
 rfl
theorem hb_part(c:Nat)(e:Ent)(F:List Ent)(j:Nat)(m:List Int):hb c e (F.take j) m<=hb c e F m:=by
 conv=>rhs;rw[<-List.take_append_drop j F,YY]
 exact Nat.le_add_right ..
def spProd:Sp:=λvs H Q _=>∃(d1 d2:Addr) (ad D1 D2:Nat) (E F:List Ent) (k1 k2:Nat),vs=[.ref d1,.ref d2]/\FQ H d1 ad D1 E/\FQ H d2 ad D2 F/\ad<=4/\D1+D2<=16/\KB (λ_=>k1) E/\KB (λ_=>k2) F/\k1+k2<=7900/\F.length*(k1+k2+1)<=7900/\
 ∀(p:Addr) (E':List Ent) (H':Hp),H p=none->Same H H'->H' p=some (.dT (E'.map Ent.kv))->DB H' ad (D1+D2) E'->KB (λ_=>7900) E'->(∀m,cf (pl E') m=cf (mul (pl E) (pl F)) m)->Q (.ref p) H'
inductive PrI(H H1:Hp)(d1 d2 p:Addr)(ad D c:Nat)(E F:List Ent)(i:Nat):L2.St->Hp->Prop where
 | mk {u v x:Option V} {H':Hp} {E':List Ent} (s:Same H H') (k:Kp H1 H') (e:H' p=some (.dT (E'.map Ent.kv))) (db:DB H' ad D E') (kb:KB (hA c (E.take i) F) E') (cv:∀m,cf (pl E') m=cf (mul (pl (E.take i)) (pl F)) m):PrI H H1 d1 d2 p ad D c E F i [some (.ref d1),some (.ref d2),some (.ref p),u,v,x] H'
inductive PrJ(H H1:Hp)(d1 d2 p b:Addr)(ad D c:Nat)(E F:List Ent)(i:Nat)(e:Ent)(j:Nat):L2.St->Hp->Prop where
 | mk {v x:Option V} {H':Hp} {E':List Ent} (s:Same H H') (k:Kp H1 H') (eb:H' b=some (.tup (e.ns.map V.int))) (e':H' p=some (.dT (E'.map Ent.kv))) (db:DB H' ad D E') (kb:KB (λm=>hA c (E.take i) F m+hb c e (F.take j) m) E') (cv:∀m,cf (pl E') m=cf (mul (pl (E.take i)) (pl F)) m+cf (row e.pr (pl (F.take j))) m):PrJ H H1 d1 d2 p b ad D c E F i e j [some (.ref d1),some (.ref d2),some (.ref p),some (.ref b),v,x] H'
theorem ent_mul{e e2:Ent} :((e.t*e2.t:Int):Rat)/((e.b*e2.b:Int):Rat)=(e.t:Rat)/(e.b:Rat)*((e2.t:Rat)/(e2.b:Rat)):=by
 rw[Rat.intCast_mul,Rat.intCast_mul]
 grind
theorem scProd:FnScope ["one","other","found","powers","more","both"] ["one","other"] (jI OS):=scK #[2]
theorem ok_prod(F:Fun K "_law_product" "_law_product" OS f fd)(T:Txt mg)(GT:DG P w K mg base 2 "_law_put" SX ["found","powers","number"] spPut)(GM:DG P w K mg base 1 "_law_mul" OV ["one","other"] (VY K)):FnOk P w K mg base CX0 3 f fd ["one","other"] spProd:=by
 refine F.ok scProd #[9] #[4]
 .obtain⟨d1,d2,ad,D1,D2,E1,F1,k1,k2,rfl,_⟩:=h
  rfl
 .obtain⟨d1,d2,ad,D1,D2,EE,FF,k1,k2,rfl,h1,h2,m4,D16,b1,b2,hk,hn,go⟩:=h;let hu:_+1<cLine:=gX #[10] hr.units;let hr1:Room 1 _:=hr.mono #[0];refine⟨_,jC (jM (i:=2) scProd.nd rfl #[5] uD)
   (jC (qC PassesOwn.never rfl (LwD.yW (pv 0)) (jH (i:=3) scProd.nd rfl #[5])
    (jF (qC PassesOwn.never rfl (LwD.yW (pv 1)) (jH (i:=4) scProd.nd rfl #[5])
     (jC (jM (i:=5) scProd.nd rfl #[5] (qL qX (by rfl) T.tup boot_tuple (jA
      (xV (own:=2) (idx:=[]) (N:=["a","b"]) rfl rfl rfl #[2] #[2] #[72] (vG rfl) rfl #[55] (pi_zipT (by rfl) T.zip (jA (pv 3) (jA (pv 4) jD)))
       (λC fp s2 H2=>show PG (jL _ ["a","b"] _ _ C fp s2 H2) _ #[28]from qK (X:=jL _ ["a","b"] _ _ C fp s2 H2) rfl (jK (jH (i:=0) (show List.Nodup (["a","b"]:List Str) by decide +kernel) rfl #[5] #[38]) (jK (jH (i:=1) (show List.Nodup (["a","b"]:List Str) by decide +kernel) rfl #[5] #[38]) kT)))
       (λC fp s2 H2=>jJ qA (pv 0) (pv 1))) jD)))
     (jF (yC (cal GT hr (jA (pv 2) (jA (pv 5) (jA (cal GM hr1 (jA (vO hu (pv 0) (pv 3) #[11]) (jA (vO hu (pv 1) (pv 4) #[11]) jD))) jD))))))))))
   (jF (jR (pv 2)))), ?_⟩
  try dsimp only[cxK]
  intro p np;let s1:Same H (upd H p (.dT [])):=jO _ np;generalize hH1:upd H p (.dT [])=H1 at s1;let e1:H1 p=some (.dT (([]:List Ent).map Ent.kv)):=hH1▸jE;obtain⟨o1,f1⟩:=(h1.kp (Kp.of s1)).fr;obtain⟨o2,f2⟩:=(h2.kp (Kp.of s1)).fr;let lE:∀e∈EE,e.ns.length=ad:=λe he=>(h1.db.each e he).len;let lF:∀e∈FF,e.ns.length=ad:=λe he=>(h2.db.each e he).len;let ha:∀i m,hA (k1+k2+1) (EE.take i) FF m<=7900:=λi m=>nQ (hA_le (by rw[nN];exact h1.db.nd.sublist (List.take_sublist ..)) (λe he=>lE e (gT he)) lF) hn;refine{_,rfl,d1,o1,_,rfl,f1,zD EE,λks hks=>?_};refine zX hks (PrI H H1 d1 d2 p ad (D1+D2) (k1+k2+1) EE FF) (.mk s1 (Kp.of #[43]) e1 .nil (λe h=>nomatch h) λm=>rfl) (λi O H2 h=>?_) (λi e b O H2 he eM hbb h=>?_) (fun O H2 h=>?_)
  .obtain⟨s2,k,e2,db,kb,c⟩:=h;exact{k.frz _ _ _ f1,k}
  .obtain⟨s2,k,e2,db,kb,c⟩:=h;refine{_,rfl,d2,o2,_,rfl,k.frz _ _ _ f2,zD FF,λks2 hks2=>?_};let kE:=h1.db.each e eM;refine zX hks2 (PrJ H H2 d1 d2 p b ad (D1+D2) (k1+k2+1) EE FF i e) (.mk s2 (Kp.of #[43]) hbb e2 db (kb.up λm=>Nat.le_add_right ..) λm=>by rw[c];show _=_+(0:Rat);grind) (λj O H3 h=>?_) (λj e3 b3 O H3 he3 eM3 hb3 h=>?_) (fun O H3 h=>?_)
   .obtain⟨s3,k3,eb3,e3,db3,kb3,c3⟩:=h;exact{k3.frz _ _ _ (k.frz _ _ _ f2),k3}
   .obtain⟨s3,k3,eb3,e3',db3,kb3,c3⟩:=h;let kE3:=h2.db.each e3 eM3;let ke1:e.k<=k1:=b1 e eM;let ke2:e3.k<=k2:=b2 e3 eM3;dsimp only[jP,vB,xS];refine dBoth (a:=b) (b:=b3) (as:=e.ns) (bs:=e3.ns) rfl rfl eb3 hb3 (by rw[kE.len,kE3.len]) (by rw[kE3.len];exact m4) λkb' H4 n4 s4 e4=>?_;let K4:=Kp.of s4;let F1:=h1.kp (Kp.of (s3.trans s4));let F2:=h2.kp (Kp.of (s3.trans s4));refine{_,rfl,_,rfl,_,rfl,_,rfl,d1,_,rfl,F1.get eM (s4 _ _ eb3),_,rfl,_,rfl,d2,_,rfl,F2.get eM3 (s4 _ _ hb3),e.c,e3.c,e.t,e.b,e3.t,e3.b,rfl,SqT.of (F1.db.each e eM).at',SqT.of (F2.db.each e3 eM3).at',xK kE.st ∎,xK kE.sb ∎,xK kE3.st ∎,xK kE3.sb ∎,λr H5 n5 s5 e5=>?_};let s35:=s4.trans s5;refine{p,kb',r,qS e.ns e3.ns,_,_,ad,k1+k2,D1+D2,_,_,rfl,s35 _ _ e3',db3.kp (Kp.of s35),D16,m4,kb3, ?_,hk,s5 _ _ e4, ?_,uF kE.nn kE3.nn, ?_,e5,tG kE.pos kE3.pos, ?_, ?_,λE' H6 b6 e6 db6 kb6 c6 _=>?_}
    .have x1:=ha (i+1) (qS e.ns e3.ns);rw[RL he]at x1;let x2:=hb_part (k1+k2+1) e FF j (qS e.ns e3.ns);show hA _ (EE.take i) FF _+hb _ e (FF.take j) _<=40000
     ∎
    .unfold qS;rw[List.length_zipWith,kE.len,kE3.len];∎
    .rw[yM (by rw[kE.len,kE3.len])];let:=kE.deg;let:=kE3.deg
     ∎
    .rw[Int.natAbs_mul,Nat.pow_add];exact mY (nQ kE.sb (gO #[0] ke1)) (nQ kE3.sb (gO #[0] ke2))
    .rw[Int.natAbs_mul,Nat.pow_add];exact mY (nQ kE.st (gO #[0] ke1)) (nQ kE3.st (gO #[0] ke2))
    .refine .mk (JK (s3.trans s35) b6 np) ((k3.trans (Kp.of s35)).trans (Kp.but b6 (s35 _ _ e3') trivial)) ((Kp.but b6 (s35 _ _ e3') trivial).tup _ _ (s35 _ _ eb3)) e6 db6 (kb6.up λm=>by rw[hb_take he3];exact Nat.le_of_eq (Nat.add_assoc ..)) λm=>?_
     .rw[c6,c3,uC he3,ent_mul];show _=_+cf (row e.pr (pl (FF.take j)++[e3.pr])) m;unfold row;rw[mT,zG];show _=_+(_+((if qS e.ns e3.ns=m then(e.t:Rat)/(e.b:Rat)*((e3.t:Rat)/(e3.b:Rat))else 0)+0))
      grind
   .obtain⟨s3,k3,eb3,e3,db3,kb3,c3⟩:=h;rw[mL]at kb3;refine .mk s3 (k.trans k3) e3 db3 (kb3.up λm=>by rw[RL he];exact tE _) λm=>?_
    .rw[c3,mL,uC he,QE,zG];show _=_+cf (row e.pr (pl FF)++[]) m;rw[List.append_nil]
  .obtain⟨s2,k,e2,db,kb,c⟩:=h;let hh:=ha EE.length;rw[mL]at c kb hh;exact{_,rfl,go p _ H2 np s2 e2 db (kb.up hh) c}
theorem TM{α β:Type}{f:α->β}{zs l:List β}(p:zs.Perm l):∀E:List α,l=E.map f->∃E':List α,E'.Perm E/\zs=E'.map f:=by
 induction p with
 | nil=>
  intro E h;let:E=[]:=by simpa using h.symm
  exact{[],by rw[this],rfl}
 | @cons x l1 l2 _ ih=>
  intro E h
  match E,h with
  | e::E2,h=>
   rw[nH]at h;injection h with h1 h2
   obtain⟨E',p',rfl⟩:=ih E2 h2;exact{e::E',p'.cons e,by rw[nH,h1]}
 | @swap x y l=>
  intro E h
  match E,h with
  | e1::e2::E2,h=>
   rw[nH,nH]at h;injection h with h1 h2
   injection h2 with h2 h3
   exact{e2::e1::E2,List.Perm.swap ..,by rw[nH,nH,h1,h2,h3]}
 | @trans l1 l2 l3 _ _ ih1 ih2=>
  intro E h;obtain⟨E2,p2,e2⟩:=ih2 E h;obtain⟨E1,p1,e1⟩:=ih1 E2 e2;exact{E1,p1.trans p2,e1}
theorem wC(x:Int):∀(n:Nat) {xs:List Int},xs.length=n->pk (x::xs)=x*256^n+pk xs
 | 0,xs,h=>by rw[List.length_eq_zero_iff.mp h];show 0*256+x=x*1+0;∎
 | n+1,xs,h=>by
  obtain⟨m,y,rfl,hm⟩:=yB h;rw[<-List.cons_append,xH,xH,wC x n hm,Int.pow_succ,Int.add_mul]
  grind
theorem YK:∀{a b:List Int},LwD.qF a b=true->a.length=b.length->Byt a->Byt b->pk a<pk b
 | [],[],h,_,_,_=>by simp [LwD.qF]at h
 | [],_::_,_,h,_,_=>by simp at h
 | _::_,[],_,h,_,_=>by simp at h
 | x::a,y::b,h,hl,ha,hb=>by
  let hl:a.length=b.length:=by simpa using hl
  let ba:Byt a:=λn hn=>ha n (gM _ hn);let bb:Byt b:=λn hn=>hb n (gM _ hn);rw[wC x _ hl,wC y _ rfl];unfold LwD.qF at h;split at h
  .rename_i e;let:=YK h hl ba bb;rw[e]
   ∎
  .have lt:x<y:=mG h;let p1:=WV _ hl ba;let p2:=pk_nn bb;let:=Int.mul_le_mul_of_nonneg_right (show x+1<=y by ∎) (show(0:Int)<=256^b.length from Int.le_of_lt (Int.pow_pos #[0]));rw[Int.add_mul]at this
   ∎
theorem rdS(h:Rd H d o)(s:Same H H2):Rd H2 d o:=h.elim (λe=>.inl (s _ _ e)) λ⟨x,e⟩=>.inr {x,s _ _ e}
def GN(K:tP):Sp:=λvs H Q _=>∃(d:Addr) (ad D:Nat) (E:List Ent),vs=[.int ad,.ref d]/\Rd H d (.dT #[30])/\DB H ad D E/\1<=ad/\ad<=4/\E.length<=500/\KB (λ_=>7900) E/\D<=16/\
 ∀(p:Addr) (E0:List Ent) (H':Hp),H p=none->Same H H'->E0.Perm E->SumQ K H' p ad (pl E0)->PlOk ad (pl E0)->Q (.ref p) H'
inductive LsE(K:tP)(H H2:Hp)(d l sl:Addr)(ad:Nat)(ys:List V)(E0:List Ent)(i:Nat):L2.St->Hp->Prop where
 | mk {u v:Option V} {H':Hp} {xs:List V} (s:Same H H') (k:Kp H2 H') (es:H' sl=some (.lst ys)) (e:H' l=some (.lst xs)) (h:Paired (TmQ K H') xs (pl (E0.take i))):LsE K H H2 d l sl ad ys E0 i [some (.int ad),some (.ref d),some (.ref l),u,v] H'
theorem scLSum:FnScope ["many","one","terms","powers","number"] ["many","one"] (jI FA):=scK #[2]
theorem ok_lsum(F:Fun K "_law_sum" "_law_sum" FA f fd)(T:Txt mg)(GL:DG P w K mg base 1 "_law_low" SY ["top","bottom"] spLow):FnOk P w K mg base CX0 2 f fd ["many","one"] (GN K):=by
 refine F.ok scLSum #[9] #[4]
 .obtain⟨d,ad,D,E',rfl,_⟩:=h
  rfl
 .obtain⟨d,ad,D,EE,rfl,hR,hD,m1,m4,few,kB,D16,go⟩:=h;let hu:_+1<cLine:=gX #[10] hr.units;refine{_,jC (jM (i:=2) scLSum.nd rfl #[5] (vN jD)) (jC (qC PassesOwn.never rfl (yF (kL (LwD.LT rfl) (by rfl) T.sorted boot_sorted #[74])) (jH (i:=3) scLSum.nd rfl #[5]) (jF (qJ (jX XH (jT jW (vO hu (pv 1) (pv 3) #[11]) jB #[11]) jB (kM _)) (jC (jM (i:=4) scLSum.nd rfl #[5] (cal GL hr (jA (jT jW (vO hu (pv 1) (pv 3) #[11]) jB #[11]) (jA (jT jW (vO hu (pv 1) (pv 3) #[11]) jB #[11]) jD)))) (jF (yC (XA PySem.F.plainAttrs_list PySem.F.slot_list_append PySem.F.type_list_append yQ (pv 2) (jA (kN (jA (pv 3) (jA (pv 4) jD))) jD))))) jY))) (jF (jR (kN (jA (pv 0) (jA (qL qX (by rfl) T.tup boot_tuple (jA (pv 2) jD)) jD)))))), ?_};try dsimp only[cxK]
  refine{(by show 0<=sizeLine;decide),λl H1 n1 s1 e1=>?_};refine{_,rfl,d,_,rfl,rdS hR s1,λp hp=>?_,λys zs pz ky pw sl H2 n2 s2 e2=>{sl,rfl,{ys,SqL.of e2}, ?_}}
  .obtain⟨e,he,rfl⟩:=nT.mp hp;exact{e.ns,rfl,λz=>by let:=(hD.each e he).len;rw[z]at this;simp at this;∎}
  obtain⟨E0,pE,rfl⟩:=TM pz EE rfl;let s12:Same H H2:=s1.trans s2;let ls:sl≠l:=λz=>by rw[z,e1]at n2;cases n2
  let yl:ys.length=E0.length:=by rw[ky.1,mS]
  let l63:E0.length<=500:=by rw[pE.length_eq];exact few
  refine LC (K:=K) (a:=sl) (xs:=ys) (LsE K H H2 d l sl ad ys E0) (.mk s12 (Kp.of #[43]) e2 (s2 _ _ e1) .nil) (λi O H3 _ h=>?_) (λi y O H3 hyi h=>?_) (fun O H3 h=>?_)
  .obtain⟨_,_,es,_,_⟩:=h;exact SqL.of es
  .obtain⟨s3,k3,es,el,hx⟩:=h;let hiy:i<ys.length:=(uW.mp hyi).1;let hie:i<E0.length:=∎
   obtain⟨e,he⟩:∃e,E0[i]? = some e:={E0[i],by simp [hie]};obtain⟨b,ns,rfl,hb1,hk⟩:=ky.2 i y e.kv hyi (by rw[mB,he];rfl);let ens:e.ns=ns:=EA hk;subst ens;let eE:e∈EE:=pE.mem_iff.mp (gL he);let hE:=(hD.kp (Kp.of s3)).each e eE;let hb3:H3 b=some (.tup (e.ns.map V.int)):=k3.tup _ _ (s2 _ _ hb1);let g3:=WK (rdS hR s3) hD.nd eE hb3;let c3:=SqT.of (K:=K) hE.at';let ke:e.k<=7900:=kB e eE;refine{_,rfl,_,rfl,d,_,rfl,g3,e.c,_,_,_,rfl,rfl,c3,rfl,rfl,_,rfl, ?_};refine DY (by rw[Bool.not_eq_true',mU];intro z;injection z with z;exact hE.nz z) ?_;refine{_,rfl,_,rfl,d,_,rfl,g3,e.c,_,_,_,rfl,rfl,c3,rfl,_,rfl,_,rfl,d,_,rfl,g3,e.c,_,_,_,rfl,rfl,c3,rfl,e.t,e.b,rfl, ?_,.inl (xK hE.sb ∎),λr H4 n4 s4 e4=>?_}
   .have:=hE.pos
    ∎
   refine{_,rfl,.inl {rfl,_,SqL.of (s4 _ _ el)},_,rfl,_,rfl,uR,λq H5 n5 s5 e5=>?_};let s45:=s4.trans s5;let el5:=s45 _ _ el;let lx:=Paired.length hx;unfold pl at lx;rw[mS,mJ]at lx;refine{l,_,_,rfl,rfl,el5,gX (show _<=500 by ∎) #[0], ?_};let ku:∀o:HO,Kp H5 (upd H5 l o):=λo=>Kp.upd el5 trivial;refine .mk (jV (s3.trans s45) n1) ((k3.trans (Kp.of s45)).trans (ku _)) ?_ jE ?_
   .rw[jG ls];exact s45 _ _ es
   .unfold pl;rw[mD,he,mT];refine Paired.app (Paired.to (λ_ _ h=>TmQ.updL el5 (h.same s45)) hx) (.cons (TmQ.updL el5 {q,b,r,rfl,e5,s45 _ _ hb3,NumH.of (EL (s5 _ _ e4) hE.pos rfl)}) .nil)
  .obtain⟨s3,k3,es,el,hx⟩:=h;rename_i xs3;rw[yl,mL]at hx;refine{_,rfl,_,rfl,l,_,rfl,.inl {SqL.of el,λq nq=>{uR,λp H5 n5 s5 e5=>?_}}};let s4:Same H3 (upd H3 q (.tup xs3)):=jO _ nq;let mE:∀{e:Ent},e∈E0->EntOk H ad D e:=λhe=>hD.each _ (pE.mem_iff.mp he);let pwE:E0.Pairwise (λe e2=>LwD.qF e.ns e2.ns=true):=by
    refine(List.pairwise_map.mp pw).imp fun {a b} h=>?_;let h':LwD.qF (LwD.xX (LwD.ik a.ns)) (LwD.xX (LwD.ik b.ns))=true:=h
    rwa [LwD.DX,LwD.DX]at h'
   let byE:∀{e:Ent},e∈E0->Byt e.ns:=λhe=>yA (mE he).nn (by let:=(mE he).deg;∎);let pm:∀{x:List Int×Rat},x∈pl E0->∃e∈E0,x=e.pr:=λhx=>by obtain⟨e,he,rfl⟩:=nT.mp hx;exact{e,he,(rfl)}
   refine go p E0 H5 ((s3.trans s4).free n5) (s3.trans (s4.trans s5)) pE {q,_,e5,s5 _ _ jE,Paired.to (λ_ _ h=>h.same (s4.trans s5)) hx} {λx hx=>?_,λx hx=>?_,λx hx=>?_, ?_,λx hx=>?_, ?_,m1,m4}
   .obtain⟨e,he,rfl⟩:=pm hx;exact(mE he).len
   .obtain⟨e,he,rfl⟩:=pm hx;exact(mE he).nn
   .obtain⟨e,he,rfl⟩:=pm hx;let:=(mE he).deg;show e.ns.sum<=16
    ∎
   .unfold pl;rw[nX,List.pairwise_map];refine List.Pairwise.imp_of_mem (fun {a b} ha hb h=>?_) pwE;exact YK h ((mE ha).len.trans (mE hb).len.symm) (byE ha) (byE hb)
   .obtain⟨e,he,rfl⟩:=pm hx;intro y;let k:=mE he;let h1:=cne k.pos;let:(e.t:Rat)=0:=by
     let y:(e.t:Rat)/(e.b:Rat)=0:=y;let:=congrArg (· * (e.b:Rat)) y;simp only[nW]at this;rw[<-this,tH,Rat.mul_assoc,Rat.inv_mul_cancel _ h1,Rat.mul_one]
    exact k.nz (Rat.intCast_inj.mp (by rw[this];rfl))
   .unfold pl;rw[mS,pE.length_eq];exact few
end LwK
namespace Lw
open PySem PySem.Spec PyProof.Rows L2
theorem Tape.ne{B:Int}(T:Tape cl H tp B)(e:H d=some o)(ho:∀xs,o≠.lst xs):d≠tp/\d≠cl:=by
 obtain⟨ns,spot,rest,left,h1,h2,_⟩:=T;refine{λz=>?_,λz=>?_}
 .rw[z,h1]at e;cases e;exact ho _ rfl
 .rw[z,h2]at e;cases e;exact ho _ rfl
theorem Tape.off{B:Int}(T:Tape cl H tp B)(e:H d=none):d≠tp/\d≠cl:=by
 obtain⟨ns,spot,rest,left,h1,h2,_⟩:=T;refine{λz=>?_,λz=>?_}
 .rw[z,h1]at e;cases e
 .rw[z,h2]at e;cases e
theorem Tape.upd{B B':Int}(T:Tape cl H tp B)(o:HO)(h1:l≠tp)(h2:l≠cl)(hB:B<=B'):Tape cl (upd H l o) tp B':=by
 obtain⟨ns,spot,rest,left,e1,e2,e3,e4,e5⟩:=T;exact{ns,spot,rest,left,by rw[jG (Ne.symm h1)];exact e1,by rw[jG (Ne.symm h2)];exact e2,e3,e4,∎}
theorem CO(b:But p H H')(n:H l=none):But p H (upd H' l o):=λc u h hc=>by
 rw[jG (jS h n)];exact b c u h hc
theorem Tape.aside{B:Int}(T:Tape cl H tp B)(b:But d H H')(h1:d≠tp)(h2:d≠cl):Tape cl H' tp B:=by
 obtain⟨ns,spot,rest,left,e1,e2,e3⟩:=T;exact{ns,spot,rest,left,b _ _ e1 (Ne.symm h1),b _ _ e2 (Ne.symm h2),e3}
theorem at_mem{ns:List Int}{i:Int}(h0:0<=i)(h1:i<ns.length):∃c:Int,atI #[16] i=some (.int c)/\c∈ns:=by
 obtain⟨j,rfl⟩:=gA h0;let hj:j<ns.length:=∎
 exact{ns[j],zI (by simp [hj]),mO hj}
theorem at_get{ns:List Int}{i:Int}(h0:0<=i)(h1:i<ns.length):∃c:Int,atI #[16] i=some (.int c)/\ns[i.toNat]? = some c:=by
 obtain⟨j,rfl⟩:=gA h0;let hj:j<ns.length:=∎
 exact{ns[j],zI (by simp [hj]),by simp [hj]}
theorem OJ:∀{ns:List Int} {j:Nat} {c:Int},ns[j]? = some c->(ns.set j (c+1)).sum=ns.sum+1
 | [],j,c,h=>by simp at h
 | n::r,0,c,h=>by
  simp only[List.getElem?_cons_zero,Option.some.injEq]at h;rw[List.set_cons_zero,nM,nM,h]
  ∎
 | n::r,j+1,c,h=>by
  let ih:=OJ (ns:=r) (j:=j) (c:=c) #[62];rw[List.set_cons_succ,nM,nM,ih]
  ∎
end Lw
namespace LwK
open PySem PySem.Spec PyProof.Rows L2 LwQ LwV Lw
def Com(b n:Nat)(P:Pl):Prop:=∃C:Int,0<C/\C.natAbs<=2^b/\∀m,Ov C n (cf P m)
theorem Com.nil:Com 0 28 []:={1,by decide,by decide,λ_=>.zero _ _}
theorem Com.up{b b' n n':Nat}(h:Com b n P)(l:b<=b')(k:n<=n'):Com b' n' P:=let ⟨C,h1,h2,h3⟩:=h;{C,h1,nQ h2 (gO #[0] l),λm=>(h3 m).up k}
theorem Com.put{i:Nat}{ns:List Int}{t u:Int}(h:Com (14*i) (28+15*i) P)(fr:FrS t u)(c:∀m,cf P' m=cf P m+if ns=m then(t:Rat)/(u:Rat)else 0):Com (14*(i+1)) (28+15*(i+1)) P':=by
 obtain⟨C,h1,h2,h3⟩:=h;let su:u.natAbs<=2^14:=nY fr.sb;let o:Ov u 41 ((t:Rat)/(u:Rat)):={t,rfl,nY fr.st};refine{C*u,tG h1 fr.pos, ?_,λm=>?_}
 .rw[Int.natAbs_mul,Nat.mul_succ,Nat.pow_add];exact mY h2 su
 .rw[c];let a:=((h3 m).scale h1 fr.pos su).up (show 28+15*i+14<=42+15*i by ∎);let p:=tG h1 fr.pos;let e:42+15*i+1=28+15*(i+1):=∎
  rw[<-e];refine a.add ?_ p;split
  .rw[tD];exact(o.scale fr.pos h1 h2).up ∎
  .exact .zero _ _
def spSmall:Sp:=λvs H Q _=>∃(tp:Addr) (ad most deep:Nat) (B:Int),vs=[.ref tp,.int ad,.int most,.int deep]/\1<=ad/\ad<=4/\most<=6/\deep<=16/\∃cl,Tape cl H tp B/\B<2^30/\
 ∀(d:Addr) (E:List Ent) (H':Hp),H d=none->But tp H H'->Tape cl H' tp (B+200)->H' d=some (.dT #[30])->DB H' ad deep E->KB (λ_=>42*most) E->E.length<=most->Com (14*most) (28+15*most) (pl E)->Q (.ref d) H'
inductive SmI(H:Hp)(cl tp d:Addr)(ad most deep:Nat)(B:Int)(i:Nat):L2.St->Hp->Prop where
 | mk {u v x y:Option V} {H':Hp} {E:List Ent} (b:But tp H H') (T:Tape cl H' tp (B+1+25*i)) (e:H' d=some (.dT #[30])) (db:DB H' ad deep E) (kb:KB (λ_=>42*i) E) (ln:E.length<=i) (cm:Com (14*i) (28+15*i) (pl E)):SmI H cl tp d ad most deep B i [some (.ref tp),some (.int ad),some (.int most),some (.int deep),some (.ref d),u,v,x,y] H'
inductive SmJ(H:Hp)(cl tp d l:Addr)(ad most deep i:Nat)(B:Int)(E:List Ent)(j:Nat):L2.St->Hp->Prop where
 | mk {x y:Option V} {H':Hp} {ns:List Int} (b:But tp H H') (T:Tape cl H' tp (B+1+25*i+2+j)) (e:H' d=some (.dT #[30])) (db:DB H' ad deep E) (el:H' l=some (.lst #[16])) (ln:ns.length=ad) (nn:∀n∈ns,0<=n) (sm:ns.sum=j) :
  SmJ H cl tp d l ad most deep i B E j [some (.ref tp),some (.int ad),some (.int most),some (.int deep),some (.ref d),some (.int (0+(i:Int))),some (.ref l),x,y] H'
variable{P:Program}{w:World}{K:tP}{mg:Str->Option Value}{base:Heap}{f fd:_}
theorem scSmall:FnScope ["tape","many","most","deep","found","k","powers","turn","letter"] ["tape","many","most","deep"] (jI GY):=scK #[2]
theorem ok_small(F:Fun K "_law_small" "_law_small" GY f fd)(T:Txt mg)(GD:DG P w K mg base 1 "_law_draw" CY ["tape","many"] spDraw)(GP:DG P w K mg base 2 "_law_put" SX ["found","powers","number"] spPut)
 (GF:DG P w K mg base 2 "_law_number" BX ["tape"] (OO 6 (2^38))):FnOk P w K mg base CX0 3 f fd ["tape","many","most","deep"] spSmall:=by
 refine F.ok scSmall #[9] #[4]
 .obtain⟨tp,ad,most,deep,B,rfl,_⟩:=h
  rfl
 .obtain⟨tp,ad,most,deep,B,rfl,m1,m4,s6,dd,cl,hT,hB,go⟩:=h;let hr1:Room 1 _:=hr.mono #[0];let hr2:Room 2 _:=hr.mono #[0];refine{_,jC (jM (i:=4) scSmall.nd rfl #[5] (uD)) (jC (qC PassesOwn.never rfl (xF (by rfl) T.rng (jA (cal GD hr1 (jA (pv 0) (jA (jJ qA (pv 2) jB) jD))) jD)) (jH (i:=5) scSmall.nd rfl #[5]) (jC (jM (i:=6) scSmall.nd rfl #[5] (jJ op_rep (vN #[73]) (pv 1))) (jC (qC PassesOwn.never rfl (xF (by rfl) T.rng (jA (cal GD hr1 (jA (pv 0) (jA (jJ qA (pv 3) jB) jD))) jD)) (jH (i:=7) scSmall.nd rfl #[5]) (jC (jM (i:=8) scSmall.nd rfl #[5] (cal GD hr1 (jA (pv 0) #[74]))) (jF (xA (jJ qA (jT qQ (pv 6) (pv 8) #[11]) jB) (yX (pv 6) (pv 8) vZ))))) (jF (yC (cal GP hr2 (jA (pv 4) (jA (qL qX (by rfl) T.tup boot_tuple (jA (pv 6) jD)) (jA (cal GF hr2 (jA (pv 0) jD)) jD))))))))) (jF (jR (pv 4)))), ?_};try dsimp only[cxK]
  intro d nd;let od:=hT.off nd;let T0:Tape cl (upd H d (.dT [])) tp B:=hT.upd _ od.1 od.2 uQ ;let p100:(100:Int)<2^100:=by decide
  let p37:(2:Int)^30+300<2^37:=by decide
  refine{_,rfl,_,rfl,_,_,rfl,rfl,tp,_,B,rfl,cl,T0,∎,∎,∎,λc H1 c0 c1 T1 b1=>{_,rfl,∎,∎, ?_}};let B1:But tp H H1:=(CO (But.refl tp H) nd).trans b1;let cn:c.toNat<=most:=∎
  refine xQ (SmI H cl tp d ad most deep B) (.mk (E:=[]) B1 (T1.mono #[43] ∎) (b1 _ _ jE od.1) .nil (λe h=>nomatch h) uP .nil) (λi O H2 hi h=>?_) (fun O H2 h=>?_)
  .obtain⟨b2,T2,e2,db,kb,le,cm⟩:=h;rename_i E2;let hi4:i<6:=∎
   refine{(by show 1<=sizeLine;decide),λz0 H3 n3 s3 e3=>{_,rfl,z0,ad,[.int 0],rfl,rfl,e3,∎,∎, ?_,λl nl=>?_}}
   .show 1*(ad:Int).toNat<=sizeLine;exact nQ (show 1*(ad:Int).toNat<=4 by ∎) #[0]
   let T3:=T2.mono s3 uQ ;let B3:But tp H H3:=b2.trans (But.of s3);let lo:=T3.off nl;let hnl:H l=none:=zQ B3 nl lo.1;let hl0:(List.replicate (ad:Int).toNat [V.int 0]).flatten=(List.replicate ad (0:Int)).map V.int:=by simp
   rw[hl0];let s4:Same H3 (upd H3 l (.lst ((List.replicate ad (0:Int)).map V.int))):=jO _ nl;let e4:(upd H3 l (.lst ((List.replicate ad (0:Int)).map V.int))) l=some (.lst ((List.replicate ad (0:Int)).map V.int)):=jE;generalize upd H3 l (.lst ((List.replicate ad (0:Int)).map V.int))=H4 at s4 e4;let s24:=s3.trans s4;let T4:=T3.mono s4 uQ ;dsimp only[jP];refine{_,rfl,_,rfl,_,_,rfl,rfl,tp,_,_,rfl,cl,T4,∎,∎,∎,λn H7 n0 n1 T7 b47=>{n,rfl,∎,∎, ?_}};let dn:=T4.ne (s24 _ _ e2) (λ_ z=>by cases z);refine xQ (SmJ H cl tp d l ad most deep i B E2) (.mk (B3.trans ((But.of s4).trans b47)) (T7.mono #[43] ∎) (b47 _ _ (s24 _ _ e2) dn.1) (db.kp ((Kp.of s24).trans (Kp.butT b47 T4))) (b47 _ _ e4 lo.1) #[14] (λn hn=>by rw[(List.mem_replicate.mp hn).2];exact tJ _) #[14]) (λj O H6 hj h=>?_) (fun O H6 h=>?_)
   .obtain⟨b6,T6,e6,db6,el,ln,hns,hsm⟩:=h;rename_i ns;refine{_,rfl,_,rfl,tp,ad,_,rfl,cl,T6,∎,∎,∎,λr' H9 r0' r1' T9 b9=>?_};let e9:=b9 _ _ el lo.1;obtain⟨c',hc',hcm⟩:=at_get (ns:=ns) r0' (by rw[ln];exact r1');let dn6:=T6.ne e6 (λ_ z=>by cases z);let ld:d≠l:=λz=>by rw[z,el]at e6;cases e6
    refine{_,rfl,_,rfl,l,_,r',_,rfl,rfl,SqL.of e9,hc',_,_,rfl,rfl,_,rfl,_,rfl,l,_,r',r'.toNat,rfl,rfl,e9, ?_, ?_}
    .unfold ixN;rw[tO r0',tO (by rw[mS,ln];exact r1')]
    .refine .mk (ns:=ns.set r'.toNat (c'+1)) (CO (b6.trans b9) hnl) (T9.upd _ lo.1 lo.2 ∎) (by rw[jG ld];exact b9 _ _ e6 dn6.1) (db6.kp ((Kp.butT b9 T6).trans (Kp.upd e9 trivial))) (by rw[jE,List.map_set]) (by rw[List.length_set];exact ln) (λn hn=>?_) ?_
     .rcases List.mem_or_eq_of_mem_set hn with hn | rfl
      .exact hns n hn
      .have:=hns c' (gL hcm)
       ∎
     .rw[OJ hcm,hsm]
      ∎
   .obtain⟨b6,T6,e6,db6,el,ln,hns,hsm⟩:=h;rename_i ns;refine{_,rfl,_,rfl,l,_,rfl,.inl {SqL.of el,λb nb=>?_}};let sb:Same H6 (upd H6 b (.tup #[16])):=jO _ nb;let eb:(upd H6 b (.tup #[16])) b=some (.tup #[16]):=jE;generalize upd H6 b (.tup #[16])=H7 at sb eb;let T7:=T6.mono sb uQ ;let bo:=T6.off nb;let dn7:=T7.ne (sb _ _ e6) (λ_ z=>by cases z);refine{_,rfl,tp,_,rfl,cl,T7,∎,λr t b' H8 fr e8 rne T8 b8 nw=>?_};let k8:=(Kp.of sb).trans (Kp.butT b8 T7);let d8:=b8 _ _ (sb _ _ e6) dn7.1;let nn:(n.toNat:Int)<=deep:=∎
    let pb:=fr.pos;let db8:=db6.kp k8;refine{d,b,r,ns,t,b',ad,41,deep,_,λ_=>42*i,rfl,d8,db8,dd,m4,kb,by show 42*i<=40000;∎,by decide,b8 _ _ eb bo.1,ln,hns,∎,e8,fr.pos,nQ (nY fr.sb) (gO #[0] #[0]),nY fr.st,λE' H9 b9 e9 db9 kb9 c9 l9=>?_};let dn8:=T8.ne d8 (λ_ z=>by cases z);refine .mk (λc o hc hn=>?_) ((T8.aside b9 dn8.1 dn8.2).mono #[43] ∎) e9 db9 (kb9.up λm=>by show 42*i+(if m=ns then 41+1 else 0)<=42*(i+1);split<;>∎) ∎ (cm.put fr c9);exact b9 _ _ (b8 _ _ (sb _ _ (b6 _ _ hc hn)) hn) (λz=>by rw[z,nd]at hc;cases hc)
  .obtain⟨b2,T2,e2,db,kb,le,cm⟩:=h;exact{_,rfl,go d _ H2 nd b2 (T2.mono #[43] ∎) e2 db (kb.up λm=>by show 42*c.toNat<=42*most;∎) (nQ le cn) (cm.up ∎ ∎)}
end LwK
namespace LwD
open PySem PySem.Spec PyProof.Rows L2 Lw
theorem MZ:typeLookup (.type "list") "keys" = pure none:=am_miss_of_fast #[2]
theorem YC:typeLookup (.type "list") "__getattr__" = pure none:=by rw[typeLookup_type,builtinLookup_eq_fast];kernel_rfl
section
variable{prog:Program}{w:World}{A:Around}{E:Value->Shared->Prop}{h:Heap}{g:Array GenState}{d:Drawn}{t:Nat}{os:OsState}{a:Addr}{o:Obj}
theorem KR{Q:Fin->Shared->Prop}(hx:h.get? a=some o)(hc:o.cls=.type "list")(hd:o.dict=none)(n:Nat)(its:Array Value)(hs:o.data=.seq its n)(hh:A.handled=none)
  (hq:∀h' tk' e,Heap.NewAttrErr h h' e (.ref a) "keys"->E (.ref e) {h',g,d,tk',(os)}) :
  wpAny #[3] A (Builtin.«object.__getattribute__» {[.ref a,.str "keys" tk],[]}) Q E {h,g,d,t,(os)}:=by
 let hT:(⟨h,g,d,t,os⟩:Shared).TypeIs (.ref a) "list":={_,hx,hc};let f4:=MZ;obtain⟨c,dd,dt,sl⟩:=o
 replace hc:c=.type "list":=hc
 replace hd:dd=none:=hd
 replace hs:dt=.seq its n:=hs
 subst hc hd hs;unfold Builtin.«object.__getattribute__»
 repeat (any_goals (first | assumption | wp_step))
 exact wpAny_raiseAttrError hh hq (attrMsg_fits #[2] (by size_fits))
theorem NI{R:Result->Shared->Prop}(hx:h.get? a=some o)(hc:o.cls=.type "list")(hd:o.dict=none)(n:Nat)(its:Array Value)(hs:o.data=.seq its n)(hh:A.handled=none)
  (hq:∀h' tk' e,Heap.NewAttrErr h h' e (.ref a) "keys"->R (.error (.ref e)) {h',g,d,tk',(os)}) :
  codeAny #[3] A (.call (.builtin "list.__getattribute__") {[.ref a,.str "keys" tk],[]}) R {h,g,d,t,(os)}:=
 codeAny_call_builtin F.slot_list_getattribute.plain F.entry_list_ga (F.slot_list_getattribute.check _ _ _ _ _ _ _ _ (show({h,g,d,t,(os)}:Shared).TypeIs (.ref a) "list" from{_,hx,hc}) (F.args_list_getattribute_2 _ _) (KR hx hc hd n its hs (show A.in1.handled=none from hh) hq))
theorem NH{Q:Option Value->Shared->Prop}(hx:h.get? a=some o)(hc:o.cls=.type "list")(hd:o.dict=none)(n:Nat)(its:Array Value)(hs:o.data=.seq its n)(hh:A.handled=none)
  (hq:∀h' tk',(∀b u,h.get? b=some u->h'.get? b=some u)->Q none {h',g,d,tk',(os)}):wpAny #[3] A (getAttr? (.ref a) "keys") Q E {h,g,d,t,(os)}:=by
 let hT:(⟨h,g,d,t,os⟩:Shared).TypeIs (.ref a) "list":={_,hx,hc};let f2:=F.slot_list_getattribute.lookup;let f3:=F.slot_list_getattribute.bind (.ref a);let f1:=sub_AttributeError;let kc:=λ(A:Around) (t:Nat) (tk:Tok) (R:Result->Shared->Prop) (hh:A.handled=none)=>NI (prog:=prog) (w:=w) (A:=A) (g:=g) (d:=d) (t:=t) (os:=os) (tk:=tk) (R:=R) hx hc hd n its hs hh;obtain⟨c,dd,dt,sl⟩:=o
 replace hc:c=.type "list":=hc
 replace hd:dd=none:=hd
 replace hs:dt=.seq its n:=hs
 subst hc hd hs;unfold getAttr? getAttrBy?
 repeat (any_goals (first | assumption | wp_step))
 refine kc _ _ _ _ hh λh' tk' e ne=>?_;obtain⟨t',u',he⟩:=ne.there;let f5:=YC
 repeat (any_goals (first | assumption | wp_step))
 exact hq h' tk' ne.keeps
end
section
variable{prog:Program}{w:World}{A:Around}{E:Value->Shared->Prop}
theorem RY{h h':Heap}{i:Nat}(D:h.DictOfH (tkd prog w) d xs)(I:h.IsListIter it t i)(hdi:d≠it)(k:∀b u,b≠it->h.get? b=some u->h'.get? b=some u):h'.DictOfH (tkd prog w) d xs:=by
 obtain⟨o,es,ep,h1,h2,h3,h4,h5,h6⟩:=D;refine{o,es,ep,k _ _ hdi h1,h2,h3,h4,λx hx=>?_,h6};obtain⟨q,its,n,g1,g2,g3⟩:=h5 x hx;refine{q,its,n,k _ _ (λe=>?_) g1,g2,g3};obtain⟨u,u1,u2,_⟩:=I;rw[e,u1]at g1;cases g1;rw[u2]at g2;exact absurd g2 #[0]
theorem NO{Q:Shared->Prop}{h0:Heap}{d it t:Addr}{items:Array Value}(hh:A.handled=none)(hu:A.units+1<cLine)(hd:h0.objs.size<=d)(hi:h0.objs.size<=it)(hdi:d≠it)(ht:h0.IsList t items) :
  ∀(ps xs:List #[17]) (i:Nat) (tk:Tok) (s:Shared),(∀j,Option.Rel (PairAt prog w h0) items[i+j]? ps[j]?)->xs.length+ps.length<=sizeLine->(∀b u,h0.get? b=some u->s.heap.get? b=some u)->s.heap.DictOfH (tkd prog w) d xs->s.heap.IsListIter it t i->
   (∀h' tk',(∀b u,h0.get? b=some u->h'.get? b=some u)->h'.DictOfH (tkd prog w) d (puts xs ps)->Q { s with heap:=h',toks:=tk' })->
   codeAny #[3] A (.builtin "dict.update.loop" {[.ref d,.ref it,.int i tk,.none],[]}) (wants (λr s₂=>r=.none/\Q s₂) E) s:=by
 intro ps;induction ps with
 | nil=>
  intro xs i tk s hp hz hk hD hI q;let hn:items[i]? = none:=by let:=hp 0;revert this;rw[nZ];cases items[i]? <;>intro z<;>cases z;rfl
  refine codeAny_builtin DU ?_;rw[Around.under_plainId zC _];let ht':s.heap.IsList t items:=let ⟨o,ho,r⟩:=ht;{o,hk _ _ ho,r};unfold Builtin.«dict.update.loop»;refine tK (wpAny_pyNext_list_end (A:=A.in1) hh hI ht' hn λh' hx=>?_);refine tL {rfl,q h' s.toks ?_ ?_}
  .exact λb u e=>hx b u (nS (gZ (nP e) hi)) (hk b u e)
  .exact RY hD hI hdi λb u hb e=>hx b u hb e
 | cons p ps ih=>
  intro xs i tk s hp hz hk hD hI q;let hp0:=hp 0;rw[nZ]at hp0;obtain⟨v,hv,pa⟩:∃v,items[i]? = some v/\PairAt prog w h0 v p:=by
   revert hp0;cases items[i]? with
   | none=>intro z;cases z
   | some v=>intro z;cases z with | some y=>exact⟨v,rfl,y⟩
  refine codeAny_builtin DU ?_;rw[Around.under_plainId zC _];let ht':s.heap.IsList t items:=let ⟨o,ho,r⟩:=ht;{o,hk _ _ ho,r};unfold Builtin.«dict.update.loop»;refine tK (wpAny_pyNext_list_item (A:=A.in1) hI ht' hv λh' hI' hs=>?_);let k1:∀b u,h0.get? b=some u->h'.get? b=some u:=λb u e=>(hs.2 b (nS (gZ (nP e) hi))).trans (hk b u e);let D1:=RY hD hI hdi λb u hb e=>(hs.2 b hb).trans e;obtain⟨r,rfl,tp,ky⟩:=pa.keep k1;obtain⟨o,ho,hc,n,hdt⟩:=id tp;let hT:(⟨h',s.gens,s.drawn,s.toks,s.os⟩:Shared).TypeIs (.ref r) "tuple":={o,ho,(hc)};unfold Builtin.Dict.pairItems;dsimp only;refine tK (wpAny_holding (tK (wpAny_tryCatch (tK (wpAny_typeOf hT ?_)))));rw[tO #[0]];unfold seqItems?;refine tK (tK (wpAny_load ho ?_));rw[hdt];refine tL ?_;refine tL (wpAny_holding ?_);refine wpAny_dictSet_heap (hsz:=by simp only[mN]at hz;∎) (knd:=tkd prog w) (tupleKind_room_in1 hu) ky D1 λh2 D2 hs2=>?_;let nt:t≠d:=λe=>by obtain⟨u,hu,_⟩:=ht;exact absurd (nP hu) (by rw[e];exact Nat.not_lt.mpr hd)
  refine tL {plainId_quiet zC _, ?_};refine ih (storedH xs p.1 p.2.1 p.2.2) (i+1) 0 _ (λj=>?_) ?_ (λb u e=>?_) D2 ?_ λh3 tk3 k3 D3=>?_
  .have:=hp (j+1);rw[List.getElem?_cons_succ]at this;rw[show i+1+j=i+(j+1) by ∎];exact this
  .have:=CT xs p.1 p.2.1 p.2.2;simp only[mN]at hz
   ∎
  .exact(hs2.2 b (nS (gZ (nP e) hd))).trans (k1 b u e)
  .obtain⟨u,u1,u2⟩:=hI';exact{u,(hs2.2 it (Ne.symm hdi)).trans u1,u2}
  .exact q h3 tk3 k3 D3
end
section
variable{prog:Program}{w:World}{A:Around}{E:Value->Shared->Prop}{s:Shared}
theorem ZV{o:Obj}{n:Nat}{ps:List #[17]}{Q:Value->Shared->Prop}(hh:A.handled=none)(hu:A.units+2<cLine)(ho:s.heap.get? t=some o)(hc:o.cls=.type "list")(hd:o.dict=none)(hs:o.data=.seq items n)
  (hp:∀j:Nat,Option.Rel (PairAt prog w s.heap) items[j]? ps[j]?) (hz:ps.length<=sizeLine)
  (q:∀h' tk',(∀b u,s.heap.get? b=some u->h'.get? b=some u)->h'.DictOfH (tkd prog w) s.heap.objs.size (puts [] ps)->Q (.ref s.heap.objs.size) { s with heap:=h',toks:=tk' }) :
  wpAny #[3] A (call (.type "dict") [.ref t]) Q E s:=by
 refine callType_codes (Q₁:=λobj s₁=>obj=.ref s.heap.objs.size/\s₁ = { s with heap:=s.heap.push { cls:=.type "dict",data:=.dict #[] } }) F.kt_called_dict (F.kt_typeCall_dict_1 _) F.entry_dict_init (kt_code_dict_new _ {rfl,(rfl)}) ?_;rintro obj s₁ ⟨rfl,rfl⟩;let hT:(⟨s.heap.push { cls:=.type "dict",data:=.dict #[] },s.gens,s.drawn,s.toks,s.os⟩:Shared).TypeIs (.ref s.heap.objs.size) "dict":={_,gU _ rfl,rfl};let ho1:(s.heap.push { cls:=.type "dict",data:=.dict #[] }).get? t=some o:=gC _ ho;let hT1:(⟨s.heap.push { cls:=.type "dict",data:=.dict #[] },s.gens,s.drawn,s.toks,s.os⟩:Shared).TypeIs (.ref t) "list":={_,ho1,hc};refine{hT,F.args_dict_init_2 _ _, ?_};unfold Builtin.«dict.__init__»;refine tK ?_;unfold Builtin.Dict.selfAndRest;refine tK (wpAny_notOrdered_dict hT ?_);show wpAny _ _ (pure (s.heap.objs.size,[Value.ref t])) _ _ _;refine tL ?_;show wpAny _ _ (Builtin.Dict.updateFrom "dict.__init__" s.heap.objs.size (.ref t) [] .none) _ _ _;unfold Builtin.Dict.updateFrom;refine tK (wpAny_typeOf hT1 ?_);rw[tO #[0]];refine tK (NH ho1 hc hd n items hs hh λh2 tk2 k2=>?_);let kk:∀b u,s.heap.get? b=some u->h2.get? b=some u:=λb u e=>k2 b u (gC _ e);let hi2:h2.IsList t items:={o,kk _ _ ho,hc,n,hs};let hd2:h2.get? s.heap.objs.size=some { cls:=.type "dict",data:=.dict #[] } :=k2 _ _ (gU _ rfl);let lt2:s.heap.objs.size<h2.objs.size:=nP hd2;rw[tO #[0]]
 refine tK (wpAny_rule (tK (wpAny_pyIter_list hi2 (tL {plainId_quiet zC _, ?_}))));refine NO (A:=A.in1) (E:=E) (Q:=λs₂=>Q (.ref s.heap.objs.size) s₂) (h0:=s.heap) (items:=items) (t:=t) hh hu uP (nY lt2) (nS lt2) {o,ho,hc,n,(hs)} ps [] 0 0 { s with heap:=h2.push { cls:=.type "list_iterator",data:=.fields #[.ref t,.int 0 0] },toks:=tk2 } (λj=>?_) (by simpa using hz) (λb u e=>?_) ?_ ?_ λh3 tk3 k3 D3=>q h3 tk3 k3 D3
 .rw[Nat.zero_add];exact hp j
 .exact gC _ (kk b u e)
 .exact{_,#[],0,gC _ hd2,{rfl,rfl,(rfl)},rfl,rfl,(λx hx=>nomatch hx),mZ}
 .exact{_,gU _ rfl,rfl,rfl}
end
section
variable{X:Cx}
def rDictL:List V->Hp->VK->Prop:=λxs H Q=>∃(t:Addr) (ys:List V) (aj:List #[57]),xs=[.ref t]/\H t=some (.lst ys)/\PairsIn H ys aj/\(aj.map (·.1)).Nodup/\New H (.dT aj) Q
theorem NW(hc:X.calm=true)(hu:X.A.units+2<cLine):CallR X (.type "dict") rDictL:=by
 intro ae s O H xs us Q I r h;obtain⟨t,ys,aj,rfl,ht,hp,hn,q⟩:=h;obtain⟨u,rfl,ru⟩:=vV r;cases ru;obtain⟨hz,its,n,rv,ho⟩:=(show ObjOk X.prog X.w H s.heap t (.lst ys)from I.hok t _ ht);let key:∀(ys:List V) (its:List Value) (aj:List #[57]),Vals ys its->PairsIn H ys aj->∃ps:List #[17],KT H aj ps/\Paired (PairAt X.prog X.w s.heap) its ps:=by
  intro ys its aj rv hp;induction hp generalizing its with
  | nil=>cases rv;exact{[],.nil,.nil}
  | @cons y p ys aj h t ih=>
   cases rv with
   | cons r1 rt=>
    obtain⟨ps,k1,k2⟩:=ih _ rt;obtain⟨r,b,rfl,e1,e2⟩:=h;cases r1;obtain⟨_,il,rl,tp,_⟩:=(show ObjOk X.prog X.w H s.heap r (.tup [.ref b,p.2])from e1.ok I.hok);cases rl with
    | cons a1 a2=>cases a2 with
     | cons b1 b2=>
      cases b2;cases a1;rename_i vb;exact{(p.1,b,vb)::ps,.cons {rfl,e2,(b1)} k1,.cons {r,rfl,tp,yI I.hok e2} k2}
 obtain⟨ps,k1,k2⟩:=key ys its aj rv hp;let lz:ps.length=its.length:=(Paired.length k2).symm;let lz2:aj.length=ps.length:=Paired.length k1;let lz3:=rv.length;let hn2:(ps.map (·.1)).Nodup:=by
  let:aj.map (·.1)=ps.map (·.1):=KTkeys k1;rw[<-this];exact hn
 refine ZV (ps:=ps) (I.ok.hd hc) hu ho rfl rfl rfl (λj=>?_) ∎ λh' tk' kk D=>?_
 .have pr:∀(l:List Value) (m:List #[17]),Paired (PairAt X.prog X.w s.heap) l m->∀j:Nat,Option.Rel (PairAt X.prog X.w s.heap) l[j]? m[j]? :=by
   intro l m h;induction h with
   | nil=>intro j;exact .none
   | cons a b ih=>intro j;cases j with
    | zero=>exact .some a
    | succ j=>exact ih j
  simpa using pr its ps k2 j
 .rw[DE ps [] (by simpa using hn2),List.nil_append]at D;obtain⟨ob,es,ep,g1,g2,g3,g4,_,g5⟩:=D;refine{.ref s.heap.objs.size,_,I.laid (a:=s.heap.objs.size) (o:=.dT aj) kk uP {∎,beq_eq_false_iff_ne.mpr (Ne.symm (nS I.big)),ps,(KT.keeps k1 λc ys e=>?_),ob,es,ep,g1,g2,g3,g4,g5},rfl,q.at (I.hok.fresh uP)};rw[jG (λz=>by rw[z,I.hok.fresh uP]at e;cases e)];exact e
end
end LwD
namespace LwK
open PySem PySem.Spec PyProof.Rows L2 LwQ LwV Lw
theorem FR{E:List Ent}{ys:List V}(ks:LwD.Keyed H0 ys #[30])(Pv:Nat->List V->Hp->Prop)(hz:E.length<sizeLine)(h0:Pv 0 [] H')
  (hl:∀i zs H2,Pv i zs H2->H2 d=some (.frz o (.dT #[30]))/\Kp H0 H2/\H2 p=some (.lst zs))
  (hs:∀i m zs e b H2,E[i]? = some e->e∈E->m=ys.length-i->zs.length=i->Pv i zs H2->H2 b=some (.tup (e.ns.map V.int))->ys[i]? = some (.ref b)->g (.ref b) O0 H2 fun O4 H4=>Keep O0 O4/\te O4 H4 λy H5=>H5 p=some (.lst zs)/\∃m',m'<m/\CompW ys Pv (i+1) m' (zs++[y]) (upd H5 p (.lst (zs++[y]))))
  (hd:∀zs H2,zs.length=E.length->Pv E.length zs H2->Q (.ref p) H2):CompGoF O0 (LwD.Itk d o #[30] ys) g te Q p H':=by
 let lk:ys.length=E.length:=by rw[ks.1,mS]
 refine{CompW ys Pv,{_,rfl,tF _,rfl,h0}, ?_};rintro i m zs H2 ⟨hm,hi,hy,hp⟩;obtain⟨q1,q2,e⟩:=hl i zs H2 hp;refine{e,∎, ?_};by_cases hlt:i<ys.length
 .refine .inr {{q1,(hlt)}, ?_};rintro x _ ⟨rfl,hx⟩;let hiE:i<E.length:=∎
  obtain⟨e',he⟩:∃e,E[i]? = some e:={E[i],by simp [hiE]};obtain⟨b,ns',rfl,hb,hns⟩:=ks.2 i x e'.kv hx (by rw[mB,he];rfl);let ens:e'.ns=ns':=EA hns;subst ens;exact hs i m zs e' b _ he (gL he) hm hy hp (q2.tup _ _ hb) hx
 .obtain rfl:i=ys.length:=∎
  refine .inl {{q1,(rfl)}, ?_};rw[lk]at hp hy;exact hd zs H2 hy hp
theorem QB(s:Same H H')(h:H' a=none):H a=none:=by
 cases e:H a with
 | none=>rfl
 | some o=>rw[s _ _ e]at h;cases h
def SzK(K:Nat)(x:Rat):Prop:=x.num.natAbs<=2^K/\x.den<=2^K
theorem SzK.of{D:Int}{n K k:Nat}{x:Rat}(h:Ov D n x)(hD:0<D)(hb:D.natAbs<=2^k)(l1:n<=K)(l2:k<=K):SzK K x:=by
 obtain⟨z,e,hz⟩:=h.ex;let q:=IK hD e;let l:=Nat.le_of_dvd ∎ (Int.natAbs_dvd_natAbs.mpr q.1);rw[Int.natAbs_natCast]at l;exact{nQ (nQ q.2 hz) (gO #[0] l1),nQ (nQ l hb) (gO #[0] l2)}
theorem fv_self(x:Rat):((x.num:Int):Rat)/(((x.den:Int)):Rat)=x:=yJ x
theorem XF(k:Kp H H')(h:LwD.PairsIn H ys aj):LwD.PairsIn H' ys aj:=Paired.to (λ_ _ ⟨r,b,e,h1,h2⟩=>{r,b,e,h1.elim (λz=>.inl (k.tup _ _ z)) (λ⟨o,z⟩=>.inr {o,k.frz _ _ _ z}),k.tup _ _ h2}) h
def spLowered:Sp:=λvs H Q _=>∃(d:Addr) (ad D k:Nat) (E:List Ent),vs=[.ref d]/\FQ H d ad D E/\ad<=4/\D<=16/\KB (λ_=>7900) E/\(∀x∈pl E,SzK k x.2)/\
 ∀(p:Addr) (E':List Ent) (H':Hp),H p=none->Same H H'->H' p=some (.dT (E'.map Ent.kv))->DB H' ad D E'->KB (λ_=>k) E'->pl E'=pl E->Q (.ref p) H'
structure LoI(H:Hp)(l:Addr)(ad D k:Nat)(E:List Ent)(i:Nat)(ys:List V)(H2:Hp):Prop where
 s:Same H H2
 e:H2 l=some (.lst ys)
 x:∃E2:List Ent,LwD.PairsIn H2 ys (E2.map Ent.kv)/\pl E2=pl (E.take i)/\∀e∈E2,EntOk H2 ad D e/\e.k<=k
variable{P:Program}{w:World}{K:tP}{mg:Str->Option Value}{base:Heap}{f fd:_}
theorem SW:FnScope ["one"] ["one"] (jI wX):=scK #[2]
theorem ok_lowered(F:Fun K "_law_lowered" "_law_lowered" wX f fd)(T:Txt mg)(GL:DG P w K mg base 1 "_law_low" SY ["top","bottom"] spLow):FnOk P w K mg base CX0 2 f fd ["one"] spLowered:=by
 refine F.ok SW #[9] #[4]
 .obtain⟨d,ad,D,k,E',rfl,_⟩:=h
  rfl
 .obtain⟨d,ad,D,k,EE,rfl,h1,m4,D16,kb,hz,go⟩:=h;let hu:_+1<cLine:=gX #[10] hr.units;let hu2:_+2<cLine:=gX (Nat.add_le_add_left (by decide:2<=64) _) hr.units;refine{_,jF (jR (qL (LwD.NW rfl hu2) (by rfl) T.dct boot_dict (jA (xV (own:=1) (idx:=[0]) (N:=["powers","one"]) rfl rfl rfl #[2] #[2] #[26] (vG rfl) rfl (CD rfl {rfl,rfl,rfl,(rfl)}) (LwD.yW (pv 0)) (λC fp s2 H2=>(jH (i:=0) (show List.Nodup (["powers","one"]:List Str) by decide +kernel) rfl #[5] #[38])) (λC fp s2 H2=>kN (jA (pv 0) (jA (cal GL hr (jA (jT (show IxR (jL _ ["powers","one"] _ _ C fp s2 H2) (TK K)from jW) (vO hu (pv 1) (pv 0) #[11]) jB #[11]) (jA (jT (show IxR (jL _ ["powers","one"] _ _ C fp s2 H2) (TK K)from jW) (vO hu (pv 1) (pv 0) #[11]) jB #[11]) jD))) jD)))) jD))), ?_};try dsimp only[cxK]
  obtain⟨o,f1⟩:=h1.fr;let ndE:=h1.db.nd;refine{_,rfl,d,o,_,rfl,f1,zD EE,λys hk=>?_};intro l H2 n2 s2 e2;refine FR hk (LoI H l ad D k EE) (gX (h1.db.len D16 m4) #[0]) {s2,e2,[],.nil,rfl,λe h=>nomatch h} (λi zs H3 h=>{h.s _ _ f1,Kp.of h.s,h.e}) ?_ ?_
  .rintro i m zs e b H3 he eM hm hl ⟨s3,e3,E2,pr,pe,ok⟩ hb hx;let h3:=h1.kp (Kp.of s3);let kE:=h3.db.each e eM;let g3:=h3.get eM hb;let c3:=SqT.of (K:=K) kE.at';refine{uL,_,rfl,_,rfl,_,rfl,d,_,rfl,g3,e.c,_,_,_,rfl,rfl,c3,rfl,_,rfl,_,rfl,d,_,rfl,g3,e.c,_,_,_,rfl,rfl,c3,rfl,e.t,e.b,rfl, ?_,.inl (xK kE.sb (gX (show e.k<=7900 from kb e eM) #[0])),λr H4 n4 s4 e4=>?_}
   .have:=kE.pos
    ∎
   refine{uR,λq H5 n5 s5 e5=>?_};let s45:=s4.trans s5;let el5:=s45 _ _ e3;refine qM hx hm hl el5 ?_;let ku:∀u:HO,Kp H5 (upd H5 l u):=λu=>Kp.upd el5 trivial;let k3:=λu=>(Kp.of s45).trans (ku u);let at':=EL (z:=e.pr.2) (s5 _ _ e4) kE.pos rfl;let sz:=hz e.pr (List.mem_map_of_mem eM);let nz:e.pr.2≠0:=by
    let y1:(e.t:Rat)≠0:=by simpa using kE.nz
    let y2:(e.b:Rat)≠0:=by simpa using (show e.b≠0 by let:=kE.pos;∎)
    show(e.t:Rat)/(e.b:Rat)≠0
    grind
   refine{jV (s3.trans s45) n2,jE,E2++[{e.ns,r,e.pr.2.num,(e.pr.2.den:Int),k}], ?_, ?_,λx hx=>?_}
   .rw[mT];exact Paired.app (XF (k3 _) pr) (.cons {q,b,rfl,.inl ((ku _).tup _ _ e5),by show _=some (HO.tup ((LwD.ik e.ns).map kV));rw[LwD.xM];exact(k3 _).tup _ _ hb} .nil)
   .rw[uC he,<-pe];unfold pl;rw[mT]
    congr 1
    show [(e.ns,((e.pr.2.num:Int):Rat)/(((e.pr.2.den:Int)):Rat))]=[(e.ns,e.pr.2)];rw[fv_self]
   .rcases mV.mp hx with hx | hx
    .exact{(ok x hx).1.kp (k3 _),(ok x hx).2}
    .rw[hJ]at hx;subst hx;exact{{kE.len,kE.nn,kE.deg,(ku _).tup _ _ at',by show 0<((e.pr.2.den:Int));let:=e.pr.2.den_pos;∎,λz=>nz (Rat.num_eq_zero.mp z),sz.2,sz.1},tE _}
  .rintro zs H3 hl ⟨s3,e3,E2,pr,pe,ok⟩;rw[mL]at pe;let en:E2.map Ent.ns=EE.map Ent.ns:=by rw[<-HQ,<-HQ,pe]
   let nd2:(E2.map Ent.ns).Nodup:=en▸ndE;refine{l,zs,E2.map Ent.kv,rfl,e3,pr, ?_,λp H4 n4 s4 e4=>?_}
   .rw[nX];exact List.pairwise_map.mpr ((List.pairwise_map.mp nd2).imp λh e=>h (EA e))
   .have s34:=s3.trans s4;exact go p E2 H4 (QB s3 n4) s34 e4 {nd2,λe he=>(ok e he).1.kp (Kp.of s4)} (λe he=>(ok e he).2) pe
theorem max_deg{P:Pl}{m:Int}(h1:m∈0::P.map λx=>x.1.sum)(h2:∀x∈0::P.map (λx=>x.1.sum),x<=m):m=vX P:=by
 rcases nI.mp h1 with rfl | h1
 .exact Int.le_antisymm (wR P) (Lw.AX (λx hx=>h2 _ (gM _ (List.mem_map_of_mem (f:=λx:List Int×Rat=>x.1.sum) hx))) uQ)
 .exact ZY h1 (λy hy=>h2 y (gM _ hy)) (h2 0 (hU ..))
def spLDeg:Sp:=λvs H Q _=>∃(d:Addr) (ad D:Nat) (E:List Ent),vs=[.ref d]/\FQ H d ad D E/\ad<=4/\D<=16/\∀H',Same H H'->Q (.int (vX (pl E))) H'
structure TgI(E:List Ent)(l:Addr)(H1:Hp)(i:Nat)(ys:List V)(H2:Hp):Prop where
 s:Same H1 H2
 e:H2 l=some (.lst ys)
 y:ys=((pl (E.take i)).map λe=>e.1.sum).map V.int
theorem scLDeg:FnScope ["one"] ["one"] (jI OW):=scK #[2]
theorem ok_ldeg(F:Fun K "_law_degree" "_law_degree" OW f fd)(T:Txt mg):FnOk P w K mg base CX0 1 f fd ["one"] spLDeg:=by
 refine F.ok scLDeg #[9] #[4]
 .obtain⟨d,ad,D,E',rfl,_⟩:=h
  rfl
 .obtain⟨d,ad,D,EE,rfl,h1,m4,hD,go⟩:=h;let few:=h1.db.len hD m4;refine{_,jF (jR (kL (LwMx.call_max1 rfl) (by rfl) T.max boot_max (jA (jJ PY (vN #[73]) (xV (own:=1) (idx:=[]) (N:=["powers"]) rfl rfl rfl #[2] #[2] #[72] (vG rfl) rfl #[55] (LwD.yW (pv 0)) (λC fp s2 H2=>show PG (jL _ ["powers"] _ _ C fp s2 H2) _ (jP 0)from(jH (i:=0) (show List.Nodup (["powers"]:List Str) by decide +kernel) rfl #[5] #[38])) (λC fp s2 H2=>kL (show CallR (jL _ ["powers"] _ _ C fp s2 H2) (.builtin "sum") (WM K)from FS rfl) (by rfl) T.sum boot_sum (jA (pv 0) jD)))) jD))), ?_};try dsimp only[cxK]
  refine{(by show 1<=sizeLine;decide),λz0 H1 n1 s1 e1=>?_};obtain⟨o,f1⟩:=(h1.kp (Kp.of s1)).fr;refine{_,rfl,d,o,_,rfl,f1,zD EE,λys hk=>?_};intro l H2 n2 s2 e2;refine FR hk (TgI EE l H1) (gX few #[0]) {s2,e2,(rfl)} (λi zs H3 h=>{h.s _ _ f1,Kp.of h.s,h.e}) ?_ ?_
  .rintro i m zs e b H3 he eM hm hl ⟨s3,e3,ey⟩ hb hx;let kE:=h1.db.each e eM;refine{uL,_,rfl,b,e.ns,rfl,SqT.of hb,λn hn=>{kE.nn n hn, ?_},by rw[kE.len];∎, ?_}
   .have:=(vR kE.nn hn).1;let:=kE.deg
    ∎
   .refine qM hx hm hl e3 {jV s3 n2,jE, ?_};rw[ey,uC he,mT,mT]
    rfl
  .rintro zs H3 hl ⟨s3,e3,ey⟩;rw[mL]at ey;refine{z0,l,[.int 0],zs,rfl,rfl,s3 _ _ e1,e3, ?_,λq H4 n4 s4 e4=>?_}
   .show 1+zs.length<=sizeLine;exact nQ (show 1+zs.length<=83522 by ∎) #[0]
   refine{q,0::(pl EE).map (λe=>e.1.sum),rfl,by rw[e4,ey];rfl,by simp,λm h1 h2=>?_};rw[max_deg h1 h2];exact go H4 (s1.trans (s3.trans s4))
theorem lf_perm{m:Int->Rat}{A B:Tb}(h:A.Perm B):lf m A=lf m B:=by
 induction h with
 | nil=>rfl
 | cons x _ ih=>rw[kI,kI,ih]
 | swap x y l=>rw[kI,kI,kI,kI];grind
 | trans _ _ a b=>rw[a,b]
theorem el_perm{L:List Int->Rat}{A B:Pl}(h:A.Perm B):el L A=el L B:=by
 induction h with
 | nil=>rfl
 | cons x _ ih=>rw[kZ,kZ,ih]
 | swap x y l=>rw[kZ,kZ,kZ,kZ];grind
 | trans _ _ a b=>rw[a,b]
theorem ZR(L:List Int->Rat)(c:Rat):∀P:Pl,el (λn=>c*L n) P=c*el L P
 | []=>(Rat.mul_zero _).symm
 | x::P=>by rw[kZ,kZ,ZR L c P];grind
theorem cf_row(x:List Int×Rat)(ns:List Int):∀Q:Pl,cf (row x Q) ns=x.2*el (λy=>if qS x.1 y=ns then 1 else 0) Q
 | []=>(Rat.mul_zero _).symm
 | y::Q=>by
  let ih:=cf_row x ns Q;rw[kZ];show(if qS x.1 y.1=ns then x.2*y.2 else 0)+cf (row x Q) ns=_;rw[ih];split<;>grind
theorem SF(Q:Pl)(ns:List Int):∀P:Pl,cf (mul P Q) ns=el (λx=>el (λy=>if qS x y=ns then 1 else 0) Q) P
 | []=>rfl
 | x::P=>by
  rw[kZ,<-SF Q ns P,<-cf_row];exact zG ..
structure PlK(ad D:Nat)(P:Pl):Prop where
 len:∀x∈P,x.1.length=ad
 nn:∀x∈P,∀n∈x.1,0<=n
 deg:∀x∈P,x.1.sum<=D
 nd:(P.map (·.1)).Nodup
theorem PlK.byt{ad D:Nat}{P:Pl}(h:PlK ad D P)(l:D<=16):∀x∈P,x.1.length=ad/\Byt x.1:=λx hx=>{h.len x hx,yA (h.nn x hx) (by let:=h.deg x hx;∎)}
theorem DB.plk{ad D:Nat}(h:DB H ad D E):PlK ad D (pl E):=by
 refine{λx hx=>?_,λx hx=>?_,λx hx=>?_,by rw[HQ];exact h.nd}<;>obtain⟨e,he,rfl⟩:=nT.mp hx
 .exact(h.each e he).len
 .exact(h.each e he).nn
 .exact(h.each e he).deg
theorem DB.nz{ad D:Nat}(h:DB H ad D E):∀x∈pl E,x.2≠0:=λx hx=>by
 obtain⟨e,he,rfl⟩:=nT.mp hx;let k:=h.each e he;let h1:(e.t:Rat)≠0:=by simpa using k.nz
 let h2:(e.b:Rat)≠0:=by simpa using (show e.b≠0 by let:=k.pos;∎)
 show(e.t:Rat)/(e.b:Rat)≠0
 grind
theorem NG{P:Pl}{x:List Int×Rat}(hx:x∈P):x.1.sum<=vX P:=yS (List.mem_map_of_mem (f:=λz=>z.1.sum) hx)
theorem DB.dq{ad D:Nat}(h:DB H ad D E):DB H ad (vX (pl E)).toNat E:=⟨h.nd,λe he=>by
 let k:=h.each e he;let:e.ns.sum<=vX (pl E):=NG (x:=e.pr) (List.mem_map_of_mem he);exact{k.len,k.nn,∎,k.at',k.pos,k.nz,k.sb,k.st}⟩
section
variable{ad D D2:Nat}{P Q R:Pl}
theorem OH(hP:∀x∈P,x.1.length=ad/\Byt x.1)(nd:(P.map (·.1)).Nodup){f:Int->Rat}(h1:∀ns:List Int,ns.length=ad->Byt ns->f (pk ns)=cf P ns)(h0:∀k,(∀ns:List Int,ns.length=ad->Byt ns->k≠pk ns)->f k=0)(k:Int):tv (kH P) k=f k:=by
 by_cases q:∃ns:List Int,ns.length=ad/\Byt ns/\k=pk ns
 .obtain⟨ns,hl,hb,rfl⟩:=q;rw[zM hP nd hl hb,h1 ns hl hb]
 .rw[h0 k λns a b c=>q {ns,a,b,(c)}];refine xD λhk=>?_;rw[qU]at hk;obtain⟨x,hx,rfl⟩:=nT.mp hk;exact q {x.1,(hP x hx).1,(hP x hx).2,rfl}
theorem MC(hP:∀x∈P,x.1.length=ad/\Byt x.1)(nd:(P.map (·.1)).Nodup):((kH P).map (·.1)).Nodup:=by
 rw[qU];exact List.pairwise_map.mpr (List.Pairwise.imp_of_mem (fun {a b} ha hb h e=>h (AR ad (hP a ha).1 (hP b hb).1 (hP a ha).2 (hP b hb).2 e)) (List.pairwise_map.mp nd))
theorem OG(hP:∀x∈P,x.1.length=ad/\Byt x.1){k:Int}(h:∀ns:List Int,ns.length=ad->Byt ns->k≠pk ns):tv (kH P) k=0:=xD λhk=>by
 rw[qU]at hk;obtain⟨x,hx,rfl⟩:=nT.mp hk;exact h x.1 (hP x hx).1 (hP x hx).2 rfl
theorem cnt_tab(hP:∀x∈P,x.1.length=ad/\Byt x.1)(nd:(P.map (·.1)).Nodup)(nz:∀x∈P,x.2≠0):AH (kH P)=P.length:=by
 unfold AH;rw[List.filter_eq_self.mpr λk hk=>?_,qU,mS];rw[qU]at hk;obtain⟨x,hx,rfl⟩:=nT.mp hk;unfold nzb;rw[zM hP nd (hP x hx).1 (hP x hx).2,NT nd hx];exact mW (nz x hx)
theorem JU(hP:PlK ad D P)(hQ:PlK ad D2 Q)(l:D+D2<=16){x y:List Int×Rat}(hx:x∈P)(hy:y∈Q):(qS x.1 y.1).length=ad/\Byt (qS x.1 y.1)/\pk (qS x.1 y.1)=pk x.1+pk y.1:=by
 let lx:=hP.len x hx;let ly:=hQ.len y hy;let dx:=hP.deg x hx;let dy:=hQ.deg y hy;exact{by unfold qS;rw[List.length_zipWith];∎,yA (uF (hP.nn x hx) (hQ.nn y hy)) (by rw[yM ∎];∎),MV ad lx ly}
theorem XV{A A' B:Tb}(n1:#[76].Nodup)(n2:(A'.map (·.1)).Nodup)(h:∀k,tv A k=tv A' k)(k:Int):tv (xL A B) k=tv (xL A' B) k:=by
 rw[<-wK (uI A B).nd,<-wK (uI A' B).nd,AV,AV];exact lf_ext n1 n2 h
theorem tab_mul(hP:PlK ad D P)(hQ:PlK ad D2 Q)(l:D+D2<=16)(hR:PlK ad (D+D2) R)(c:∀m,cf R m=cf (mul P Q) m)(k:Int):tv (kH R) k=tv (xL (kH P) (kH Q)) k:=by
 refine OH (f:=tv (xL (kH P) (kH Q))) (hR.byt l) hR.nd (λns hl hb=>?_) (λk hk=>xD λhm=>?_) k
 .rw[c,SF,<-wK (uI _ _).nd,AV,NF];refine yV λx hx=>?_;rw[NF];refine yV λy hy=>?_;obtain⟨h1,h2,h3⟩:=JU hP hQ l hx hy;unfold Lw.dl;rw[<-h3];by_cases q:qS x.1 y.1=ns
  .rw[tO (congrArg pk q),tO q]
  .rw[tN q,tN λe=>q (AR ad h1 hl h2 hb e)]
 .obtain⟨e1,h1,e2,h2,ek⟩:=(uI (kH P) (kH Q)).ks k hm;obtain⟨x,hx,rfl⟩:=nT.mp h1;obtain⟨y,hy,rfl⟩:=nT.mp h2;obtain⟨h1,h2,h3⟩:=JU hP hQ l hx hy;exact hk _ h1 h2 (ek.trans h3.symm)
end
structure TabE(P:Pl)(T:Tb):Prop where
 nd:#[75].Nodup
 v:∀k,tv (kH P) k=tv T k
section
variable{ad D D2:Nat}{P Q R:Pl}{A B:Tb}
theorem TabE.nil:TabE [] []:={mZ,λ_=>rfl}
theorem TabE.one(ad:Nat)(x:Rat):TabE [(List.replicate ad 0,x)] [(0,x)]:={by simp,λk=>by show tv [(pk (List.replicate ad 0),x)] k=_;rw[CA]}
theorem TabE.mul(h:TabE P A)(hP:PlK ad D P)(hQ:PlK ad D2 Q)(l:D+D2<=16)(hR:PlK ad (D+D2) R)(c:∀m,cf R m=cf (mul P Q) m):TabE R (xL A (kH Q)):=
 {(uI _ _).nd,λk=>by rw[tab_mul hP hQ l hR c,XV (MC (hP.byt ∎) hP.nd) h.nd h.v]}
theorem TabE.add(h:TabE P A)(g:TabE Q B)(hP:PlK ad 16 P)(hQ:PlK ad 16 Q)(hR:PlK ad 16 R)(c:∀m,cf R m=cf P m+cf Q m):TabE R (ET A B):=by
 let a:=NY h.nd g.nd;let bP:=hP.byt uP ;let bQ:=hQ.byt uP ;refine{a.nd,λk=>?_};rw[a.vl,<-h.v,<-g.v];exact OH (f:=λk=>tv (kH P) k+tv (kH Q) k) (hR.byt uP) hR.nd (λns hl hb=>by show tv _ _+tv _ _=_;rw[zM bP hP.nd hl hb,zM bQ hQ.nd hl hb,c]) (λk hk=>by show tv _ _+tv _ _=_;rw[OG bP hk,OG bQ hk,nV]) k
theorem TabE.sz(h:TabE P A)(hP:PlK ad D P)(l:D<=16){K:Nat}(o:∀k,SzK K (tv A k)):∀x∈P,SzK K x.2:=λx hx=>by
 let b:=hP.byt l;rw[<-NT hP.nd hx,<-zM b hP.nd (b x hx).1 (b x hx).2,h.v];exact o _
end
structure Bud(U:Par)(ad KK:Nat)(es ns:List Int)(l t D:Nat)(T:Tb):Prop where
 ex:∃(B:Int) (b N R W:Nat),PT ad B N D T/\0<B/\B.natAbs<=2^b/\N+(U.s+1)*R<=KK/\b+U.r*R<=KK/\D+W<=16/\(R:Int)+t=(ns.drop l).sum/\(W:Int)+t*es.getD l 0=wz (ns.drop l) (es.drop l)
section
variable{U:Par}{ad KK D:Nat}{es ns:List Int}{l t:Nat}{T:Tb}
theorem Bud.sz(h:Bud U ad KK es ns l t D T)(k:Int):SzK KK (tv T k):=by
 obtain⟨B,b,N,R,W,pt,B0,hb,h1,h2,_⟩:=h.ex;exact SzK.of (FE pt.vl k) B0 hb ∎ ∎
theorem Bud.d16(h:Bud U ad KK es ns l t D T):D<=16:=by
 obtain⟨B,b,N,R,W,pt,B0,hb,h1,h2,h3,_⟩:=h.ex
 ∎
theorem Bud.mul(ok:ParOk U)(nn:∀n∈ns,0<=n)(en:∀e∈es,0<=e)(hl:l<ns.length)(he:l<es.length)(h:Bud U ad KK es ns l t D T)(ht:(t:Int)+1<=ns.getD l 0)(o:TdO ad (U.D l) U.s (eN es l) Td):Bud U ad KK es ns l (t+1) (D+eN es l) (xL T Td)/\D+eN es l<=16:=by
 obtain⟨B,b,N,R,W,pt,B0,hb,h1,h2,h3,h4,h5⟩:=h.ex;let ds:=AD hl nn;let e0:=ZS en l;let wd:=GB hl he;let wn:=IP (ns:=ns.drop (l+1)) (es:=es.drop (l+1)) (λn hn=>nn n (List.mem_of_mem_drop hn)) (λe hn=>en e (List.mem_of_mem_drop hn));let m1:=Int.mul_le_mul_of_nonneg_right ht (show(0:Int)<=es.getD l 0 by ∎);rw[Int.add_mul,Int.one_mul]at m1;obtain⟨r,rfl⟩:∃r,R=r+1:={R-1,∎};let k16:D+eN es l<=16:=∎
 rw[Nat.mul_succ]at h1 h2;refine{{B*U.D l,b+U.r,N+U.s,r,W-eN es l,pt.mul o B0 (ok.p2 l),tG B0 (ok.p2 l), ?_,∎,∎,∎,∎, ?_},k16}
 .rw[Int.natAbs_mul,Nat.pow_add];exact mY hb (ok.b2 l)
 .rw[<-h5,show((t+1:Nat):Int)=(t:Int)+1 from rfl,Int.add_mul,Int.one_mul]
  ∎
theorem Bud.next(nn:∀n∈ns,0<=n)(hl:l<ns.length)(he:l<es.length)(h:Bud U ad KK es ns l t D T)(ht:(t:Int)=ns.getD l 0):Bud U ad KK es ns (l+1) 0 D T:=by
 obtain⟨B,b,N,R,W,pt,B0,hb,h1,h2,h3,h4,h5⟩:=h.ex;let ds:=AD hl nn;let wd:=GB hl he;rw[ht]at h5;exact{B,b,N,R,W,pt,B0,hb,h1,h2,h3,∎,by rw[show((0:Nat):Int)=0 from rfl,Int.zero_mul];∎}
theorem Bud.start(ok:ParOk U){X:Nat}{x:Rat}(hx:Ov U.D1 U.N x)(z:KyD ad 0 0)(h1:ns.sum<=X)(h0:0<=ns.sum)(k1:U.N+(U.s+1)*X<=KK)(k2:U.b+U.r*X<=KK)(w:wz ns es<=16)(w0:0<=wz ns es):Bud U ad KK es ns 0 0 0 [(0,x)]:=by
 let hX:ns.sum.toNat<=X:=∎
 let m1:=gW (U.s+1) hX;let m2:=gW U.r hX;refine{U.D1,U.b,U.N,ns.sum.toNat,(wz ns es).toNat,{by simp,λk hk=>?_,λe he=>?_},ok.p1,ok.b1,∎,∎,∎,by rw[List.drop_zero];∎,by rw[List.drop_zero,List.drop_zero,show((0:Nat):Int)=0 from rfl,Int.zero_mul];∎}
 .rw[show k=0 by simpa using hk];exact z
 .rw[show e=(0,x) by simpa using he];exact hx
end
abbrev tQ(Fs:List (List Ent))(j:Nat):Tb:=kH (pl (Fs.getD j []))
abbrev dQ(Fs:List (List Ent)):List Int:=Fs.map λF=>vX (pl F)
structure PuH(H:Hp)(d1 lo:Addr)(mo ad:Nat)(E1:List Ent)(ps:List Addr)(Fs:List (List Ent))(U:Par)(KK X kF:Nat):Prop where
 f1:FQ H d1 mo 16 E1
 k1:KB (λ_=>KK) E1
 c1:∀x∈pl E1,Ov U.D1 U.N x.2
 pm:∀x∈pl E1,∀j,(x.1.getD j 0).toNat<=U.M j
 sX:∀x∈pl E1,x.1.sum<=X
 eo:H lo=some (.lst (ps.map V.ref))
 pq:Paired (λa F=>FQ H a ad 16 F/\KB (λ_=>kF) F/\F.length*(KK+kF+1)<=7900) ps Fs
 lp:ps.length=mo
 qo:∀j F,Fs[j]? = some F->F.length<=2^5/\∃n c,n+c<=U.s/\F.length<=2^c/\∀x∈pl F,Ov (U.D j) n x.2
 ok:ParOk U
 m1:1<=ad
 m4:ad<=4
 o4:mo<=4
 e:gE U mo 0<=KK
 n:gN U mo 0<=KK
 x1:U.N+(U.s+1)*X<=KK
 x2:U.b+U.r*X<=KK
 kk:KK+kF<=3900
theorem PuH.same{H H':Hp}{d1 lo:Addr}{mo ad:Nat}{E1:List Ent}{ps:List Addr}{Fs:List (List Ent)}{U:Par}{KK X kF:Nat}(h:PuH H d1 lo mo ad E1 ps Fs U KK X kF)(s:Same H H'):PuH H' d1 lo mo ad E1 ps Fs U KK X kF:=
 {h.f1.kp (Kp.of s),h.k1,h.c1,h.pm,h.sX,s _ _ h.eo,Paired.to (λ_ _ q=>{q.1.kp (Kp.of s),q.2}) h.pq,h.lp,h.qo,h.ok,h.m1,h.m4,h.o4,h.e,h.n,h.x1,h.x2,h.kk}
def NotG(P:Pl)(es:List Int):Prop:=∀x∈P,wz x.1 es<=16
def spLPut:Sp:=λvs H Q _=>∃(d1 lo:Addr) (mo ad:Nat) (E1:List Ent) (ps:List Addr) (Fs:List (List Ent)) (U:Par) (KK X kF:Nat),vs=[.ref d1,.ref lo,.int ad]/\PuH H d1 lo mo ad E1 ps Fs U KK X kF/\NotG (pl E1) (dQ Fs)/\
 ∀(p:Addr) (E':List Ent) (H':Hp),Same H H'->FQ H' p ad 16 E'->KB (λ_=>KK) E'->TabE (pl E') (zL (tQ Fs) mo (pl E1))->Q (.ref p) H'
theorem ER{ad D:Nat}{E:List Ent}(n:H p=none)(s:Same H H')(e:H' p=some (.dT #[30]))(db:DB H' ad D E)(o:Obj):Same H (upd H' p (.frz o (.dT #[30])))/\FQ (upd H' p (.frz o (.dT #[30]))) p ad D E:=
 {jV s n,{{o,(jE)},db.kp (Kp.upd e trivial)}}
theorem FQ.up{ad D D':Nat}(h:FQ H d ad D E)(l:D<=D'):FQ H d ad D' E:={h.fr,h.db.up l}
theorem dQ_nn :∀e∈dQ Fs,0<=e:=λe he=>by
 obtain⟨F,_,rfl⟩:=nT.mp he;exact wR _
theorem LG{j:Nat}(h:Fs[j]? = some F):eN (dQ Fs) j=(vX (pl F)).toNat/\tQ Fs j=kH (pl F):=by
 unfold eN tQ;rw[uT,mB,uT,h];exact{rfl,(rfl)}
theorem AQ(E:List Ent):(pl E).length=E.length:=mS ..
theorem IY(n:Nat):(List.replicate n (0:Int)).sum=0:=by
 induction n with
 | zero=>rfl
 | succ n ih=>rw[List.replicate_succ,nM,ih];rfl
theorem sum_nn{m:List Int}(h:∀n∈m,0<=n):0<=m.sum:=by
 induction m with
 | nil=>exact tJ _
 | cons a m ih=>
  rw[nM];let:=h a (hU ..);let:=ih λn hn=>h n (gM _ hn)
  ∎
theorem ky0(ad:Nat):KyD ad 0 0:={List.replicate ad 0,gI,λn hn=>by rw[List.eq_of_mem_replicate hn];exact tJ _,by rw[IY];exact tJ _,(CA ad).symm}
section
variable{H:Hp}{d1 lo:Addr}{mo ad:Nat}{E1:List Ent}{ps:List Addr}{Fs:List (List Ent)}{U:Par}{KK X kF:Nat}
theorem PuH.lf(h:PuH H d1 lo mo ad E1 ps Fs U KK X kF):(dQ Fs).length=mo:=by rw[mS,<-Paired.length h.pq];exact h.lp
theorem PuH.at(h:PuH H d1 lo mo ad E1 ps Fs U KK X kF){j:Nat}(hj:j<mo):∃(a:Addr) (F:List Ent),ps[j]? = some a/\Fs[j]? = some F/\FQ H a ad (vX (pl F)).toNat F/\KB (λ_=>kF) F/\F.length*(KK+kF+1)<=7900/\TdO ad (U.D j) U.s (eN (dQ Fs) j) (tQ Fs j):=by
 let hp:ps[j]? = some (ps[j]'(by let:=h.lp;∎)):=uY _;obtain⟨F,hF,f,k,l⟩:=Paired.at h.pq hp;obtain⟨l5,n,c,hs,hl,hv⟩:=h.qo j F hF;obtain⟨e1,e2⟩:=LG hF;let pk':=f.db.plk;refine{_,F,hp,hF,{f.fr,(f.db.dq)},k,l, ?_};rw[e1,e2];let lE:(kH (pl F)).length=F.length:=by rw[GK];exact mS ..
 refine{MC (pk'.byt uP) pk'.nd,by rw[lE];exact l5,{n,c,hs,by rw[lE];exact hl,λx hx=>?_},λk hk=>?_}
 .obtain⟨y,hy,rfl⟩:=nT.mp hx;exact hv y hy
 .rw[qU]at hk;obtain⟨x,hx,rfl⟩:=nT.mp hk;let:=NG hx;exact{x.1,pk'.len x hx,pk'.nn x hx,∎,rfl}
theorem PuH.tot(h:PuH H d1 lo mo ad E1 ps Fs U KK X kF)(g:NotG (pl E1) (dQ Fs))(i:Nat):∀k,SzK KK (tv (zL (tQ Fs) mo ((pl E1).take i)) k):=by
 let pk':=h.f1.db.plk;let sub:∀x∈(pl E1).take i,x∈pl E1:=λx hx=>gT hx;let lf:=h.lf;let st:StL U (dQ Fs) 0 16 ((pl E1).take i):={λx hx=>by rw[pk'.len x (sub x hx),lf],λx hx=>pk'.nn x (sub x hx),λx hx=>h.pm x (sub x hx),λx hx=>by rw[List.drop_zero,List.drop_zero];exact g x (sub x hx),λx hx=>h.c1 x (sub x hx),dQ_nn};let pt:=DF (ad:=ad) (Td:=tQ Fs) h.ok (λj hj=>let ⟨_,_,_,_,_,_,_,o⟩:=h.at (show j<mo by ∎);o) (ky0 ad) mo 0 16 _ ∎ st;let b:=LB h.ok mo 0;intro k;rw[RC {by rw[nN];exact pk'.nd.sublist (List.take_sublist ..),λx hx=>pk'.len x (sub x hx),λx hx=>pk'.nn x (sub x hx),λx _ y _=>rfl} pt.nd];exact SzK.of (FE pt.vl k) b.1 b.2 h.n h.e
end
theorem YO{Td:Nat->Tb}{L:Nat}{P:Pl}{i:Nat}{x:List Int×Rat}(hx:P[i]? = some x):zL Td L (P.take (i+1))=ET (zL Td L (P.take i)) (AU Td x.1 x.2 L):=by
 unfold zL;rw[mD,hx,List.foldl_append]
 rfl
inductive PuO(H:Hp)(d1 lo:Addr)(mo ad KK:Nat)(E1:List Ent)(Fs:List (List Ent))(i:Nat):L2.St->Hp->Prop where
 | mk {u4 u5 u6 u7 u8:Option V} {H':Hp} {dt:Addr} {Et:List Ent} (s:Same H H') (f:FQ H' dt ad 16 Et) (kb:KB (λ_=>KK) Et) (v:TabE (pl Et) (zL (tQ Fs) mo ((pl E1).take i))):PuO H d1 lo mo ad KK E1 Fs i [some (.ref d1),some (.ref lo),some (.int ad),some (.ref dt),u4,u5,u6,u7,u8] H'
inductive PuJ(H:Hp)(d1 lo dt b:Addr)(ad KK:Nat)(U:Par)(Fs:List (List Ent))(e:Ent)(l:Nat)(u6 u7:Option V)(t:Nat):L2.St->Hp->Prop where
 | mk {u8:Option V} {H':Hp} {dm:Addr} {D:Nat} {Em:List Ent} (s:Same H H') (f:FQ H' dm ad D Em) (kb:KB (λ_=>KK) Em) (v:TabE (pl Em) (DR (AU (tQ Fs) e.ns e.pr.2 l) (tQ Fs l) t)) (bd:Bud U ad KK (dQ Fs) e.ns l t D (DR (AU (tQ Fs) e.ns e.pr.2 l) (tQ Fs l) t)):PuJ H d1 lo dt b ad KK U Fs e l u6 u7 t [some (.ref d1),some (.ref lo),some (.int ad),some (.ref dt),some (.ref b),some (.ref dm),u6,u7,u8] H'
theorem scLPut:FnScope ["one","others","many","total","powers","made","power","other","turn"] ["one","others","many"] (jI BY):=scK #[2]
theorem ok_lput(F:Fun K "_law_put_in" "_law_put_in" BY f fd)(T:Txt mg)(GA:DG P w K mg base 3 "_law_added" HL ["one","other"] spAdded)(GP:DG P w K mg base 3 "_law_product" OS ["one","other"] spProd)
 (GL:DG P w K mg base 2 "_law_lowered" wX ["one"] spLowered):FnOk P w K mg base CX0 4 f fd ["one","others","many"] spLPut:=by
 refine F.ok scLPut #[9] #[4]
 .obtain⟨d1,lo,mo,ad,E1,ps,Fs,U,KK,X,kF,rfl,_⟩:=h
  rfl
 .obtain⟨d1,lo,mo,ad,E1,ps,Fs,U,KK,X,kF,rfl,PH,ng,go⟩:=h;let hr2:Room 2 _:=hr.mono #[0];let hu0:_<cLine:=gX (Nat.add_le_add_left (by decide:0<=64) _) hr.units;let hu:_+1<cLine:=gX #[10] hr.units;refine⟨_,jC (jM (i:=3) scLPut.nd rfl #[5] (LwD.xG uD)) (jC (qC PassesOwn.never rfl (LwD.yW (pv 0)) (jH (i:=4) scLPut.nd rfl #[5])
   (jC (jM (i:=5) scLPut.nd rfl #[5] (LwD.xG (LwD.JT hu0 (jJ LwD.op_repT (kN #[73]) (pv 2)) (vO hu (pv 0) (pv 4) #[11]))))
   (jC (qC PassesOwn.never rfl (HS (by rfl) T.zip (jA (pv 4) #[74])) (qK rfl (jK (jH (i:=6) scLPut.nd rfl #[5]) (jK (jH (i:=7) scLPut.nd rfl #[5]) kT)))
    (jF (qC PassesOwn.never rfl (xF (by rfl) T.rng (jA (pv 6) jD)) (jH (i:=8) scLPut.nd rfl #[5])
     (jF (jM (i:=5) scLPut.nd rfl #[5] (LwD.xG (cal GL hr2 (jA (LwD.xG (cal GP hr (jA (pv 5) (jA (pv 7) jD)))) jD))))))))
   (jF (jM (i:=3) scLPut.nd rfl #[5] (LwD.xG (cal GL hr2 (jA (LwD.xG (cal GA hr (jA (pv 3) (jA (pv 5) jD)))) jD))))))))
   (jF (jR (pv 3)))), ?_⟩
  try dsimp only[cxK]
  intro p0 np0;refine{p0,([]:List Ent).map Ent.kv,rfl,jE,λo0=>?_};let kk:=PH.kk;obtain⟨s1,f1⟩:=ER (H':=upd H p0 (.dT [])) (E:=[]) (ad:=ad) (D:=16) np0 (jO _ np0) jE .nil o0;generalize upd (upd H p0 (.dT [])) p0 _=H1 at s1 f1;let PH1:=PH.same s1;obtain⟨oo,fo⟩:=PH1.f1.fr;dsimp only[jP];refine{_,rfl,d1,oo,_,rfl,fo,zD E1,λks hks=>?_};refine zX hks (PuO H1 d1 lo mo ad KK E1 Fs) (.mk #[43] f1 (λe h=>nomatch h) .nil) (λi O H2 h=>?_) (λi e b O H2 he eM hb h=>?_) (fun O H2 h=>?_)
  .obtain⟨s2,_,_,_⟩:=h;exact{s2 _ _ fo,Kp.of s2}
  .obtain⟨s2,f2,kb2,v2⟩:=h;rename_i dt Et;let PH2:=PH1.same s2;let kE:=PH2.f1.db.each e eM;let ex:e.pr∈pl E1:=List.mem_map_of_mem eM;let hx1:(pl E1)[i]? = some e.pr:=by unfold pl;rw[mB,he];rfl
   let w0:=IP (ns:=e.ns) (es:=dQ Fs) kE.nn dQ_nn;let sn:0<=e.ns.sum:=sum_nn kE.nn;let le:e.ns.length=mo:=kE.len;let lf:=PH.lf;dsimp only[jP];intro pm npm;let sa:Same H2 (upd H2 pm (.dT [])):=jO _ npm;refine{(by show 1<=sizeLine;decide),λz0 H3 n3 s3 e3=>{_,rfl,z0,ad,.int 0,rfl,rfl,e3,PH.m1,PH.m4,λb2 H4 s4 e4=>?_}};let s34:=s3.trans s4;let s24:=sa.trans s34;refine{_,rfl,_,rfl,d1,_,rfl,(PH2.f1.kp (Kp.of s24)).get eM (s24 _ _ hb),s34 _ _ jE,b2,LwD.ik (List.replicate ad 0),rfl,by rw[LwD.xM,List.map_replicate];exact e4,pm,([{List.replicate ad 0,e.c,e.t,e.b,e.k}]:List Ent).map Ent.kv,rfl,jE,λom=>?_};let dbm:DB (upd H4 pm (.dT [(LwD.ik (List.replicate ad 0),.ref e.c)])) ad 0 [⟨List.replicate ad 0,e.c,e.t,e.b,e.k⟩]:=by
    refine{by simp,λx hx=>?_};rw[hJ]at hx;subst hx;refine{gI,λn hn=>by rw[List.eq_of_mem_replicate hn];exact tJ _, ?_,((Kp.of s34).trans (Kp.upd (s34 _ _ jE) trivial)).tup _ _ (sa _ _ kE.at'),kE.pos,kE.nz,kE.sb,kE.st};show(List.replicate ad (0:Int)).sum<=((0:Nat):Int);rw[IY];exact tJ _
   obtain⟨s5,f5⟩:=ER (H':=upd H4 pm (.dT [(LwD.ik (List.replicate ad 0),.ref e.c)])) npm (jV s24 npm) jE dbm om;generalize upd (upd H4 pm (.dT [(LwD.ik (List.replicate ad 0),.ref e.c)])) pm _=H5 at s5 f5;let hb5:=s5 _ _ hb;let PH5:=PH2.same s5;let kb5:KB (λ_=>KK) [(⟨List.replicate ad 0,e.c,e.t,e.b,e.k⟩:Ent)]:=λx hx=>by
    rw[hJ]at hx;subst hx;exact PH.k1 e eM
   dsimp only[jP];refine{_,rfl,_,rfl,b,lo,rfl,{_,SqT.of hb5},{_,SqL.of PH5.eo}, ?_};refine ZM (K:=K) (a:=b) (b:=lo) (xs:=e.ns.map V.int) (ys:=ps.map V.ref) (λl O H'=>∃u6 u7,PuJ H5 d1 lo dt b ad KK U Fs e l u6 u7 0 O H') (by rw[mS,mS,le];exact PH.lp.symm)
    {_,_,.mk #[43] f5 kb5 (TabE.one ad _) (Bud.start PH.ok (X:=X) (PH.c1 _ ex) (ky0 ad) (PH.sX _ ex) sn PH.x1 PH.x2 (ng _ ex) w0)} (λl O H6 _ h=>?_) (λl x y p O H6 hx hy np h=>?_) (fun O H6 h=>?_)
   .obtain⟨u6,u7,s6,_,_,_,_⟩:=h;exact{SqT.of (s6 _ _ hb5),SqL.of (s6 _ _ PH5.eo)}
   .obtain⟨u6,u7,s6,f6,kb6,v6,bd6⟩:=h;rename_i dm D Em;rw[mB]at hx hy;obtain⟨n,hn,rfl⟩:=Option.map_eq_some_iff.mp hx;obtain⟨a,ha,rfl⟩:=Option.map_eq_some_iff.mp hy;let hl:l<e.ns.length:=(uW.mp hn).1;let en:e.ns.getD l 0=n:=by rw[uT,hn];rfl
    let n0:0<=n:=kE.nn n (gL hn);let n16:n<=16:=by
     let:=(vR kE.nn (gL hn)).1;let:=kE.deg
     ∎
    let s7:Same H6 (upd H6 p (.tup [.int n,.ref a])):=jO _ np;refine gT2 (SqT.of jE) rfl ?_;generalize upd H6 p (.tup [.int n,.ref a])=H7 at s7;dsimp only[jP];refine{_,rfl,_,rfl,∎,∎, ?_};refine xQ (PuJ H5 d1 lo dt b ad KK U Fs e l (some (.int n)) (some (.ref a))) (.mk (s6.trans s7) (f6.kp (Kp.of s7)) kb6 v6 bd6) (λt O H8 ht h=>?_) (fun O H8 h=>?_)
    .obtain⟨s8,f8,kb8,v8,bd8⟩:=h;rename_i dm D Em;obtain⟨a',F,ha',hF,fF,kF',lF,o⟩:=(PH5.same s8).at (show l<mo by ∎);obtain rfl:a=a':=Option.some.inj (ha.symm.trans ha');obtain⟨bd9,d16⟩:=bd8.mul PH.ok kE.nn dQ_nn hl ∎ ∎ o;let eD:=(LG hF).1;rw[eD]at d16 bd9;dsimp only[jP];refine{_,rfl,_,rfl,dm,a,ad,D,(vX (pl F)).toNat,Em,F,KK,kF,rfl,f8,fF,PH.m4,d16,kb8,kF',∎,lF,λq E' H9 n9 s9 e9 db9 kb9 c9=>{q,_,rfl,e9,λo9=>?_}};obtain⟨s10,f10⟩:=ER n9 s9 e9 db9 o9;generalize upd H9 q _=H10 at s10 f10;let v9:TabE (pl E') (DR (AU (tQ Fs) e.ns e.pr.2 l) (tQ Fs l) (t+1)):=by
      show TabE _ (xL _ _);rw[(LG hF).2];rw[(LG hF).2]at v8;exact v8.mul f8.db.plk fF.db.plk d16 db9.plk c9
     dsimp only[tNil];refine{q,ad,_,KK,E',rfl,f10,PH.m4,d16,kb9,v9.sz db9.plk d16 bd9.sz,λq2 E2 H11 n11 s11 e11 db11 kb11 p11=>{q2,_,rfl,e11,λo11=>?_}};obtain⟨s12,f12⟩:=ER n11 s11 e11 db11 o11;exact .mk (s8.trans (s10.trans s12)) f12 kb11 (by rw[p11];exact v9) bd9
    .obtain⟨s8,f8,kb8,v8,bd8⟩:=h;let bd9:=Bud.next (t:=n.toNat) kE.nn hl ∎ bd8 (by rw[en];∎);refine{_,_,.mk s8 f8 kb8 ?_ ?_}
     .show TabE _ (DR _ _ (e.ns.getD l 0).toNat);rw[en];exact v8
     .show Bud _ _ _ _ _ _ _ _ (DR _ _ (e.ns.getD l 0).toNat);rw[en];exact bd9
   .obtain⟨u6,u7,s6,f6,kb6,v6,bd6⟩:=h;rename_i dm D Em;let s56:=s5.trans s6;rw[mS,le]at v6;let v6:TabE (pl Em) (AU (tQ Fs) e.ns e.pr.2 mo):=v6;let g6:=f6.up bd6.d16;let g2:=f2.kp (Kp.of s56);dsimp only[jP];refine{_,rfl,_,rfl,dt,dm,ad,16,Et,Em,KK,KK,rfl,g2,g6,PH.m1,PH.m4,tE _,kb2,kb6,∎,∎,λq E' H7 n7 s7 e7 db7 kb7 c7=>{q,_,rfl,e7,λo7=>?_}};obtain⟨s8,f8⟩:=ER n7 s7 e7 db7 o7;generalize upd H7 q _=H8 at s8 f8;let v7:TabE (pl E') (zL (tQ Fs) mo ((pl E1).take (i+1))):=by
     rw[YO hx1];exact v2.add v6 g2.db.plk g6.db.plk db7.plk c7
    dsimp only[tNil];refine{q,ad,16,KK,E',rfl,f8,PH.m4,tE _,kb7.up λm=>∎,v7.sz db7.plk uP (PH.tot ng (i+1)),λq2 E2 H9 n9 s9 e9 db9 kb9 p9=>{q2,_,rfl,e9,λo9=>?_}};obtain⟨s10,f10⟩:=ER n9 s9 e9 db9 o9;exact .mk (s2.trans (s56.trans (s8.trans s10))) f10 kb9 (by rw[p9];exact v7)
  .obtain⟨s2,f2,kb,v⟩:=h;rw[gD (by rw[AQ];exact tE _)]at v;exact{_,rfl,go _ _ H2 (s1.trans s2) f2 kb v}
def EZ(K:tP):Sp:=λvs H Q _=>∃(d1 lo:Addr) (mo ad:Nat) (E1:List Ent) (ps:List Addr) (Fs:List (List Ent)) (U:Par) (KK X kF:Nat),vs=[.ref d1,.ref lo,.int ad]/\PuH H d1 lo mo ad E1 ps Fs U KK X kF/\
 (∀H',Same H H'->(¬NotG (pl E1) (dQ Fs)∨NotG (pl E1) (dQ Fs)/\∃P:Pl,500<P.length/\TabE P (zL (tQ Fs) mo (pl E1))/\PlK ad 16 P/\∀x∈P,x.2≠0)->Q (.str "great") H')/\
 (∀(E' E0:List Ent) (p:Addr) (H':Hp),Same H H'->NotG (pl E1) (dQ Fs)->E0.Perm E'->TabE (pl E') (zL (tQ Fs) mo (pl E1))->PlK ad 16 (pl E')->SumQ K H' p ad (pl E0)->PlOk ad (pl E0)->Q (.ref p) H')
inductive DuI(H:Hp)(d1 lo:Addr)(ad:Nat)(E1:List Ent)(Fs:List (List Ent))(i:Nat):L2.St->Hp->Prop where
 | mk {u3 u4:Option V} {H':Hp} (s:Same H H') (g:∀x∈(pl E1).take i,wz x.1 (dQ Fs)<=16):DuI H d1 lo ad E1 Fs i [some (.ref d1),some (.ref lo),some (.int ad),u3,u4] H'
theorem scDue:FnScope ["one","others","many","powers","found"] ["one","others","many"] (jI WH):=scK #[2]
theorem ok_due(F:Fun K "_law_due" "_law_due" WH f fd)(T:Txt mg)(GD:DG P w K mg base 1 "_law_degree" OW ["one"] spLDeg)(GP:DG P w K mg base 4 "_law_put_in" BY ["one","others","many"] spLPut)
 (GS:DG P w K mg base 2 "_law_sum" FA ["many","one"] (GN K)):FnOk P w K mg base CX0 5 f fd ["one","others","many"] (EZ K):=by
 refine F.ok scDue #[9] #[4]
 .obtain⟨d1,lo,mo,ad,E1,ps,Fs,U,KK,X,kF,rfl,_⟩:=h
  rfl
 .obtain⟨d1,lo,mo,ad,E1,ps,Fs,U,KK,X,kF,rfl,PH,gG,gS⟩:=h;let hr1:Room 1 _:=hr.mono #[0];let hr2:Room 2 _:=hr.mono #[0];refine⟨_,jC (qC PassesOwn.never rfl (LwD.yW (pv 0)) (jH (i:=3) scDue.nd rfl #[5]) (jF (qJ (jX wJ (kL (FT rfl) (by rfl) T.sum boot_sum (jA (xV (own:=2) (idx:=[]) (N:=["power","other"]) rfl rfl rfl #[2] #[2] #[72] (vG rfl) rfl #[55] (HS (by rfl) T.zip (jA (pv 3) #[74]))
    (λC fp s2 H2=>show PG (jL _ ["power","other"] _ _ C fp s2 H2) _ #[28]from qK (X:=jL _ ["power","other"] _ _ C fp s2 H2) rfl (jK (jH (i:=0) (show List.Nodup (["power","other"]:List Str) by decide +kernel) rfl #[5] #[38]) (jK (jH (i:=1) (show List.Nodup (["power","other"]:List Str) by decide +kernel) rfl #[5] #[38]) kT)))
    (λC fp s2 H2=>jJ qE (pv 0) (cal GD hr1 #[74]))) jD)) jB (kM _)) (jF (jR HU)) jY)))
   (jC (jM (i:=4) scDue.nd rfl #[5] (cal GP hr (jA (pv 0) (jA (pv 1) (jA (pv 2) jD)))))
   (jC (qJ (jX wJ (kL UX (by rfl) T.len PySem.boot_len (jA (pv 4) jD)) jB (kM _)) (jF (jR HU)) jY)
   (jF (jR (cal GS hr2 (jA (pv 2) (jA (pv 4) jD))))))), ?_⟩
  try dsimp only[cxK]
  obtain⟨oo,fo⟩:=PH.f1.fr;let lf:=PH.lf;let o4:=PH.o4;let lp:=PH.lp;let pk':=PH.f1.db.plk;refine{_,rfl,d1,oo,_,rfl,fo,zD E1,λks hks=>?_};refine zX hks (DuI H d1 lo ad E1 Fs) (.mk #[43] λ_ h=>nomatch h) (λi O H2 h=>?_) (λi e b O H2 he eM hb h=>?_) (fun O H2 h=>?_)
  .obtain⟨s2,_⟩:=h;exact{s2 _ _ fo,Kp.of s2}
  .obtain⟨s2,g2⟩:=h;let PH2:=PH.same s2;let kE:=PH2.f1.db.each e eM;let ex:e.pr∈pl E1:=List.mem_map_of_mem eM;let hx1:(pl E1)[i]? = some e.pr:=by unfold pl;rw[mB,he];rfl
   let le:e.ns.length=mo:=kE.len;dsimp only[jP];refine{_,rfl,_,rfl,b,lo,rfl,{_,SqT.of hb},{_,SqL.of PH2.eo},λl2 H4 n4 s4 e4'=>?_};refine EI (K:=K) (a:=b) (b:=lo) (ts:=e.ns.map V.int) (us:=ps.map V.ref) (CmI (λi=>((List.zipWith (· * ·) e.ns (dQ Fs)).take i).map V.int) l2 H2) (by rw[mS,mS,le,lp]) (by rw[mS,lp,sizeLine_eq];∎) {s4,e4',(rfl)} (λi ys H5 h=>{SqT.of (h.s _ _ hb),SqL.of (h.s _ _ PH2.eo),h.e}) ?_ ?_
   .rintro j m ys x' y' c' H5 hx' hy' hm hyl ⟨s5,e5,ey⟩ hc;let hy2:=hy';rw[mB]at hx' hy2;obtain⟨n,hn,rfl⟩:=Option.map_eq_some_iff.mp hx';obtain⟨a,ha,rfl⟩:=Option.map_eq_some_iff.mp hy2;let hj:j<mo:=by rw[<-le];exact(uW.mp hn).1
    let s6:Same H5 (upd H5 c' (.tup [V.int n,.ref a])):=jO _ hc;let e6:(upd H5 c' (.tup [V.int n,.ref a])) c'=some (.tup [V.int n,.ref a]):=jE;generalize upd H5 c' (.tup [V.int n,.ref a])=H6 at s6 e6;obtain⟨a',F,ha',hF,fF,_⟩:=(PH2.same (s5.trans s6)).at hj;obtain rfl:a=a':=Option.some.inj (ha.symm.trans ha');let nb:=(vR kE.nn (gL hn)).1;let n0:=kE.nn n (gL hn);let nd:=kE.deg;let d0:=wR (pl F);let d1:=Lw.AX (P:=pl F) (D:=16) (λx hx=>by
     obtain⟨g,hg,rfl⟩:=nT.mp hx;obtain⟨G,hG,f',_⟩:=Paired.at (PH2.pq) ha;obtain rfl:F=G:=Option.some.inj (hF.symm.trans hG);exact(f'.db.each g hg).deg) #[0]
    let bb:∀z:Int,0<=z->z<=16->z.natAbs<2^100000:=λz h0 h1=>jQ (m:=10) (by let:(2:Nat)^10=1024:=rfl;∎) #[0];refine{c',_,rfl,SqT.of e6,rfl,_,_,rfl,_,_,rfl,rfl,FK,_,rfl,_,rfl,a,ad,_,F,rfl,fF,PH.m4,(by ∎:(vX (pl F)).toNat<=16),λH7 s7=>{_,_,rfl,rfl,{bb n n0 ∎,bb _ d0 d1}, ?_}};let s67:=s6.trans s7;refine qM hy' hm hyl (s67 _ _ e5) {jV (s5.trans s67) n4,jE, ?_};rw[ey,NZ hn (show(dQ Fs)[j]? = some (vX (pl F)) by rw[mB,hF];rfl),mT]
    rfl
   .rintro ys H5 hl5 ⟨s5,e5,ey⟩;rw[mS,gD (show(List.zipWith (· * ·) e.ns (dQ Fs)).length<=ps.length by rw[List.length_zipWith];∎)]at ey;subst ey;refine{l2,_,rfl,SqL.of e5,_,_,rfl,rfl,_,rfl, ?_};show(if decide ((16:Int)<wz e.ns (dQ Fs))=true then _ else _);refine wH (λk=>?_) (λk=>?_)
    .have k:=mG k;exact gG H5 (s2.trans s5) (.inl λz=>by let:wz e.ns (dQ Fs)<=16:=z _ ex;∎)
    .refine .mk (s2.trans s5) λx hx=>?_;rw[mD,hx1]at hx;rcases mV.mp hx with hx | hx
     .exact g2 x hx
     .obtain rfl:x=e.pr:=by simpa using hx
      exact Int.not_lt.mp λz=>k (mW z)
  .obtain⟨s2,g2⟩:=h;rw[gD (by rw[AQ];exact tE _)]at g2;let PH2:=PH.same s2;dsimp only[jP];refine{_,rfl,_,rfl,_,rfl,d1,lo,mo,ad,E1,ps,Fs,U,KK,X,kF,rfl,PH2,g2,λp E' H3 s3 f3 kb3 v3=>?_};let s23:=s2.trans s3;refine{_,rfl,p,_,rfl,f3.rd,_,_,rfl,rfl,_,rfl, ?_};rw[mS];refine wH (λk=>?_) (λk=>?_)
   .have k:=mG k;exact gG H3 s23 (.inr {g2,pl E',by rw[AQ];∎,v3,f3.db.plk,f3.db.nz})
   .have k:E'.length<=500:=by
     let:=mt mW k
     ∎
    let kk:=PH.kk;refine{_,rfl,_,rfl,p,ad,16,E',rfl,f3.rd,f3.db,PH.m1,PH.m4,k,kb3.up λm=>∎,tE _,λq E0 H5 nq s5 pE sq ok=>?_};exact gS E' E0 q H5 (s23.trans s5) g2 pE v3 f3.db.plk sq ok
def JB(K:tP):Sp:=λvs H Q _=>∃(p:Addr) (ad:Nat) (P:Pl),vs=[.ref p]/\SumQ K H p ad P/\PlOk ad P/\∀H',Same H H'->Q (.bl true) H'
inductive WpI(H:Hp)(p:Addr)(i:Nat):L2.St->Hp->Prop where
 | mk {a b c:Option V} {H':Hp} (s:Same H H'):WpI H p i [some (.ref p),a,b,c] H'
theorem all_int{ns:List Int}{t b:Int}{i:Nat}(h:(ns.map V.int++[V.int t,V.int b])[i]? = some x):∃n:Int,x=.int n:=by
 let:ns.map V.int++[V.int t,V.int b]=(ns++[t,b]).map V.int:=by rw[mT];rfl
 rw[this,mB]at h;obtain⟨n,_,e⟩:=Option.map_eq_some_iff.mp h;exact{n,(e.symm)}
theorem scWp:FnScope ["made","powers","number","one"] ["made"] (jI BQ):=scK #[2]
theorem ok_wholeP(F:Fun K "_law_whole_parts" "_law_whole_parts" BQ f fd)(T:Txt mg):FnOk P w K mg base CX0 1 f fd ["made"] (JB K):=by
 refine F.ok scWp #[9] #[4]
 .obtain⟨p,ad,PP,rfl,_⟩:=h
  rfl
 .obtain⟨p,ad,PP,rfl,hP,ok,go⟩:=h;refine{_,jC (qC PassesOwn.never rfl (wM (jT jW (pv 0) jB #[11])) (qK rfl (jK (jH (i:=1) scWp.nd rfl #[5]) (jK (jH (i:=2) scWp.nd rfl #[5]) kT))) (jF (qC PassesOwn.never rfl (wM (jJ op_catH (pv 1) (pv 2))) (jH (i:=3) scWp.nd rfl #[5]) (jF (qJ (PW.pt (WO (WS (AO (MW isi_int T.isi T.int boot_int (pv 3)))) (MS (AO (MW KU T.isi T.bool boot_bool (pv 3)))))) (jF (jR XB)) jY))))) (jF (jR (pe_not (MW KU T.isi T.bool boot_bool (jT jW (pv 0) jB #[11]))))), ?_};try dsimp only[cxK]
  obtain⟨q,xs,e1,e2,pr⟩:=hP.ex;refine{_,rfl,p,_,_,_,rfl,rfl,SqT.of e1,rfl,q,rfl,{xs,SqT.of e2}, ?_};refine uM (K:=K) (a:=q) (xs:=xs) (WpI H p) (.mk #[43]) (λi O H2 _ h=>?_) (λi x O H2 hx h=>?_) (fun O H2 h=>?_)
  .obtain⟨s2⟩:=h;exact SqT.of (s2 _ _ e2)
  .obtain⟨s2⟩:=h;obtain⟨y,hy,r,b,c,rfl,r1,r2,r3⟩:=Paired.at pr hx;let ym:=gL hy;let ly:=ok.len y ym;let m4:=ok.m4;obtain⟨c',ec,hc⟩:=r3;cases ec;refine gT2 (SqT.of (s2 _ _ r1)) rfl ?_;refine{_,rfl,_,rfl,b,c,_,_,rfl,rfl,s2 _ _ r2,s2 _ _ hc, ?_,λt H3 s3 e3=>{t,rfl,{_,SqT.of e3}, ?_}}
   .rw[mS,sizeLine_eq];show _+2<=_
    ∎
   let s23:=s2.trans s3;refine uM (K:=K) (a:=t) (xs:=y.1.map V.int++[V.int y.2.num,V.int y.2.den]) (WpI H3 p) (.mk #[43]) (λi O H4 _ h=>?_) (λi x O H4 hx h=>?_) (fun O H4 h=>?_)
   .obtain⟨s4⟩:=h;exact SqT.of (s4 _ _ e3)
   .obtain⟨s4⟩:=h;obtain⟨n,rfl⟩:=all_int hx;dsimp only[jP];refine{_,rfl,rfl,_,.int n,_,rfl, ?_};refine yT rfl {_,rfl,rfl,_,.int n,_,rfl, ?_};refine yT rfl ?_;exact .mk s4
   .obtain⟨s4⟩:=h;exact .mk (s23.trans s4)
  .obtain⟨s2⟩:=h;refine{_,rfl,p,_,_,_,rfl,rfl,SqT.of (s2 _ _ e1),rfl,rfl,_,.int ad,_,rfl,go H2 s2}
end LwK
namespace LwE
open PySem PySem.W PySem.Spec PyProof.Rows L2
section
variable{X:Cx}{k1 k2:Nat}{f1 f2:Addr}{fd1 fd2:FuncData}{ps1 ps2:List Str}{sp1 sp2:Sp}{q pos:Pos}{o i e:Expr}{es:List Expr}{tf:TE}{t:TA}
def rIsE(K:Frag):List V->Hp->VK->Prop:=λxs H Q=>rIsXT K xs H Q∨∃(tp:Addr) (ys:List V) (cs:List Value) (b:Bool),xs=[.non,.ref tp]/\H tp=some (.tup ys)/\Paired VCls ys cs/\kitAny K (.type "NoneType") cs=some b/\Q (.bl b) H
theorem call_isE:CallR X (.builtin "isinstance") (rIsE X.K):=by
 intro ae s O H xs us Q I r h;rcases h with h | h
 .exact UY ae s O H xs us Q I r h
 .obtain⟨tp,ys,cs,b,rfl,ht,hy,hb,q⟩:=h;obtain⟨u1,u2,rfl,r1,r2⟩:=OA r;cases r1;cases r2;obtain⟨_,its,rv,it,_⟩:=(show ObjOk X.prog X.w H s.heap tp (.tup ys)from I.hok tp _ ht);let e:=CP hy rv;subst e;obtain⟨o,h1,h2,n,h3⟩:=it;obtain⟨oc,od,odt,osl⟩:=o;cases h2;cases h3;exact kia_tup kitx_none I.kIn trivial h1 hb #[27] λtk=>{.bl b,H,I.tok tk,rfl,q}
end
end LwE
namespace LwK
open PySem PySem.Spec PyProof.Rows L2 LwQ LwV Lw
def AskOk(P1:Pl)(Qs:List Pl)(mo:Nat):Prop:=¬Grt P1 Qs/\AH (xE (QT Qs) mo 0 P1)<=500
def AskNo(P1:Pl)(Qs:List Pl)(mo:Nat):Prop:=Grt P1 Qs∨¬Grt P1 Qs/\500<AH (xE (QT Qs) mo 0 P1)
def wB(K:tP):Sp:=λvs H Q _=>∃(p1 oa:Addr) (mo ad:Nat) (P1:Pl) (ps:List Addr) (Qs:List Pl) (U:Par),vs=[.ref p1,.ref oa]/\PutH K H p1 oa mo ad P1 ps Qs U/\
 ((AskOk P1 Qs mo/\∀(p:Addr) (P:Pl) (H':Hp),H p=none->Same H H'->SumQ K H' p ad P->SumT ad (xE (QT Qs) mo 0 P1) P->Q (.ref p) H')∨(AskNo P1 Qs mo/\∀H',Same H H'->Q (.str "great") H'))
structure ClsN(K:tP)(mg:Str->Option Value)(fI C D c1 c2 c3 c4 c5 c6 c7:Addr)(bl bd:List Value):Prop where
 c:Cls8 K mg fI C D c1 c2 c3 c4 c5 c6 c7 bl bd
 nn:PySem.W.kitAny K (.type "NoneType") [.ref c1,.ref c2,.ref c3,.ref c4,.ref c5,.ref c6,.ref c7]=some false
variable{P:Program}{w:World}{K:tP}{mg:Str->Option Value}{base:Heap}{f fd:_}
theorem scAsk:FnScope ["one","others","caught","found","e"] ["one","others"] (jI CZ):=scK #[2]
theorem ok_asked(F:Fun K "_law_asked" "_law_asked" CZ f fd)(T:Txt mg)(DP:Df K mg "put_in" GZ ["one","others"] fP fdP)(PX:FnOk P w K mg base (LwE.CXF P w) 11 fP fdP ["one","others"] (OM K C))(cN:ClsN K mg fI C D c1 c2 c3 c4 c5 c6 c7 bl bd):FnOk P w K mg base CX0 12 f fd ["one","others"] (wB K):=by
 let c:=cN.c;refine F.ok scAsk #[9] #[4]
 .obtain⟨p1,oa,mo,ad,P1,ps,Qs,U,rfl,_⟩:=h
  rfl
 .obtain⟨p1,oa,mo,ad,P1,ps,Qs,U,rfl,PH,go⟩:=h;refine⟨_,jC (jM (i:=2) scAsk.nd rfl #[5] HV) (jC (jM (i:=3) scAsk.nd rfl #[5] HV)
   (jC (LwE.ps_catch (j:=4) rfl rfl rfl rfl c.d rfl c.md scAsk.nd rfl rfl (LwE.pbx_set (i:=3) rfl scAsk.nd rfl rfl PX hr rfl DP.m DP.F.kp DP.b (jA (pv 0) #[74])) (λe=>jF (jM (i:=2) scAsk.nd rfl #[5] (pv 4))))
   (jC (qJ (AO (kL LwE.call_isE (by rfl) T.isi boot_isinstance (jA (pv 2) (jA (kN (jA (qD (v:=.ref c1) rfl c.m1 rfl) (jA (qD (v:=.ref c2) rfl c.m2 rfl) (jA (qD (v:=.ref c3) rfl c.m3 rfl) (jA (qD (v:=.ref c4) rfl c.m4 rfl)
    (jA (qD (v:=.ref c5) rfl c.m5 rfl) (jA (qD (v:=.ref c6) rfl c.m6 rfl) (jA (qD (v:=.ref c7) rfl c.m7 rfl) jD)))))))) jD)))) (jF (jR HV)) jY)
   (jC (qJ (MT (pc_isN (pv 2))) (jF (jR (pv 3))) jY)
   (jC (qJ (PW.pt (WP (AO (kL LwE.call_isX (by rfl) T.isi boot_isinstance (jA (pv 2) (jA (qD (v:=.ref C) rfl c.mq rfl) jD))))
    (PF (AO (kL LwE.call_isX (by rfl) T.isi boot_isinstance (jA (pv 2) (jA (PV (v:=.ty "ValueError") rfl T.verr PyProof.Rows.Boot.«ValueError» rfl) jD))))))) (jF (jR HU)) jY)
   (jF (jR HV))))))), ?_⟩
  try dsimp only[cxK]
  rcases go with⟨hs,go⟩ | ⟨hb,go⟩
  .refine{λ_ _ _=>False,{_,rfl,_,rfl,p1,oa,mo,ad,P1,ps,Qs,U,rfl,PH,.inr {hs.1,hs.2,λp PP H2 n2 s2 SQ ST=>?_}},λ_ _ h=>h.elim};refine{_,rfl,(by show 7<=sizeLine;decide),λtp H3 n3 s3 e3=>?_};refine .inr {tp,_,_,false,rfl,e3,.cons rfl (.cons rfl (.cons rfl (.cons rfl (.cons rfl (.cons rfl (.cons rfl .nil)))))),cN.nn, ?_};refine{_,rfl,iteF ?_};refine{_,rfl,_,rfl,DY (by rfl) {_,rfl, ?_}};exact go p PP H3 n2 (s2.trans s3) (SQ.same s3) ST
  .refine{λx _ H'=>x=.ref C/\Same H H',{_,rfl,_,rfl,p1,oa,mo,ad,P1,ps,Qs,U,rfl,PH,.inl {hb,λH' s'=>{rfl,(s')}}}, ?_};rintro x H' ⟨rfl,s'⟩;refine{C,fI,bl,_,rfl,c.q,c.up,λe hn=>?_};let s1:Same H' (upd H' e (LwE.excH e C)):=jO _ hn;let e1:(upd H' e (LwE.excH e C)) e=some (LwE.excH e C):=jE;generalize upd H' e (LwE.excH e C)=H1 at s1 e1;refine{_,rfl,_,rfl,(by show 7<=sizeLine;decide),λtp H3 n3 s3 e3=>?_};refine .inl {e,C,fI,tp,bl,_,_,_,false,rfl,s3 _ _ e1,c.q,e3,.cons rfl (.cons rfl (.cons rfl (.cons rfl (.cons rfl (.cons rfl (.cons rfl .nil)))))),c.no, ?_};refine{_,rfl,iteF ?_};refine{_,rfl,_,rfl,yT (by rfl) ?_};refine{_,rfl,e,C,fI,bl,_,_,_,true,rfl,s3 _ _ e1,c.q,rfl,(by unfold PySem.W.kitOne;simp),{_,rfl,iteT ?_}};refine{_,rfl,e,C,fI,bl,_,_,_,true,rfl,s3 _ _ e1,c.q,rfl,c.ve,{_,rfl,iteT ?_}};exact go H3 (s'.trans (s1.trans s3))
def gk(a c k:Nat):List Int:=(([0,0,0,0]:List Int).set a ((k:Int)%5)).set c ((k:Int)/5)
def gkb(a c k:Nat):Bool:=(gk a c k).all (λn=>decide (0<=n))&&decide ((gk a c k).sum<=8)&&decide ((gk a c k).getD a 0=((k%5:Nat):Int))&&decide ((gk a c k).getD c 0=((k/5:Nat):Int))
theorem gk_all:((List.range 4).all λa=>(List.range 4).all λc=>a==c||(List.range 25).all λk=>gkb a c k)=true:=by decide +kernel
theorem ZB(a:Nat)(ha:a<4)(c:Nat)(hc:c<4)(n:a≠c)(k:Nat)(hk:k<25):(∀n∈gk a c k,0<=n)/\(gk a c k).sum<=8/\(gk a c k).getD a 0=((k%5:Nat):Int)/\(gk a c k).getD c 0=((k/5:Nat):Int):=by
 let h:=List.all_eq_true.mp (List.all_eq_true.mp gk_all a (mX.mpr ha)) c (mX.mpr hc);rw[Bool.or_eq_true]at h;rcases h with h | h
 .exact absurd (mG h) n
 let h:=List.all_eq_true.mp h k (mX.mpr hk);unfold gkb at h;rw[Bool.and_eq_true,Bool.and_eq_true,Bool.and_eq_true]at h;exact{λn hn=>mG (List.all_eq_true.mp h.1.1.1 n hn),mG h.1.1.2,mG h.1.2,mG h.2}
theorem gk_inj{a c j k:Nat}(ha:a<4)(hc:c<4)(n:a≠c)(hj:j<25)(hk:k<25)(e:gk a c j=gk a c k):j=k:=by
 obtain⟨_,_,h1,h2⟩:=ZB a ha c hc n j hj;obtain⟨_,_,h3,h4⟩:=ZB a ha c hc n k hk;rw[e]at h1 h2;let h1:=Int.ofNat_inj.mp (h1.symm.trans h3);let h2:=Int.ofNat_inj.mp (h2.symm.trans h4)
 ∎
theorem gr_ov{i:Nat}(hi:i<25):Ov 6 8 (((1+(i:Int):Int):Rat)/((1+(i:Int)%3:Int):Rat)):=by
 let st:(1+(i:Int)).natAbs<=2^5:=by let:(2:Nat)^5=32:=rfl;∎
 let o:∀u:Int,Ov u 5 (((1+(i:Int):Int):Rat)/(u:Rat)):=λu=>{_,rfl,st};let h3:(i:Int)%3=0∨(i:Int)%3=1∨(i:Int)%3=2:=∎
 rcases h3 with h | h | h<;>rw[h]
 .exact(o 1).scale (c:=6) (b:=3) #[0] #[0] #[0]
 .exact((o 2).scale (c:=3) (b:=2) #[0] #[0] #[0]).up #[0]
 .exact((o 3).scale (c:=2) (b:=1) #[0] #[0] #[0]).up #[0]
def spGrid:Sp:=λvs H Q _=>∃(a c n:Nat),vs=[.int a,.int c,.int n]/\a<4/\c<4/\a≠c/\n<=25/\
 ∀(p:Addr) (E':List Ent) (H':Hp),H p=none->Same H H'->H' p=some (.dT (E'.map Ent.kv))->DB H' 4 8 E'->KB (λ_=>5) E'->E'.length<=n->(∀x∈pl E',Ov 6 8 x.2)->Q (.ref p) H'
inductive GrI(H H1:Hp)(p:Addr)(a c n:Nat)(i:Nat):L2.St->Hp->Prop where
 | mk {u v:Option V} {H':Hp} {E':List Ent} (s:Same H H') (s1:Kp H1 H') (e:H' p=some (.dT (E'.map Ent.kv))) (db:DB H' 4 8 E') (kb:KB (λ_=>5) E') (ln:E'.length<=i) (ov:∀x∈pl E',Ov 6 8 x.2) (ky:∀m∈E'.map Ent.ns,∃j,j<i/\m=gk a c j):GrI H H1 p a c n i [some (.int a),some (.int c),some (.int n),some (.ref p),u,v] H'
theorem scGrid:FnScope ["first","second","many","found","k","powers"] ["first","second","many"] (jI OX):=scK #[2]
theorem ok_grid(F:Fun K "_law_grid" "_law_grid" OX f fd)(T:Txt mg):FnOk P w K mg base CX0 1 f fd ["first","second","many"] spGrid:=by
 refine F.ok scGrid #[9] #[4]
 .obtain⟨a,c,n,rfl,_⟩:=h
  rfl
 .obtain⟨a,c,n,rfl,ha,hc,hac,hn,go⟩:=h;let hu:_+1<cLine:=gX #[10] hr.units;refine{_,jC (jM (i:=3) scGrid.nd rfl #[5] (uD)) (jC (qC PassesOwn.never rfl (xF (by rfl) T.rng (jA (pv 2) jD)) (jH (i:=4) scGrid.nd rfl #[5]) (jC (jM (i:=5) scGrid.nd rfl #[5] #[67]) (jC (xA (jJ vT (pv 4) jB) (yX (pv 5) (pv 0) vZ)) (jC (xA (jJ qV (pv 4) jB) (yX (pv 5) (pv 1) vZ)) (jF (BZ hu (pv 3) (qL qX (by rfl) T.tup boot_tuple (jA (pv 5) jD)) (kN (jA (jJ qA jB (pv 4)) (jA (jJ qA jB (jJ vT (pv 4) jB)) jD))) rfl)))))) (jF (jR (pv 3)))), ?_};try dsimp only[cxK]
  intro p np;let s1:Same H (upd H p (.dT [])):=jO _ np;generalize hH1:upd H p (.dT [])=H1 at s1;let e1:H1 p=some (.dT (([]:List Ent).map Ent.kv)):=hH1▸jE;refine{_,rfl,_,rfl,∎,∎, ?_};refine xQ (GrI H H1 p a c n) (.mk s1 (Kp.of #[43]) e1 .nil (λe h=>nomatch h) uP (λe h=>nomatch h) (λn h=>nomatch h)) (λi O H2 hi h=>?_) (fun O H2 h=>?_)
  .obtain⟨s2,k2,e2,db,kb,le,ov,ky⟩:=h;rename_i E2;let hi25:i<25:=∎
   let g:=ZB a ha c hc hac i hi25;refine{uS,λl H3 n3 s3 e3=>?_};let ei:(0:Int)+(i:Int)=(i:Int):=∎
   dsimp only[jP];let e3:H3 l=some (.lst (([0,0,0,0]:List Int).map V.int)):=e3;let ix:∀{x:Nat} {ns:List Int},x<4->ns.length=4->ixN #[16].length (x:Int)=some x:=fun {x ns} hx hl=>by
    unfold ixN;rw[tO ∎,tO (by rw[mS,hl];∎)]
    rfl
   refine{_,rfl,_,_,rfl,rfl,(by show(0:Int)<5;decide),_,rfl,_,rfl,l,_,_,a,rfl,rfl,e3,ix ha rfl, ?_};refine{_,rfl,_,_,rfl,rfl,{by decide,by decide},_,rfl,_,rfl,l,_,_,c,rfl,rfl,by rw[<-List.map_set];exact jE,ix hc (by rw[List.length_set];rfl), ?_};rw[ei];rw[<-List.map_set];let hl:H l=none:=QB s2 n3;generalize hH4:upd (upd H3 l _) l _=H4;let e4:H4 l=some (.lst ((gk a c i).map V.int)):=by
    rw[<-hH4,jE];unfold gk;rw[List.map_set (l:=([0,0,0,0]:List Int).set a ((i:Int)%5))]
   let s4:Same H2 H4:=λx o hx=>by rw[<-hH4];exact jV (jV s3 n3) n3 x o hx
   refine{_,rfl,_,_,rfl,rfl,_,rfl,_,_,rfl,rfl,(by show(0:Int)<3;decide),_,_,rfl,rfl,uR,λr H5 n5 s5 e5=>?_};refine{_,rfl,_,rfl,l,_,rfl,.inl {SqL.of (s5 _ _ e4),λq nq=>?_}};let sq:Same H5 (upd H5 q (.tup ((gk a c i).map V.int))):=jO _ nq;let eq:(upd H5 q (.tup ((gk a c i).map V.int))) q=some (.tup ((gk a c i).map V.int)):=jE;generalize upd H5 q (.tup ((gk a c i).map V.int))=H6 at sq eq;let s46:=s5.trans sq;let s26:=s4.trans s46;let nw:gk a c i∉E2.map Ent.ns:=λhh=>by
    obtain⟨j,hj,e⟩:=ky _ hh;let:=gk_inj ha hc hac hi25 ∎ e
    ∎
   let e6:=s26 _ _ e2;let kz:(List.map Ent.kv E2).length<sizeLine:=gX (by rw[mS];exact nQ le (show i<=3000 by ∎)) #[0];refine{p,_,rfl,DPut.t (k:=LwD.ik (gk a c i)) e6 (by rw[LwD.xM];exact eq) kz, ?_};let k6:Kp H2 (upd H6 p (.dT (qB (List.map Ent.kv E2) (LwD.ik (gk a c i)) (.ref r)))):=(Kp.of s26).trans (Kp.upd e6 trivial);let rp:r≠p:=λzz=>by rw[zz,s4 _ _ e2]at n5;cases n5
   let gl:(gk a c i).length=4:=by unfold gk;rw[List.length_set,List.length_set];rfl
   refine .mk (E':=E2++[{gk a c i,r,1+i,1+(i:Int)%3,5}]) (jV (s2.trans s26) np) (k2.trans k6) ?_ {?_,λy hy=>?_} (λy hy=>?_) ?_ (λy hy=>?_) (λn hn'=>?_)
   .rw[jE,PJ (zE nw),mT]
    rfl
   .rw[mT,mH];refine{db.nd,by simp,λx hx b hb=>?_};let:b=gk a c i:=by simpa using hb
    rintro rfl;rw[this]at hx;exact nw hx
   .rcases mV.mp hy with hy | hy
    .exact(db.each y hy).kp k6
    .rw[hJ]at hy;subst hy;refine{gl,g.1,g.2.1,by show At2 _ r _ _;rw[At2,jG rp];exact sq _ _ e5,by show 0<1+(i:Int)%3;∎,by show 1+(i:Int)≠0;∎, ?_, ?_}
     .show(1+(i:Int)%3).natAbs<=32
      ∎
     .show(1+(i:Int)).natAbs<=32
      ∎
   .rcases mV.mp hy with hy | hy
    .exact kb y hy
    .rw[hJ]at hy;subst hy;exact tE _
   .rw[List.length_append];exact Nat.succ_le_succ le
   .unfold pl at hy;rw[mT]at hy;rcases mV.mp hy with hy | hy
    .exact ov y hy
    .obtain rfl:y=(gk a c i,((1+(i:Int):Int):Rat)/((1+(i:Int)%3:Int):Rat)):=by simpa [Ent.pr]using hy
     exact gr_ov hi25
   .rw[mT]at hn';rcases mV.mp hn' with hn' | hn'
    .obtain⟨j,hj,e⟩:=ky n hn';exact{j,∎,e}
    .exact{i,∎,hJ.mp hn'}
  .obtain⟨s2,k2,e2,db,kb,le,ov,ky⟩:=h;exact{_,rfl,go p _ H2 np s2 e2 db kb le ov}
def trD(x:List Int×Rat):PyData:=.tuple [.tuple (x.1.map PyData.int),.tuple [.int x.2.num,.int x.2.den]]
def MN(ad:Nat)(P:Pl):PyData:=.tuple [.int ad,.tuple (P.map trD)]
theorem FP :∀ns:List Int,DecVs H #[16] (ns.map PyData.int)
 | []=>.nil
 | n::r=>.cons (.int n) (FP r)
theorem TmQ.dec{x:List Int×Rat}(h:TmQ K H v x):DecV H v (trD x):=by
 obtain⟨r,b,c,rfl,e1,e2,c',ec,e3⟩:=h;cases ec;exact .tup e1 (.cons (.tup e2 (FP _)) (.cons (.tup e3 (.cons (.int _) (.cons (.int _) .nil))) .nil))
theorem SA :∀{xs:List V} {P:Pl},Paired (TmQ K H) xs P->DecVs H xs (P.map trD)
 | _,_,.nil=>.nil
 | _,_,.cons h t=>.cons (TmQ.dec h) (SA t)
theorem SumQ.dec{K:tP}{H:Hp}{p:Addr}{ad:Nat}{P:Pl}(h:SumQ K H p ad P):DecV H (.ref p) (MN ad P):=by
 obtain⟨q,xs,e1,e2,e3⟩:=h.ex;exact .tup e1 (.cons (.int _) (.cons (.tup e2 (SA e3)) .nil))
theorem FJ:∀ns:List Int,PyData.canLayAll0 (ns.map PyData.int)=true/\PyData.depthAll (ns.map PyData.int)<=5
 | []=>{by simp [PyData.canLayAll0],by simp [PyData.depthAll]}
 | n::r=>by
  let:=FJ r;exact{by simp [PyData.canLayAll0,PyData.canLay0,this.1],by simp [PyData.depthAll,PyData.depth];∎}
theorem RB:∀P:Pl,PyData.canLayAll0 (P.map trD)=true/\PyData.depthAll (P.map trD)<=20
 | []=>{by simp [PyData.canLayAll0],by simp [PyData.depthAll]}
 | x::r=>by
  let h1:=RB r;let h2:=FJ x.1;exact{by simp [PyData.canLayAll0,PyData.canLay0,trD,h1.1,h2.1],by simp [PyData.depthAll,PyData.depth,trD];∎}
theorem sum_ok(ad:Nat)(P:Pl):DataOk (MN ad P):=by
 let h1:=RB P;exact{by simp [PyData.canLayAll0,PyData.canLay0,MN,h1.1],by simp [PyData.depthAll,PyData.depth,MN];∎}
theorem great_ok:DataOk (.str "great"):={by decide +kernel,by decide +kernel}
theorem NM:PyData.eqv (.str "great") (.str "great")=true:=SeqAt.eqv_refl _ great_ok.1
theorem IZ(ad:Nat)(P:Pl)(x:Str):PyData.eqv (MN ad P) (.str x)=false:=by
 simp [PyData.eqv,MN]
theorem JH{S T:Tb}(h:S.Perm T):∀(p:Nat) (L:Int->Rat),shp S p L=shp T p L
 | 0,_=>rfl
 | p+1,L=>by
  let e:sh S L=sh T L:=by
   funext k
   exact lf_perm h
  show shp S p (sh S L)=shp T p (sh T L);rw[e,JH h p]
theorem JO{Td Te:Nat->Tb}{L:Nat}(h:∀j,j<L->(Td j).Perm (Te j))(ns:List Int):∀(n l:Nat) (μ:Int->Rat),l+n<=L->pws Td n l ns μ=pws Te n l ns μ
 | 0,_,_,_=>rfl
 | n+1,l,μ,hn=>by
  show pws Td n (l+1) ns (shp (Td l) (pwN ns l) μ)=pws Te n (l+1) ns (shp (Te l) (pwN ns l) μ);rw[JH (h l ∎),JO h ns n (l+1) _ ∎]
theorem YQ{Td Te:Nat->Tb}{L:Nat}{P R:Pl}(h:∀j,j<L->(Td j).Perm (Te j))(hP:P.Perm R)(k:Int):tv (zL Td L P) k=tv (zL Te L R) k:=by
 let h1:=CH Td L (Lw.dl k) P (A:=[]) mZ;let h2:=CH Te L (Lw.dl k) R (A:=[]) mZ;let e1:tv (zL Td L P) k=lf (Lw.dl k) (zL Td L P):=(wK h1.2).symm;let e2:tv (zL Te L R) k=lf (Lw.dl k) (zL Te L R):=(wK h2.2).symm;rw[e1,e2];refine h1.1.trans (Eq.trans ?_ h2.1.symm);rw[el_perm hP]
 congr 1
 exact yV λx _=>JO h x.1 L 0 _ ∎
theorem ZX{P R:Pl}(h:P.Perm R):vX P=vX R:=by
 let:∀{A B:Pl},A.Perm B->vX A<=vX B:=fun {A B} q=>Lw.AX (λx hx=>NG (q.mem_iff.mp hx)) (wR B);exact Int.le_antisymm (this h) (this h.symm)
theorem yE{E E0:List Ent}(h:E0.Perm E):(pl E0).Perm (pl E):=h.map _
def Srt(F:List Ent)(Q:Pl):Prop:=(pl F).Perm Q
structure Bth(K:tP)(H:Hp)(d1 lo p1 oa:Addr)(mo ad:Nat)(E1 E0:List Ent)(ps qs:List Addr)(Fs:List (List Ent))(Qs:List Pl)(U:Par)(KK X kF:Nat):Prop where
 l:PuH H d1 lo mo ad E1 ps Fs U KK X kF
 p:PutH K H p1 oa mo ad (pl E0) qs Qs U
 s:Paired Srt Fs Qs
 e:E0.Perm E1
theorem Bth.same{K:tP}{H H':Hp}{d1 lo p1 oa:Addr}{mo ad:Nat}{E1 E0:List Ent}{ps qs:List Addr}{Fs:List (List Ent)}{Qs:List Pl}{U:Par}{KK X kF:Nat}(h:Bth K H d1 lo p1 oa mo ad E1 E0 ps qs Fs Qs U KK X kF)(s:Same H H'):Bth K H' d1 lo p1 oa mo ad E1 E0 ps qs Fs Qs U KK X kF:={h.l.same s,h.p.same s,h.s,h.e}
theorem OK(h:Paired Srt Fs Qs):dQ Fs=dgs Qs:=by
 induction h with
 | nil=>rfl
 | cons a _ ih=>
  show vX _::dQ _=vX _::dgs _;rw[ZX a,ih]
section
variable{K:tP}{H:Hp}{d1 lo p1 oa:Addr}{mo ad:Nat}{E1 E0:List Ent}{ps qs:List Addr}{Fs:List (List Ent)}{Qs:List Pl}{U:Par}{KK X kF:Nat}
theorem Bth.grt(h:Bth K H d1 lo p1 oa mo ad E1 E0 ps qs Fs Qs U KK X kF):Grt (pl E0) Qs↔¬NotG (pl E1) (dQ Fs):=by
 rw[OK h.s];constructor
 .rintro⟨x,hx,g⟩ n;let:wz x.1 (dgs Qs)<=16:=n x ((yE h.e).mem_iff.mp hx)
  ∎
 .intro n;refine uV λg=>n λx hx=>?_;exact Int.not_lt.mp λz=>g {x,(yE h.e).mem_iff.mpr hx,z}
theorem Bth.tv(h:Bth K H d1 lo p1 oa mo ad E1 E0 ps qs Fs Qs U KK X kF)(g:¬Grt (pl E0) Qs):((xE (QT Qs) mo 0 (pl E0)).map (·.1)).Nodup/\∀k,Lw.tv (xE (QT Qs) mo 0 (pl E0)) k=Lw.tv (zL (tQ Fs) mo (pl E1)) k:=by
 obtain⟨st,td⟩:=h.p.tb g;let td:=td h.p.o1.m1;let lq:(dgs Qs).length=mo:=by rw[<-OK h.s];exact h.l.lf
 let pt:=DF (Td:=QT Qs) td.ok td.o td.z mo 0 16 (pl E0) ∎ st;refine{pt.nd,λk=>?_};rw[<-RC {h.p.o1.ndn,h.p.o1.len,h.p.o1.nn,λx _ y _=>rfl} pt.nd];refine YQ (λj hj=>?_) (yE h.e) k;obtain⟨_,F,_,hF,_⟩:=h.l.at hj;obtain⟨Q,hQ,s⟩:=Paired.at h.s hF;rw[(LG hF).2];unfold QT;rw[WN hQ];exact(List.Perm.map _ s).symm
theorem Bth.cnt(h:Bth K H d1 lo p1 oa mo ad E1 E0 ps qs Fs Qs U KK X kF)(g:¬Grt (pl E0) Qs){P:Pl}(v:TabE P (zL (tQ Fs) mo (pl E1)))(k:PlK ad 16 P)(nz:∀x∈P,x.2≠0):AH (xE (QT Qs) mo 0 (pl E0))=P.length:=by
 obtain⟨nd,e⟩:=h.tv g;let b:=k.byt uP ;rw[cnt_eq nd (MC b k.nd) λj=>by rw[e,<-v.v],cnt_tab b k.nd nz]
end
inductive AnsO(K:tP)(H:Hp)(mo ad:Nat)(P1:Pl)(Qs:List Pl):V->PyData->Prop where
 | great (h:AskNo P1 Qs mo):AnsO K H mo ad P1 Qs (.str "great") (.str "great")
 | sum {p:Addr} {P:Pl} (h:AskOk P1 Qs mo) (q:SumQ K H p ad P) (t:SumT ad (xE (QT Qs) mo 0 P1) P):AnsO K H mo ad P1 Qs (.ref p) (MN ad P)
section
variable{K:tP}{H H':Hp}{d1 lo p1 oa:Addr}{mo ad:Nat}{P1:Pl}{E1 E0:List Ent}{ps qs:List Addr}{Fs:List (List Ent)}{Qs:List Pl}{U:Par}{KK X kF:Nat}{v:V}{da:PyData}{Q:VK}{Y:XK}
theorem AnsO.same(h:AnsO K H mo ad P1 Qs v da)(s:Same H H'):AnsO K H' mo ad P1 Qs v da:=by
 cases h with
 | great h=>exact .great h
 | sum h q t=>exact .sum h (q.same s) t
theorem AnsO.dec(h:AnsO K H mo ad P1 Qs v da):DecV H v da/\DataOk da:=by
 cases h with
 | great h=>exact{.str _,great_ok}
 | sum h q t=>exact{SumQ.dec q,sum_ok _ _}
theorem FY(h:PutH K H p1 oa mo ad P1 qs Qs U)(go:∀(v:V) (da:PyData) (H':Hp),Same H H'->AnsO K H' mo ad P1 Qs v da->Q v H'):wB K [.ref p1,.ref oa] H Q Y:=by
 refine{p1,oa,mo,ad,P1,qs,Qs,U,rfl,h, ?_};by_cases g:Grt P1 Qs
 .exact .inr {.inl g,λH' s=>go _ _ H' s (.great (.inl g))}
 by_cases c:AH (xE (QT Qs) mo 0 P1)<=500
 .exact .inl {{g,(c)},λp P H' _ s q t=>go _ _ H' s (.sum {g,(c)} q t)}
 .exact .inr {.inr {g,∎},λH' s=>go _ _ H' s (.great (.inr {g,∎}))}
theorem RV(h:Bth K H d1 lo p1 oa mo ad E1 E0 ps qs Fs Qs U KK X kF)(a:AnsO K H mo ad (pl E0) Qs v da)(go:∀(u:V) (H':Hp),Same H H'->DecV H' u da->Q u H'):EZ K [.ref d1,.ref lo,.int ad] H Q Y:=by
 let hg:=h.grt;refine{d1,lo,mo,ad,E1,ps,Fs,U,KK,X,kF,rfl,h.l,λH' s w=>?_,λE' G p H' s ng pG v k q o=>?_}
 .cases a with
  | great h=>exact go _ H' s (.str _)
  | sum ao q t=>
   obtain⟨g,c⟩:=ao;rcases w with w | ⟨w,P,lP,vP,kP,nz⟩
   .exact(g (hg.mpr w)).elim
   .have:=h.cnt g vP kP nz
    ∎
 .have g:¬Grt (pl E0) Qs:=λz=>hg.mp z ng;let nz:∀x∈pl E',x.2≠0:=λx hx=>o.nz x ((yE pG).mem_iff.mpr hx);let cn:=h.cnt g v k nz;let l5:=o.few;rw[(yE pG).length_eq]at l5;cases a with
  | great ao=>
   rcases ao with ao | ⟨_,ao⟩
   .exact(g ao).elim
   .lia
  | sum ao qP t=>
   let b:=k.byt uP ;let e:=pl_uniq t.ok o λns hl hb=>by rw[t.vl ns hl hb,(h.tv g).2,<-v.v,zM b k.nd hl hb,cf_perm (yE pG)]
   exact go _ H' s (by rw[e];exact SumQ.dec q)
end
end LwK
namespace LwD
open PySem PySem.Spec PyProof.Rows L2 Lw
section
variable{X:Cx}{k1 v1 k2 v2:Expr}{tk1 tv1 tk2 tv2:TE}{pos:Pos}
def MK(tk1 tv1 tk2 tv2:TE):TE:=fun O H Q=>∀p,H p=none->tk1 O (upd H p (.dT [])) λx1 H1=>tv1 O H1 λy1 H2=>tk2 O H2 λx2 H3=>tv2 O H3 λy2 H4=>H4 p=some (.dT [])/\∃(b1 b2:Addr) (ks1 ks2:List Key),x1=.ref b1/\x2=.ref b2/\H4 b1=some (.tup (ks1.map kV))/\H4 b2=some (.tup (ks2.map kV))/\ks1≠ks2/\Q (.ref p) (upd H4 p (.dT [(ks1,y1),(ks2,y2)]))
theorem WY(hu:X.A.units<cLine)(hk1:PE X k1 tk1)(hv1:PE X v1 tv1)(hk2:PE X k2 tk2)(hv2:PE X v2 tv2):PE X (.Dict [some k1,some k2] [v1,v2] pos) (MK tk1 tv1 tk2 tv2):=by
 intro ae s O H Q I q;let hn:=I.hok.fresh (tE s.heap.objs.size);let I1:=I.laid (a:=s.heap.objs.size) (o:=.dT []) (h':=s.heap.push { cls:=.type "dict",data:=.dict #[] }) (t':=s.toks) (λ_ _ q=>gC _ q) uP (EG s.heap I.big);refine wpAny_Dict_any rfl rfl #[14] #[14] (pairTrees_cons_walk (thn (hk1 ae _ O _ _ I1 (q _ hn)) λu1 s1 ⟨x1,H1,I2,r1,q1⟩=>thn (hv1 ae s1 O H1 _ I2 q1) λw1 s2 ⟨y1,H2,I3,ry1,q2⟩=>pairTrees_cons_walk (thn (hk2 ae s2 O H2 _ I3 q2) λu2 s3 ⟨x2,H3,I4,r2,q3⟩=>thn (hv2 ae s3 O H3 _ I4 q3) λw2 s4 ⟨y2,H4,I5,ry2,e,b1,b2,ks1,ks2,ex1,ex2,e1,e2,ne,q4⟩=>pairTrees_nil_walk ?_)));subst ex1 ex2;cases r1;cases r2;unfold storeAll;rw[List.forIn_cons];obtain⟨z,hd,xs,rel,dd⟩:=RW I5.hok e;cases rel;let n2:=KD e2 e #[27];refine tK (tK (wpAny_dictSet_heap (hsz:=by decide) (knd:=tkd X.prog X.w) hu (yI I5.hok e1) dd λh' dd' hs=>tL ?_));dsimp only;rw[List.forIn_cons];let ky2:(tkd X.prog X.w).is h' ks2 b2:=by
  obtain⟨q,its,n,g3,g4⟩:=yI I5.hok e2;exact{q,its,n,(hs.2 _ n2).trans g3,g4}
 refine tK (tK (wpAny_dictSet_heap (hsz:=nQ (CT ..) #[0]) (knd:=tkd X.prog X.w) hu ky2 dd' λh2 dd2 hs2=>tL ?_));dsimp only;rw[List.forIn_nil];refine tL {.ref s.heap.objs.size,_, ?_,rfl,q4};let pn:storedH (storedH [] ks1 b1 w1) ks2 b2 w2=[(ks1,b1,w1),(ks2,b2,w2)]:=DE [(ks1,b1,w1),(ks2,b2,w2)] [] (by simpa using ne);rw[pn]at dd2;obtain⟨o,es,ep,hq,h2',h3,h4,_,h5⟩:=dd2;refine yG I5 #[69] {hs2.1.trans hs.1,λb hb=>(hs2.2 b hb).trans (hs.2 b hb)} {o,(hq)} {show 2<=sizeLine by decide,hd,_, ?_,o,es,ep,hq,h2',h3,h4,h5};refine .cons {rfl, ?_,ry1} (.cons {rfl, ?_,ry2} .nil)
 .rw[jG (KD e1 e #[27])];exact e1
 .rw[jG n2];exact e2
end
end LwD
namespace LwK
open PySem PySem.Spec PyProof.Rows L2 LwQ LwV Lw
def gS(M:Nat->Nat):Nat->Nat->Nat
 | 0,_=>0
 | n+1,l=>gS M n (l+1)+M l
theorem gN_eq(U:Par):∀n l,gN U n l=U.N+gS U.M n l*(U.s+1)+n
 | 0,_=>by show U.N=U.N+0*_+0;∎
 | n+1,l=>by
  show gN U n (l+1)+U.M l*(U.s+1)+1=U.N+(gS U.M n (l+1)+U.M l)*(U.s+1)+(n+1);rw[gN_eq U n,Nat.add_mul]
  ∎
theorem gE_eq(U:Par):∀n l,gE U n l=U.b+U.r*gS U.M n l
 | 0,_=>rfl
 | n+1,l=>by
  show gE U n (l+1)+U.r*U.M l=U.b+U.r*(gS U.M n (l+1)+U.M l);rw[gE_eq U n,Nat.mul_add]
  ∎
def mF(P:Pl)(j:Nat):Nat:=(P.map λx=>(x.1.getD j 0).toNat).sum
theorem XX:∀{l:List Nat} {n:Nat},n∈l->n<=l.sum
 | a::r,n,h=>by
  rw[nM];rcases nI.mp h with rfl | h
  .exact Nat.le_add_right ..
  .exact nQ (XX h) (Nat.le_add_left ..)
theorem ZI(M N:Nat->Nat):∀n l,gS (λj=>M j+N j) n l=gS M n l+gS N n l
 | 0,_=>rfl
 | n+1,l=>by
  show gS _ n (l+1)+(M l+N l)=gS M n (l+1)+M l+(gS N n (l+1)+N l);rw[ZI M N n]
  ∎
theorem ZH{ns:List Int}(nn:∀n∈ns,0<=n):∀n l,l+n=ns.length->(gS (λj=>(ns.getD j 0).toNat) n l:Int)=(ns.drop l).sum
 | 0,l,h=>by rw[gF ∎];rfl
 | n+1,l,h=>by
  let d:=AD (show l<ns.length by ∎) nn;let ih:=ZH nn n (l+1) ∎;show((gS _ n (l+1)+(ns.getD l 0).toNat:Nat):Int)=_
  ∎
theorem gS_le{L X:Nat} :∀{P:Pl},(∀x∈P,x.1.length=L)->(∀x∈P,∀n∈x.1,0<=n)->(∀x∈P,x.1.sum<=X)->gS (mF P) L 0<=P.length*X
 | [],_,_,_=>by
  let:∀n l,gS (mF []) n l=0:=λn=>by
   induction n with
   | zero=>exact λ_=>rfl
   | succ n ih=>intro l;show gS _ n (l+1)+0=0;rw[ih]
  rw[this];exact tF _
 | x::P,h1,h2,h3=>by
  let ih:=gS_le (X:=X) (P:=P) (λy hy=>h1 y (gM _ hy)) (λy hy=>h2 y (gM _ hy)) (λy hy=>h3 y (gM _ hy));let o:=ZH (h2 x (hU ..)) L 0 (by rw[h1 x (hU ..)];∎);let s:=h3 x (hU ..);rw[List.drop_zero]at o;let e:gS (mF (x::P)) L 0=gS (λj=>(x.1.getD j 0).toNat) L 0+gS (mF P) L 0:=ZI _ _ L 0;rw[e,mN,Nat.succ_mul]
  ∎
structure OthQ(H:Hp)(ad kF KK r s:Nat)(a:Addr)(F:List Ent):Prop where
 f:FQ H a ad 16 F
 kb:KB (λ_=>kF) F
 l5:F.length<=2^5
 lk:F.length*(KK+kF+1)<=7900
 cm:∃(C:Int) (n c:Nat),0<C/\C.natAbs<=2^r/\n+c<=s/\F.length<=2^c/\∀x∈pl F,Ov C n x.2
theorem OthQ.kp{ad kF KK r s:Nat}(h:OthQ H ad kF KK r s a F)(k:Kp H H'):OthQ H' ad kF KK r s a F:={h.f.kp k,h.kb,h.l5,h.lk,h.cm}
structure OneQ(H:Hp)(d1:Addr)(mo b N X KK:Nat)(E1:List Ent):Prop where
 f:FQ H d1 mo 16 E1
 kb:KB (λ_=>KK) E1
 cm:∃C:Int,0<C/\C.natAbs<=2^b/\∀x∈pl E1,Ov C N x.2
 sX:∀x∈pl E1,x.1.sum<=X
structure NumB(mo b N X KK kF r s l:Nat):Prop where
 rs:r<=s+1
 r4:r<1400
 s4:s<2400
 n:N+l*X*(s+1)+mo<=KK
 e:b+r*(l*X)<1400
 x1:N+(s+1)*X<=KK
 x2:b+r*X<=KK
 kk:KK+kF<=3900
 k4:KK<2400
 e2:b+r*(l*X)<=KK
section
variable{K:tP}{H:Hp}{d1 lo p1 oa:Addr}{mo ad b N X KK kF r s l:Nat}{E1 E0:List Ent}{ps qs:List Addr}{Fs:List (List Ent)}{Qs:List Pl}
theorem XW(h1:OneQ H d1 mo b N X KK E1)(le:E1.length<=l)(l6:l<=60)(h2:Paired (OthQ H ad kF KK r s) ps Fs)(nb:NumB mo b N X KK kF r s l)(eo:H lo=some (.lst (ps.map V.ref)))(lp:ps.length=mo)(m1:1<=ad)(m4:ad<=4)(o4:mo<=4)
  (pE:E0.Perm E1) (q1:SumQ K H p1 mo (pl E0)) (ok:PlOk mo (pl E0)) (eq:H oa=some (.lst (qs.map V.ref))) (hq:Paired (λa Q=>SumQ K H a ad Q) qs Qs) (hs:Paired Srt Fs Qs) (oq:∀Q∈Qs,PlOk ad Q):∃U,Bth K H d1 lo p1 oa mo ad E1 E0 ps qs Fs Qs U KK X kF:=by
 obtain⟨C1,c1,c2,c3⟩:=h1.cm;let D0:∀j:Nat,∃C:Int,0<C/\C.natAbs<=2^r/\∀F,Fs[j]? = some F->∃n c,n+c<=s/\F.length<=2^c/\∀x∈pl F,Ov C n x.2:=λj=>by
  cases hj:Fs[j]? with
  | none=>exact{1,by decide,Nat.one_le_two_pow,λF h=>nomatch h}
  | some F=>
   let hl:j<Fs.length:=(uW.mp hj).1;let hp:ps[j]? = some (ps[j]'(by rw[Paired.length h2];exact hl)):=uY _;obtain⟨F',hF,q⟩:=Paired.at h2 hp;obtain rfl:F=F':=Option.some.inj (hj.symm.trans hF);obtain⟨C,n,c,a1,a2,a3,a4,a5⟩:=q.cm;exact{C,a1,a2,λG hG=>by cases hG;exact{n,c,a3,a4,(a5)}}
 obtain⟨D,hD⟩:=Classical.axiomOfChoice D0;let pk':=h1.f.db.plk;let gs:gS (mF (pl E1)) mo 0<=l*X:=nQ (gS_le pk'.len pk'.nn h1.sX) (gR _ (by rw[AQ];exact le));let pok:ParOk ⟨C1,D,mF (pl E1),N,b,s,r⟩:={c1,λj=>(hD j).1,c2,λj=>(hD j).2.1,nb.rs,nb.r4,nb.s4};let g1:gN ⟨C1,D,mF (pl E1),N,b,s,r⟩ mo 0<=KK:=by
  rw[gN_eq];exact nQ (Nat.add_le_add_right (Nat.add_le_add_left (gR _ gs) _) _) nb.n
 let g2:gE ⟨C1,D,mF (pl E1),N,b,s,r⟩ mo 0<=b+r*(l*X):=by
  rw[gE_eq];exact Nat.add_le_add_left (gW _ gs) _
 let pm:∀x∈pl E1,∀j,(x.1.getD j 0).toNat<=mF (pl E1) j:=λx hx j=>XX (List.mem_map_of_mem (f:=λx:List Int×Rat=>(x.1.getD j 0).toNat) hx);let mem0:∀{x:List Int×Rat},x∈pl E0->x∈pl E1:=λhx=>(yE pE).mem_iff.mp hx;refine⟨{C1,D,mF (pl E1),N,b,s,r},{h1.f,h1.kb,c3,pm,h1.sX,eo,Paired.to (λ_ _ q=>{q.f,q.kb,(q.lk)}) h2,lp,λj F hF=>?_,pok,m1,m4,o4,nQ g2 nb.e2,g1,nb.x1,nb.x2,nb.kk},
  {q1,ok,λx hx=>c3 x (mem0 hx),λx hx=>pm x (mem0 hx),by rw[AQ,pE.length_eq];∎,eq,hq,by rw[Paired.length hq,<-Paired.length hs,<-Paired.length h2];exact lp,λj Q hQ=>?_,pok,gX g2 nb.e,gX g1 nb.k4},hs,pE⟩
 .have hl:j<Fs.length:=(uW.mp hF).1;let hp:ps[j]? = some (ps[j]'(by rw[Paired.length h2];exact hl)):=uY _;obtain⟨F',hF',q⟩:=Paired.at h2 hp;obtain rfl:F=F':=Option.some.inj (hF.symm.trans hF');exact{q.l5,(hD j).2.2 F hF}
 .have hl:j<Qs.length:=(uW.mp hQ).1;obtain⟨G,hf⟩:∃G,Fs[j]? = some G:={_,uY (by rw[Paired.length hs];exact hl)};obtain⟨Q',hQ',sr⟩:=Paired.at hs hf;obtain rfl:Q=Q':=Option.some.inj (hQ.symm.trans hQ');let sr:(pl G).Perm Q:=sr;let hp:ps[j]? = some (ps[j]'(by rw[Paired.length h2,Paired.length hs];exact hl)):=uY _;obtain⟨F',hF',q⟩:=Paired.at h2 hp;obtain rfl:G=F':=Option.some.inj (hf.symm.trans hF');obtain⟨n,c,a1,a2,a3⟩:=(hD j).2.2 _ hf;let lQ:Q.length=G.length:=by rw[<-sr.length_eq,AQ]
  exact{oq Q (gL hQ),by rw[lQ];exact q.l5,n,c,a1,by rw[lQ];exact a2,λx hx=>a3 x (sr.mem_iff.mpr hx)}
end
theorem SumQ.kp{K:tP}{H H':Hp}{p:Addr}{ad:Nat}{P:Pl}(h:SumQ K H p ad P)(k:Kp H H'):SumQ K H' p ad P:=by
 obtain⟨q,xs,e1,e2,e3⟩:=h.ex;exact{q,xs,k.tup _ _ e1,k.tup _ _ e2,Paired.to (λ_ _ ⟨r,b,c,a1,a2,a3,pz,a4,a5⟩=>{r,b,c,a1,k.tup _ _ a2,k.tup _ _ a3,pz,a4,k.tup _ _ a5}) e3}
structure HdI(K:tP)(H1:Hp)(q:Addr)(ad:Nat)(Fs:List (List Ent))(i:Nat)(ys:List V)(H2:Hp):Prop where
 s:Same H1 H2
 e:H2 q=some (.lst ys)
 x:∃(qs:List Addr) (Qs:List Pl),ys=qs.map V.ref/\Paired (λa Q=>SumQ K H2 a ad Q) qs Qs/\Paired Srt (Fs.take i) Qs/\∀Q∈Qs,PlOk ad Q
theorem HdI.put{K:tP}{H1 H2 H3:Hp}{q p:Addr}{ad i:Nat}{Fs:List (List Ent)}{ys:List V}{F E0:List Ent}(h:HdI K H1 q ad Fs i ys H2)(n:H1 q=none)(hF:Fs[i]? = some F)(s:Same H2 H3)(pE:E0.Perm F)(sq:SumQ K H3 p ad (pl E0))(ok:PlOk ad (pl E0)):HdI K H1 q ad Fs (i+1) (ys++[.ref p]) (upd H3 q (.lst (ys++[.ref p]))):=by
 obtain⟨s2,e,qs,Qs,rfl,a1,a2,a3⟩:=h;let ku:Kp H3 (upd H3 q (.lst (qs.map V.ref++[.ref p]))):=Kp.upd (s _ _ e) trivial;refine{jV (s2.trans s) n,jE,qs++[p],Qs++[pl E0],by rw[mT];rfl, ?_, ?_,λQ hQ=>?_}
 .exact Paired.app (Paired.to (λ_ _ h=>SumQ.kp (h.same s) ku) a1) (.cons (SumQ.kp sq ku) .nil)
 .rw[mD,hF];exact Paired.app a2 (.cons (yE pE).symm .nil)
 .rcases mV.mp hQ with hQ | hQ
  .exact a3 Q hQ
  .rw[hJ.mp hQ];exact ok
structure Bx(p:Prop):Prop where
 h:p
def nostar:Expr->Bool
 | .Starred .. =>false
 | _=>true
theorem JZ(h:nostar e=true):starEach (e::es) env=(false,eval e env)::starEach es env:=by
 cases e<;>first | rfl | cases h
section
variable{X:Cx}{e:Expr}{es:List Expr}{te:TE}{t:TA}{p pos:Pos}
theorem vU{i:Int}{j:Nat} :Bx (PE X (.Constant (.int i) j pos) (tC (.int i))):={(jB)}
theorem bx_neg{i:Int}{j:Nat} :Bx (PE X (.UnaryOp .USub (.Constant (.int i) j p) pos) (tUn (rU λi=>.int (-i)) (tC (.int i)))):={PN GE jB}
theorem AZ:Bx (PA X [] tNil):={(jD)}
theorem vH(h1:Bx (PE X e te))(h2:Bx (PA X es t))(hs:nostar e=true):Bx (PA X (e::es) (vY te t)):={jA h1.h h2.h (JZ hs)}
theorem AY{x1}(h:Bx (PA X es t)):Bx (PE X (.Tuple es x1 pos) (tTupF t)):={kN h.h}
theorem bx_dict2(hu:X.A.units<cLine)(h1:Bx (PE X k1 tk1))(h2:Bx (PE X v1 tv1))(h3:Bx (PE X k2 tk2))(h4:Bx (PE X v2 tv2)):Bx (PE X (.Dict [some k1,some k2] [v1,v2] pos) (LwD.VU (LwD.MK tk1 tv1 tk2 tv2))):={LwD.xG (LwD.WY hu h1.h h2.h h3.h h4.h)}
theorem AJ{st:Stmt}{rest:List Stmt}{t u:TS}(h1:Bx (PS X st t))(h2:Bx (PSs X rest u)):Bx (PSs X (st::rest) (vB t u)):={jC h1.h h2.h}
theorem bx_ex{R:TS->Prop}(h:∃t,Bx (PSs X l t)/\R t):∃t,PSs X l t/\R t:=by
 obtain⟨t,h,r⟩:=h;exact{t,h.h,(r)}
theorem bx_one{st:Stmt}{t:TS}(h:Bx (PS X st t)):Bx (PSs X [st] t):={jF h.h}
theorem bx_if(hc:PT X c tc)(ha:Bx (PSs X a ta))(hb:Bx (PSs X b tb)):Bx (PS X (.If c a b pos) (tIfS tc ta tb)):={qJ hc ha.h hb.h}
theorem bx_dict1(hu:X.A.units<cLine)(h1:Bx (PE X k1 tk1))(h2:Bx (PE X v1 tv1)):Bx (PE X (.Dict [some k1] [v1] pos) (LwD.VU (LwD.ML tk1 tv1))):={LwD.xG (LwD.JT hu h1.h h2.h)}
theorem SG{i:Nat}(hN:X.N.Nodup)(hi:X.N[i]? = some x)(hx:Loc X.env.scope x)(he:Bx (PE X (.Dict ks vs p) te))(hf:X.env.scope.names.lookup x=some .local):Bx (PS X (.Assign [.Name x pos'] (.Dict ks vs p) pos) (xS te (jP i))):={jM hN hi hx he.h rfl (.inr hf)}
theorem bx_two(hu:X.A.units<cLine)(hN:X.N.Nodup)(hi:X.N[2]? = some ("one" :Str))(hx:Loc X.env.scope ("one" :Str))(hf:X.env.scope.names.lookup ("one" :Str)=some NameKind.local)(h1:Bx (PE X k1 tk1))(h2:Bx (PE X v1 tv1))(h3:Bx (PE X k2 tk2))(h4:Bx (PE X v2 tv2)):Bx (PS X (.Assign [.Name ("one" :Str) a] (.Dict [some k1,some k2] [v1,v2] b) c) (xS (LwD.VU (LwD.MK tk1 tv1 tk2 tv2)) (jP 2))):=SG hN hi hx (bx_dict2 hu h1 h2 h3 h4) hf
theorem bx_one'(hu:X.A.units<cLine)(hN:X.N.Nodup)(hi:X.N[2]? = some ("one" :Str))(hx:Loc X.env.scope ("one" :Str))(hf:X.env.scope.names.lookup ("one" :Str)=some NameKind.local)(h1:Bx (PE X k1 tk1))(h2:Bx (PE X v1 tv1)):Bx (PS X (.Assign [.Name ("one" :Str) a] (.Dict [some k1] [v1] b) c) (xS (LwD.VU (LwD.ML tk1 tv1)) (jP 2))):=SG hN hi hx (bx_dict1 hu h1 h2) hf
end
def spGreat:Sp:=λvs H Q _=>∃(tp:Addr) (B:Int),vs=[.ref tp]/\∃cl,Tape cl H tp B/\B<2^31/\∀H',But tp H H'->Q (.bl true) H'
inductive GtI(H0:Hp)(tp:Addr):L2.St->Hp->Prop where
 | mk {u:Option V} {H:Hp} {lo d1:Addr} {mo:Nat} {ps:List Addr} {Fs:List (List Ent)} {E1:List Ent} (b:But tp H0 H) (eo:H lo=some (.lst (ps.map V.ref))) (h2:Paired (OthQ H 4 5 60 3 13) ps Fs) (h1:OneQ H d1 mo 0 0 2 60 E1) (le:E1.length<=2) (lp:ps.length=mo) (m1:1<=mo) (m4:mo<=4):GtI H0 tp [some (.ref tp),some (.ref lo),some (.ref d1),u] H
theorem HX{ns:List Int}{t:Int}{mo:Nat}(e:At2 H c t 1)(h:t=1∨t = -1)(l:ns.length=mo)(nn:∀n∈ns,0<=n)(s:ns.sum<=2):EntOk H mo 16 {ns,c,t,1,(1)}/\Ov 1 0 ((t:Rat)/((1:Int):Rat)):=by
 refine{{l,nn,by show ns.sum<=((16:Nat):Int);∎,e,(by show(0:Int)<1;decide), ?_,(by show(1:Int).natAbs<=2^1;decide), ?_},{t,rfl, ?_}}
 .show t≠0
  ∎
 .show t.natAbs<=2^1;rcases h with rfl | rfl<;>decide
 .show t.natAbs<=2^0;rcases h with rfl | rfl<;>decide
theorem KW{F:List Ent}{n:Nat}(f:FQ H p 4 8 F)(kb:KB (λ_=>5) F)(l:F.length<=n)(hn:n<=25)(ov:∀x∈pl F,Ov 6 8 x.2):OthQ H 4 5 60 3 13 p F:=
 {f.up #[0],kb,by show F.length<=32;∎,∎,6,8,5,by decide,by decide,by decide,by show F.length<=32;∎,ov}
theorem YZ:∀mo,mo<=4->NumB mo 0 0 2 60 5 3 13 2:=λmo h=>{by decide,by decide,by decide,∎,by decide,by decide,by decide,by decide,by decide,by decide}
variable{P:Program}{w:World}{K:tP}{mg:Str->Option Value}{base:Heap}{f fd:_}
theorem scGreat:FnScope ["tape","others","one","handed"] ["tape"] (jI HK):=scK #[2]
theorem ok_great(F:Fun K "_law_great_right" "_law_great_right" HK f fd)(T:Txt mg)(GW:DG P w K mg base 1 "_law_draw" CY ["tape","many"] spDraw)
 (GG:DG P w K mg base 1 "_law_grid" OX ["first","second","many"] spGrid) (GS:DG P w K mg base 2 "_law_sum" FA ["many","one"] (GN K))
 (GQ:DG P w K mg base 12 "_law_asked" CZ ["one","others"] (wB K)) (GD:DG P w K mg base 5 "_law_due" WH ["one","others","many"] (EZ K)):FnOk P w K mg base CX0 13 f fd ["tape"] spGreat:=by
 refine F.ok scGreat #[9] #[4]
 .obtain⟨tp,B,rfl,_⟩:=h
  rfl
 .obtain⟨tp,B,rfl,cl,hT,hB,go⟩:=h;let hr1:Room 1 _:=hr.mono #[0];let hr2:Room 2 _:=hr.mono #[0];let hr5:Room 5 _:=hr.mono #[0];let hu0:_<cLine:=gX (Nat.add_le_add_left (by decide:0<=64) _) hr.units;let hu64:_+64<cLine:=hr.units;refine bx_ex {_,AJ (.mk (jM (i:=1) scGreat.nd rfl #[5] (vN (jA (LwD.xG (cal GG hr1 (jA jB (jA jB #[73])))) (jA (LwD.xG (cal GG hr1 (jA jB (jA jB (jA (jJ qA jB (cal GW hr1 (jA (pv 0) #[73]))) jD))))) jD))))) (AJ (bx_one' hu0 scGreat.nd rfl #[5] rfl (AY (vH vU (vH vU AZ rfl) rfl)) (AY (vH vU (vH vU AZ rfl) rfl))) (AJ (bx_if (jX BC (cal GW hr1 (jA (pv 0) #[73])) jB (kM _)) (AJ (.mk (jM (i:=1) scGreat.nd rfl #[5] (jJ PY (pv 1) (pv 1)))) (bx_one (bx_two hu0 scGreat.nd rfl #[5] rfl (AY (vH vU (vH vU (vH vU (vH vU AZ rfl) rfl) rfl) rfl)) (AY (vH vU (vH vU AZ rfl) rfl)) (AY (vH vU (vH vU (vH vU (vH vU AZ rfl) rfl) rfl) rfl)) (AY (vH bx_neg (vH vU AZ rfl) rfl))))) (.mk jY)) (AJ (.mk (xU (i:=3) scGreat.nd rfl #[5] (own:=1) (idx:=[]) (N:=["other"]) rfl rfl rfl #[2] #[2] #[72] (vG rfl) rfl #[55] (yF (pv 1)) (λC fp s2 H2=>(jH (i:=0) (show List.Nodup (["other"]:List Str) by decide +kernel) rfl #[5] #[38])) (λC fp s2 H2=>cal GS hr2 (jA jB (jA (pv 0) jD))))) (bx_one (.mk (jR (PU (op_eqD hu64) (cal GQ hr (jA (cal GS hr2 (jA (kL qR (by rfl) T.len PySem.boot_len #[74]) (jA (pv 2) jD))) (jA (pv 3) jD))) (cal GD hr5 (jA (pv 2) (jA (pv 1) #[73]))) (kM _)))))))), ?_}
  try dsimp only[cxK]
  refine{0,2,25,rfl,by decide,by decide,by decide,by decide,λg1 F1 H1 n1 s1 e1 db1 kb1 l1 ov1=>{g1,_,rfl,e1,λo1=>?_}};obtain⟨s2,f2⟩:=ER n1 s1 e1 db1 o1;generalize upd H1 g1 _=H2 at s2 f2;let T2:=hT.mono s2 uQ ;refine{_,rfl,tp,4,B,rfl,cl,T2,∎,by decide,by decide,λc H3 c0 c1 T3 b3=>{_,_,rfl,rfl, ?_}};let q1:20+c=((20+c.toNat:Nat):Int):=∎
  refine{1,3,20+c.toNat,by show [V.int 1,V.int 3,V.int (20+c)]=_;rw[q1];rfl,by decide,by decide,by decide,∎,λg2 F2 H4 n4 s4 e4 db4 kb4 l4 ov4=>{g2,_,rfl,e4,λo4=>?_}};obtain⟨s5,f5⟩:=ER n4 s4 e4 db4 o4;generalize upd H4 g2 _=H5 at s5 f5;refine{uR,λlo H6 n6 s6 e6=>?_};let f2:=(f2.kp (Kp.butT b3 T2)).kp (Kp.of (s5.trans s6));let f5:=f5.kp (Kp.of s6);let G1:=KW f2 kb1 l1 #[0] ov1;let G2:=KW f5 kb4 l4 ∎ ov4;let B6:But tp H H6:=(But.of s2).trans (b3.trans (But.of (s5.trans s6)));let T6:=T3.mono (s5.trans s6) uQ ;clear f2 f5;dsimp only[jP];intro pd npd;let sa:Same H6 (upd H6 pd (.dT [])):=jO _ npd;refine{uR,λb0 H7 n7 s7 e7=>{uR,λc0' H8 n8 s8 e8=>?_}};let s78:=s7.trans s8;let s68:=sa.trans s78;refine{s78 _ _ jE,b0,LwD.ik [1,1],rfl,by rw[LwD.xM];exact s8 _ _ e7,pd,([{[1,1],c0',1,1,1}]:List Ent).map Ent.kv,rfl,jE,λod=>?_};let oe:=fun {H':Hp} (k:Kp H8 H')=>HX (mo:=2) (c:=c0') (ns:=[1,1]) (t:=1) (k.tup _ _ e8) (.inl rfl) rfl #[0] #[0];let k8:∀x,Kp H8 (upd H8 pd x):=λx=>Kp.upd (s78 _ _ jE) trivial;obtain⟨s9,f9⟩:=ER (H':=upd H8 pd (.dT [(LwD.ik [1,1],.ref c0')])) (E:=[{[1,1],c0',1,1,1}]) (ad:=2) (D:=16) npd (jV s68 npd) jE {by simp,λx hx=>by rw[hJ.mp hx];exact(oe (k8 _)).1} od;generalize upd (upd H8 pd (.dT [(LwD.ik [1,1],V.ref c0')])) pd _=H9 at s9 f9;let O9:OneQ H9 pd 2 0 0 2 60 [⟨[1,1],c0',1,1,1⟩]:={f9,λx hx=>by rw[hJ.mp hx];show 1<=60;decide,{1,by decide,by decide,λx hx=>by rw[show x=_ from hJ.mp hx];exact(oe (Kp.of #[43])).2},λx hx=>by rw[show x=_ from hJ.mp hx];show(2:Int)<=2;decide}
  let G19:=G1.kp (Kp.of s9);let G29:=G2.kp (Kp.of s9);let B9:=B6.trans (But.of s9);let T9:=T6.mono s9 uQ ;let e9:=s9 _ _ e6;dsimp only[jP];refine WD (t:=tIfS _ _ _) (GtI H tp) (fun σ HA h=>?_) (λgo2=>?_)
  .obtain⟨bA,eo,h2,h1,le,lp,mo1,mo4⟩:=h;rename_i lo d1 mo ps Fs E1;refine{_,rfl,lo,rfl,{_,SqL.of eo},λl1 HB nB sB eB=>?_};refine xY (K:=K) (a:=lo) (xs:=ps.map V.ref) (HdI K HA l1 4 Fs) (by rw[mS,lp,sizeLine_eq];∎) {sB,eB,[],[],rfl,.nil,.nil,λQ h=>nomatch h} (λi ys HC h=>{SqL.of (h.s _ _ eo),h.e}) ?_ ?_
   .rintro i m ys x HC hx hm hy h;let hx':=hx;rw[mB]at hx';obtain⟨a,ha,rfl⟩:=Option.map_eq_some_iff.mp hx';obtain⟨F,hF,q⟩:=Paired.at h2 ha;let q:=q.kp (Kp.of h.s);let lF:F.length<=32:=q.l5;refine{uL,_,rfl,a,4,16,F,rfl,q.f.rd,q.f.db,by decide,by decide,∎,q.kb.up λ_=>by decide,by decide,λp E0 HD nD sD pE sq ok=>?_};exact qM hx hm hy (sD _ _ h.e) (h.put nB hF sD pE sq ok)
   .rintro ys HC hl ⟨sC,eC,qs,Qs,rfl,hq,hs,oq⟩;rw[mS,gD (by rw[<-Paired.length h2];exact tE _)]at hs;dsimp only[jP];let O1:OneQ HC d1 mo 0 0 2 60 E1:={h1.f.kp (Kp.of sC),h1.kb,h1.cm,h1.sX};refine{_,rfl,lo,_,rfl,.inl (SqL.of (sC _ _ eo)),_,rfl,d1,mo,16,E1,by rw[mS,lp];rfl,O1.f.rd,O1.f.db,mo1,mo4,∎,O1.kb.up λ_=>by decide,by decide,λp1 E0 HD nD sD pE sq ok=>?_};refine{_,rfl, ?_};let h2D:=Paired.to (λ_ _ q=>OthQ.kp q (Kp.of (sC.trans sD))) h2;obtain⟨U,bt⟩:=XW (K:=K) (H:=HD) (lo:=lo) (oa:=l1) {O1.f.kp (Kp.of sD),O1.kb,O1.cm,O1.sX} le #[0] h2D (YZ mo mo4) ((sC.trans sD) _ _ eo) lp #[0] #[0] mo4 pE sq ok (sD _ _ eC) (Paired.to (λ_ _ q=>q.same sD) hq) hs oq;dsimp only[tNil];show wB K [.ref p1,.ref l1] HD _ _;refine FY bt.p λv da HE sE a=>?_;refine{_,rfl,_,rfl, ?_};dsimp only[vY,tC,tNil];show EZ K [.ref d1,.ref lo,.int (4:Nat)] HE _ _;refine RV (bt.same sE) a λu HG sG du=>?_;let aG:=(a.same sG).dec;refine{da,da,aG.1,du,aG.2,aG.2, ?_};rw[SeqAt.eqv_refl _ aG.2.1];exact go HG (bA.trans (But.of (sC.trans (sD.trans (sE.trans sG)))))
  refine{_,rfl,tp,2,_,rfl,cl,T9,∎,by decide,by decide,λr HA r0 r1 TA bA=>{rfl,_,rfl, ?_}};let kA:=Kp.butT bA T9;let BA:=B9.trans bA;let G1A:=G19.kp kA;let G2A:=G29.kp kA;let lne:lo≠tp:=((T3.mono s5 uQ).off n6).1;let eA:=bA _ _ e9 lne;refine wH (λ_=>?_) (λ_=>?_)
  .refine{_,rfl,_,rfl,lo,lo,[.ref g1,.ref g2],[.ref g1,.ref g2],rfl,rfl,eA,eA,uS,λlo2 HB nB sB eB=>?_};dsimp only[jP];intro pe npe;let sc:Same HB (upd HB pe (.dT [])):=jO _ npe;refine{uS,λb1 HC nC sC eC=>{uR,λc1 HD nD sD eD=>{uS,λb2 HE nE sE eE=>{_,rfl,uR,λc2 HF nF sF eF=>?_}}}};let sDF:=sE.trans sF;let sCF:=sD.trans sDF;let sBF:=sC.trans sCF;refine{sBF _ _ jE,b1,b2,LwD.ik [1,1,0,0],LwD.ik [0,0,1,1],rfl,rfl,by rw[LwD.xM];exact sCF _ _ eC,by rw[LwD.xM];exact sF _ _ eE,by decide +kernel,pe,([{[1,1,0,0],c1,1,1,1},{[0,0,1,1],c2,-1,1,1}]:List Ent).map Ent.kv,rfl,jE,λoe=>?_};let o1:=fun {H':Hp} (k:Kp HF H')=>HX (mo:=4) (c:=c1) (ns:=[1,1,0,0]) (t:=1) (k.tup _ _ (sDF _ _ eD)) (.inl rfl) rfl #[0] #[0];let o2:=fun {H':Hp} (k:Kp HF H')=>HX (mo:=4) (c:=c2) (ns:=[0,0,1,1]) (t:=-1) (k.tup _ _ eF) (.inr rfl) rfl #[0] #[0];let kF:∀x,Kp HF (upd HF pe x):=λx=>Kp.upd (sBF _ _ jE) trivial;let two:∀{q:Ent->Prop},q ⟨[1,1,0,0],c1,1,1,1⟩->q ⟨[0,0,1,1],c2,-1,1,1⟩->∀x∈([⟨[1,1,0,0],c1,1,1,1⟩,⟨[0,0,1,1],c2,-1,1,1⟩]:List Ent),q x:=fun {q} h1 h2 x hx=>by
    rcases nI.mp hx with rfl | hx
    .exact h1
    .rw[hJ.mp hx];exact h2
   let twp:∀{q:List Int×Rat->Prop},q (⟨[1,1,0,0],c1,1,1,1⟩:Ent).pr->q (⟨[0,0,1,1],c2,-1,1,1⟩:Ent).pr->∀x∈pl ([⟨[1,1,0,0],c1,1,1,1⟩,⟨[0,0,1,1],c2,-1,1,1⟩]:List Ent),q x:=fun {q} h1 h2 x hx=>by
    obtain⟨y,hy,rfl⟩:=nT.mp hx;exact two (q:=λy=>q y.pr) h1 h2 y hy
   obtain⟨sG,fG⟩:=ER (H':=upd HF pe (.dT [(LwD.ik [1,1,0,0],.ref c1),(LwD.ik [0,0,1,1],.ref c2)])) (E:=[{[1,1,0,0],c1,1,1,1},{[0,0,1,1],c2,-1,1,1}]) (ad:=4) (D:=16) npe (jV (sc.trans sBF) npe) jE {by simp,two (o1 (kF _)).1 (o2 (kF _)).1} oe;generalize upd (upd HF pe (.dT [(LwD.ik [1,1,0,0],V.ref c1),(LwD.ik [0,0,1,1],V.ref c2)])) pe _=HG at sG fG;let kG:=Kp.of (sB.trans sG);let G1G:=G1A.kp kG;let G2G:=G2A.kp kG;refine go2 _ _ (.mk (ps:=[g1,g2,g1,g2]) (BA.trans (But.of (sB.trans sG))) (sG _ _ eB) (.cons G1G (.cons G2G (.cons G1G (.cons G2G .nil)))) {fG,two (by show 1<=60;decide) (by show 1<=60;decide),{1,by decide,by decide,twp (o1 (Kp.of #[43])).2 (o2 (Kp.of #[43])).2},twp (by show(2:Int)<=2;decide) (by show(2:Int)<=2;decide)} (tE 2) rfl #[0] #[0])
  .exact go2 _ _ (.mk (ps:=[g1,g2]) BA eA (.cons G1A (.cons G2A .nil)) {O9.f.kp kA,O9.kb,O9.cm,O9.sX} (by show 1<=2;decide) rfl #[0] #[0])
end LwK
namespace Lw
open PySem PySem.Spec PyProof.Rows L2 LwQ LwV
def GC(n:Nat):List V:=(List.range n).map λ(i:Nat)=>V.int (0+(i:Int))
theorem wT(n:Nat):(GC n).length=n:=by simp [GC]
theorem IT{n i:Nat}(h:(GC n)[i]? = some x):x=.int (0+(i:Int))/\i<n:=by
 unfold GC at h;rw[mB]at h;cases e:(List.range n)[i]? with
 | none=>rw[e]at h;cases h
 | some j=>
  rw[e]at h;obtain⟨h1,h2⟩:=uW.mp e;rw[List.getElem_range]at h2;subst h2;rw[List.length_range]at h1;exact{(Option.some.inj h).symm,h1}
theorem LM{n:Nat}(Pv:Nat->List V->Hp->Prop)(hz:n<sizeLine)(h0:Pv 0 [] H')(hl:∀i ys H2,Pv i ys H2->H2 p=some (.lst ys))
  (hs:∀i m ys x H2,(GC n)[i]? = some x->m=(GC n).length-i->ys.length=i->Pv i ys H2->g (.int (0+(i:Int))) O0 H2 fun O4 H4=>Keep O0 O4/\te O4 H4 λy H5=>H5 p=some (.lst ys)/\∃m',m'<m/\CompW (GC n) Pv (i+1) m' (ys++[y]) #[42])
  (hd:∀ys H2,ys.length=n->Pv n ys H2->Q (.ref p) H2):CompGoF O0 (Itr 0 n) g te Q p H':=by
 refine IL (xs:=GC n) Pv (by rw[wT];exact hz) h0 (λi ys H2 _ hi=>?_) (λys H2 _=>by rw[wT];exact tE n) hl (λi m ys x H2 hx hm hy hp=>?_) (λys H2 hy hp=>?_)
 .rw[wT]at hi;refine{hi, ?_};rintro x H3 ⟨rfl,rfl⟩;exact{rfl,by unfold GC;rw[mB,List.getElem?_range hi];rfl}
 .obtain⟨e,_⟩:=IT hx;subst e;exact hs i m ys _ H2 hx hm hy hp
 .rw[wT]at hy hp;exact hd ys H2 hy hp
end Lw
namespace LwK
open PySem PySem.Spec PyProof.Rows L2 LwQ LwV Lw
theorem SU{X:Cx}{scope:Scope}{own j0 j1 j2:Nat}{N:List Str}{x0 x1 x2:Str}(h0:N[own]? = some x0)(h1:N[own+1]? = some x1)(h2:N[own+2]? = some x2)(a:X.N[j0]? = some x0/\X.env.kindOf x0=some .cell/\#[12].names.lookup x0=some .cell/\X.env.scope.names.lookup x0=some .cell)
  (b:X.N[j1]? = some x1/\X.env.kindOf x1=some .cell/\#[12].names.lookup x1=some .cell/\X.env.scope.names.lookup x1=some .cell) (c:X.N[j2]? = some x2/\X.env.kindOf x2=some .cell/\#[12].names.lookup x2=some .cell/\X.env.scope.names.lookup x2=some .cell) :
  ∀(k j:Nat) (x:Str),[j0,j1,j2][k]? = some j->N[own+k]? = some x->X.N[j]? = some x/\X.env.kindOf x=some .cell/\#[12].names.lookup x=some .cell/\X.env.scope.names.lookup x=some .cell:=by
 intro k j x e1 e2
 match k,e1,e2 with
 | 0,e1,e2=>cases e1;rw[nZ,h0]at e2;cases e2;exact a
 | 1,e1,e2=>cases e1;rw[h1]at e2;cases e2;exact b
 | 2,e1,e2=>cases e1;rw[h2]at e2;cases e2;exact c
 | k+3,e1,_=>cases e1
theorem cut63(ns:List Int):∃ms:List Int,NR #[16] none (some 63)=ms.map V.int/\ms.length<=63:=by
 refine{ns.take 63, ?_,by simp;∎};unfold NR;simp only[HT.sIx,List.drop_zero,Nat.sub_zero,mS];rw[tN #[0],nN];by_cases h:ns.length<=63
 .rw[Nat.min_eq_right #[62],gD #[14],gD #[62]]
 .rw[Nat.min_eq_left (by simp;∎)]
  rfl
theorem drw{ad D:Nat}{B B':Int}{E:List Ent}(T:Tape cl H tp B)(n:H d=none)(b:But tp H H')(T':Tape cl H' tp B')(e:H' d=some (.dT #[30]))(db:DB H' ad D E) :
  But tp H (upd H' d (.frz o (.dT #[30])))/\Tape cl (upd H' d (.frz o (.dT #[30]))) tp B'/\FQ (upd H' d (.frz o (.dT #[30]))) d ad D E:=by
 let od:=T.off n;exact{CO b n,T'.upd _ od.1 od.2 uQ,{{o,(jE)},db.kp (Kp.upd e trivial)}}
def WayR(T d m:Nat):Prop:=(T=6/\d=2/\m=3)∨(T=5/\d=3/\m=3)∨(T=4/\d=5/\m=3)∨(T=2/\d=16/\m=2)
theorem WayR.ex{w:Int}(h0:0<=w)(h1:w<4):∃T d m:Nat,WayR T d m/\atI [V.int 6,V.int 5,V.int 4,V.int 2] w=some (.int T)/\atI [V.int 2,V.int 3,V.int 5,V.int 16] w=some (.int d)/\atI [V.int 3,V.int 3,V.int 3,V.int 2] w=some (.int m):=by
 let:w=0∨w=1∨w=2∨w=3:=∎
 rcases this with rfl | rfl | rfl | rfl
 .exact{6,2,3,.inl {rfl,rfl,(rfl)},rfl,rfl,rfl}
 .exact{5,3,3,.inr (.inl {rfl,rfl,(rfl)}),rfl,rfl,rfl}
 .exact{4,5,3,.inr (.inr (.inl {rfl,rfl,(rfl)})),rfl,rfl,rfl}
 .exact{2,16,2,.inr (.inr (.inr {rfl,rfl,(rfl)})),rfl,rfl,rfl}
theorem WayR.le{T d m:Nat}(h:WayR T d m):T<=6/\d<=16/\2<=m/\m<=3:=by
 unfold WayR at h
 ∎
theorem WayR.nb{T d m mo:Nat}(h:WayR T d m)(h4:mo<=4):NumB mo (14*T) (28+15*T) d 2000 (42*m) (14*m) (27+16*m) T:=by
 rcases h with⟨rfl,rfl,rfl⟩ | ⟨rfl,rfl,rfl⟩ | ⟨rfl,rfl,rfl⟩ | ⟨rfl,rfl,rfl⟩<;>exact{by decide,by decide,by decide,∎,by decide,by decide,by decide,by decide,by decide,by decide}
structure SmO(H:Hp)(more most:Nat)(a:Addr)(F:List Ent):Prop where
 f:FQ H a more 16 F
 kb:KB (λ_=>42*most) F
 l:F.length<=most
 c:Com (14*most) (28+15*most) (pl F)
theorem SmO.kp{more most:Nat}(h:SmO H more most a F)(k:Kp H H'):SmO H' more most a F:={h.f.kp k,h.kb,h.l,h.c}
theorem Com.ov{ad D b n:Nat}(h:Com b n (pl E))(db:DB H ad D E):∃C:Int,0<C/\C.natAbs<=2^b/\∀x∈pl E,Ov C n x.2:=by
 obtain⟨C,h1,h2,h3⟩:=h;exact{C,h1,h2,λx hx=>by rw[<-NT db.plk.nd hx];exact h3 _}
theorem SmO.oth{more most T d:Nat}(h:SmO H more most a F)(w:WayR T d most):OthQ H more (42*most) 2000 (14*most) (27+16*most) a F:=by
 let hm:most=2∨most=3:=by let:=w.le;∎
 let hl:=h.l;let lk:F.length*(2000+42*most+1)<=7900:=by
  let:=gR (2000+42*most+1) hl;rcases hm with rfl | rfl<;>∎
 obtain⟨C,c1,c2,c3⟩:=h.c.ov h.f.db;refine{h.f,h.kb,by show F.length<=32;∎,lk,C,28+15*most,most-1,c1,c2,∎, ?_,c3};rcases hm with rfl | rfl
 .exact hl
 .exact nQ hl #[0]
theorem MX{α β:Type}{R:α->β->Prop}{xs:List α}{L:List β}(h:Paired R xs L){x:α}{y:β}(r:R x y):∀i,Paired R (xs.set i x) (L.set i y):=by
 induction h with
 | nil=>exact λ_=>.nil
 | cons a b ih=>intro i;cases i with
  | zero=>exact .cons r b
  | succ i=>exact .cons a (ih i)
theorem JJ(J:L2.St->Hp->Prop)(h:∀TT:TS,(∀O H,J O H->TT D O H)->vB A1 TT D O H)(tl:∀O H,J O H->R D O H):vB A1 R D O H:=h R tl
theorem WF(J:L2.St->Hp->Prop)(h:∀TT:TS,(∀O H,J O H->TT D O H)->vB A1 (vB A2 TT) D O H)(tl:∀O H,J O H->R D O H):vB A1 (vB A2 R) D O H:=h R tl
theorem WE(J:L2.St->Hp->Prop)(h:∀TT:TS,(∀O H,J O H->TT D O H)->vB A1 (vB A2 (vB A3 (vB A4 (vB A5 TT)))) D O H)(tl:∀O H,J O H->R D O H):vB A1 (vB A2 (vB A3 (vB A4 (vB A5 R)))) D O H:=h R tl
structure Dr1(H:Hp)(ad more T d most:Nat)(d1:Addr)(E1:List Ent):Prop where
 m1:1<=ad
 m4:ad<=4
 r1:1<=more
 r4:more<=4
 w:WayR T d most
 f:FQ H d1 ad d E1
 kb:KB (λ_=>42*T) E1
 l:E1.length<=T
 c:Com (14*T) (28+15*T) (pl E1)
theorem Dr1.kp{ad more T d most:Nat}(h:Dr1 H ad more T d most d1 E1)(k:Kp H H'):Dr1 H' ad more T d most d1 E1:={h.m1,h.m4,h.r1,h.r4,h.w,h.f.kp k,h.kb,h.l,h.c}
theorem Dr1.one{ad more T d most:Nat}(h:Dr1 H ad more T d most d1 E1):OneQ H d1 ad (14*T) (28+15*T) d 2000 E1:=
 {h.f.up h.w.le.2.1,h.kb.up λ_=>by let:=h.w.le;∎,h.c.ov h.f.db,h.f.db.plk.deg}
inductive OutI(cl a tp:Addr)(i:Nat):L2.St->Hp->Prop where
 | mk {u2 u3 u4 u5 u6 u7 u8 u9 u10 u11:Option V} {H':Hp} (T:Tape cl H' tp (2000*i)):OutI cl a tp i [some (.ref a),some (.ref tp),u2,u3,u4,u5,u6,u7,u8,u9,u10,u11] H'
inductive J1(cl a tp:Addr)(i:Nat):L2.St->Hp->Prop where
 | mk {u2 u5 u8 u9 u10 u11:Option V} {H:Hp} {ad more T d most:Nat} {d1:Addr} {E1:List Ent} (t:Tape cl H tp (2000*i+203)) (h:Dr1 H ad more T d most d1 E1):J1 cl a tp i [some (.ref a),some (.ref tp),u2,some (.int ad),some (.int more),u5,some (.ref d1),some (.int most),u8,u9,u10,u11] H
inductive J2(cl a tp:Addr)(i:Nat)(B:Int):L2.St->Hp->Prop where
 | mk {u2 u5 u7 u9 u10 u11:Option V} {H:Hp} {ad more T d most:Nat} {d1 lo:Addr} {E1:List Ent} {ps:List Addr} {Fs:List (List Ent)} (t:Tape cl H tp (2000*i+B)) (h:Dr1 H ad more T d most d1 E1) (eo:H lo=some (.lst (ps.map V.ref))) (p:Paired (SmO H more most) ps Fs) (lp:ps.length=ad) (lt:lo≠tp) (lc:lo≠cl):J2 cl a tp i B [some (.ref a),some (.ref tp),u2,some (.int ad),some (.int more),u5,some (.ref d1),u7,some (.ref lo),u9,u10,u11] H
inductive J3(K:tP)(cl a tp:Addr)(i:Nat):L2.St->Hp->Prop where
 | mk {u2 u5 u7 u11:Option V} {H:Hp} {ad more T d most:Nat} {d1 lo l1 ol:Addr} {E1:List Ent} {ps qs:List Addr} {Fs:List (List Ent)} {Qs:List Pl} (t:Tape cl H tp (2000*(i+1:Nat))) (h:Dr1 H ad more T d most d1 E1) (eo:H lo=some (.lst (ps.map V.ref))) (p:Paired (SmO H more most) ps Fs) (lp:ps.length=ad) (e1:H l1=some (.lst (qs.map V.ref))) (e2:H ol=some (.lst (qs.map V.ref))) (hq:Paired (λa Q=>SumQ K H a more Q) qs Qs) (hs:Paired Srt Fs Qs) (oq:∀Q∈Qs,PlOk more Q):J3 K cl a tp i [some (.ref a),some (.ref tp),u2,some (.int ad),some (.int more),u5,some (.ref d1),u7,some (.ref lo),some (.ref l1),some (.ref ol),u11] H
structure OtI(cl tp l:Addr)(more most:Nat)(H6:Hp)(B:Int)(j:Nat)(ys:List V)(H':Hp):Prop where
 b:But tp H6 H'
 t:Tape cl H' tp (B+201*j)
 e:H' l=some (.lst ys)
 x:∃(ps:List Addr) (Fs:List (List Ent)),ys=ps.map V.ref/\Paired (SmO H' more most) ps Fs/\ps.length=j
abbrev nmLaw:List Str:=["script","tape","turn","many","more","way","one","most","others","handed","old","told"]
variable{P:Program}{w:World}{K:tP}{mg:Str->Option Value}{base:Heap}{f fd:_}
theorem scLaw:FnScope nmLaw ["script"] (jI MR):=scK #[2]
theorem ok_law(F:Fun K "law" "law" MR f fd)(T:Txt mg)(GW:DG P w K mg base 1 "_law_draw" CY ["tape","many"] spDraw)
 (GM:DG P w K mg base 3 "_law_small" GY ["tape","many","most","deep"] spSmall)
 (GS:DG P w K mg base 2 "_law_sum" FA ["many","one"] (GN K)) (GQ:DG P w K mg base 12 "_law_asked" CZ ["one","others"] (wB K))
 (GD:DG P w K mg base 5 "_law_due" WH ["one","others","many"] (EZ K))
 (GP:DG P w K mg base 1 "_law_whole_parts" BQ ["made"] (JB K))
 (GR:DG P w K mg base 13 "_law_great_right" HK ["tape"] spGreat):FnOk P w K mg base CX0 14 f fd ["script"] (ON K):=by
 refine F.ok scLaw #[9] #[4]
 .obtain⟨a,ns,rfl,_⟩:=h
  rfl
 .obtain⟨a,ns,rfl,hS,hlen,go⟩:=h;let hr1:Room 1 _:=hr.mono #[0];let hr2:Room 2 _:=hr.mono #[0];let hr3:Room 3 _:=hr.mono #[0];let hr5:Room 5 _:=hr.mono #[0];let hr12:Room 12 _:=hr.mono #[0];let hr13:Room 13 _:=hr;let hu1:_+1<cLine:=gX #[10] hr.units;let hu64:_+64<cLine:=hr.units;refine{_,jC (jM (i:=1) scLaw.nd rfl #[38] (vN (jA (qL EK (by rfl) T.lst boot_list (jA (WW WA (pv 0) po_none (PL jB)) jD)) (jA jB (jA jB #[73]))))) (jC (qC PassesOwn.never rfl (xF (by rfl) T.rng #[73]) (jH (i:=2) scLaw.nd rfl #[5]) (jC (jM (i:=3) scLaw.nd rfl #[5] (jJ qA jB #[52])) (jC (jM (i:=4) scLaw.nd rfl #[38] (jJ qA jB #[52])) (jC (jM (i:=5) scLaw.nd rfl #[5] #[52]) (jC (jM (i:=6) scLaw.nd rfl #[5] (LwD.xG (cal GM hr3 (jA (pv 1) (jA (pv 3) (jA (jT qQ #[67] (pv 5) #[11]) (jA (jT qQ #[67] (pv 5) #[11]) jD))))))) (jC (jM (i:=7) scLaw.nd rfl #[38] (jT qQ #[67] (pv 5) #[11])) (jC (xU (i:=8) scLaw.nd rfl #[5] (own:=1) (idx:=[1,4,7]) (N:=["k","tape","more","most"]) rfl rfl rfl #[2] #[2] (AN (by intro y hy;simp only[nI,mK,or_false]at hy;rcases hy with rfl | rfl | rfl<;>rfl)) (vG rfl) rfl (SU rfl rfl rfl {rfl,rfl,rfl,(rfl)} {rfl,rfl,rfl,(rfl)} {rfl,rfl,rfl,(rfl)}) (xF (by rfl) T.rng (jA (pv 3) jD)) (λC fp s2 H2=>(jH (i:=0) (show List.Nodup (["k","tape","more","most"]:List Str) by decide +kernel) rfl #[5] #[38])) (λC fp s2 H2=>LwD.xG (cal GM hr3 (jA (pv 1) (jA (pv 2) (jA (pv 3) (jA (jT (show IxR (jL _ ["k","tape","more","most"] _ _ C fp s2 H2) (JN K)from qQ) #[67] #[52] #[11]) jD))))))) (jC (qJ (jX BC #[52] jB (kM _)) (jF (xA (LwD.xG (cal GM hr3 (jA (pv 1) (jA (pv 4) (jA jB #[73]))))) (yX (pv 8) (cal GW hr1 (jA (pv 1) (jA (pv 3) jD))) vZ))) jY) (jC (xU (i:=9) scLaw.nd rfl #[5] (own:=1) (idx:=[4]) (N:=["other","more"]) rfl rfl rfl #[2] #[2] #[26] (vG rfl) rfl (CD rfl {rfl,rfl,rfl,(rfl)}) (yF (pv 8)) (λC fp s2 H2=>(jH (i:=0) (show List.Nodup (["other","more"]:List Str) by decide +kernel) rfl #[5] #[38])) (λC fp s2 H2=>cal GS hr2 (jA (pv 1) (jA (pv 0) jD)))) (jC (jM (i:=10) scLaw.nd rfl #[5] (qL EK (by rfl) T.lst boot_list (jA (pv 9) jD))) (jC (jM (i:=11) scLaw.nd rfl #[5] (cal GQ hr12 (jA (cal GS hr2 (jA (pv 3) (jA (pv 6) jD))) (jA (pv 9) jD)))) (jC (qJ (PW.pt (WO (jX (XG hu64) (pv 11) (cal GD hr5 (jA (pv 6) (jA (pv 8) (jA (pv 4) jD)))) (kM _)) (MS (jX (op_neC hu1) (pv 9) (pv 10) (kM _))))) (jF (jR XB)) jY) (jF (qJ (PW.pt (WP (jX (XG hu64) (pv 11) (HU) (kM _)) (PF (WS (AO (cal GP hr1 (jA (pv 11) jD))))))) (jF (jR XB)) jY)))))))))))))) (jF (jR (pe_or (PU wJ #[52] jB (kM _)) (pe_one (cal GR hr13 #[74])))))), ?_}
  try dsimp only[cxK]
  obtain⟨cs,em,hm⟩:=cut63 ns;refine{_,rfl,_,rfl,a,_,rfl,hS,λp1 H1 n1 s1 e1=>?_};refine{p1,_,rfl,.inl (SqL.of e1),λcl H2 n2 s2 e2=>{uS,λtp H3 n3 s3 e3=>?_}};let T3:Tape cl H3 tp 0:={cs,0,0,0,e3,by rw[s3 _ _ e2,em],hm,by decide,by decide};dsimp only[jP];let p30:(100000:Int)<2^30:=by decide
  refine{_,rfl,by decide,by decide, ?_};refine xQ (OutI cl a tp) (.mk (T3.mono #[43] ∎)) (λi σ H5 hi h=>?_) (fun σ H5 h=>?_)
  .obtain⟨T5⟩:=h;let hi:i<2:=∎
   refine WE (J1 cl a tp i) (λTT hTT=>?_) ?_
   .refine LK rfl T5 ∎ #[0] #[0] λc1 H6 x0 x1 T6 b6=>{_,_,rfl,rfl, ?_};obtain⟨ad,hmany⟩:∃ad:Nat,1+c1=(ad:Int):={(1+c1).toNat,∎};dsimp only[jP];rw[hmany];refine LK rfl T6 ∎ #[0] #[0] λc2 H7 y0 y1 T7 b7=>{_,_,rfl,rfl, ?_};obtain⟨more,hmore⟩:∃more:Nat,1+c2=(more:Int):={(1+c2).toNat,∎};dsimp only[jP];rw[hmore];refine LK rfl T7 ∎ #[0] #[0] λwy H8 w0 w1 T8 b8=>?_;obtain⟨t,d,most,hW,a1,a2,a3⟩:=WayR.ex w0 w1;let wl:=hW.le;dsimp only[jP];refine{_,rfl,_,rfl,uS,λz1 H9 n9 s9 e9=>{_,rfl,z1,_,wy,_,rfl,rfl,SqL.of e9,a1,uS,λz2 HA nA sA eA=>{_,rfl,z2,_,wy,_,rfl,rfl,SqL.of eA,a2,tp,ad,t,d,_,rfl,∎,∎,wl.1,wl.2.1,cl,T8.mono (s9.trans sA) uQ,∎,λd1 E1 HB nB bB TB eB dbB kbB lB cB=>{d1,_,rfl,eB,λoB=>?_}}}};obtain⟨bC,TC,fC⟩:=drw (o:=oB) (T8.mono (s9.trans sA) uQ) nB bB TB eB dbB;generalize upd HB d1 _=HC at bC TC fC;dsimp only[jP];refine{uS,λz3 HD nD sD eD=>{_,rfl,z3,_,wy,_,rfl,rfl,SqL.of eD,a3, ?_}};exact hTT _ _ (.mk (TC.mono sD ∎) {∎,∎,∎,∎,hW,fC.kp (Kp.of sD),kbB,lB,cB})
   clear T5;rintro _ H6 ⟨T6,D6⟩;rename_i ad more t d most d1 E1;let wl:=D6.w.le;let m1:=D6.m1;let m4:=D6.m4;let r1:=D6.r1;let r4:=D6.r4;refine JJ (J2 cl a tp i 1010) (λTT hTT=>?_) ?_
   .refine{_,rfl,ad,rfl,∎,∎,λl H7 n7 s7 e7=>?_};let lo:=T6.off n7;refine LM (n:=ad) (OtI cl tp l more most H6 (2000*i+203)) (by rw[sizeLine_eq];∎) {But.of s7,T6.mono s7 ∎,e7,[],[],rfl,.nil,rfl} (λj ys H8 h=>h.e) ?_ ?_
    .rintro j mm ys z H8 hz hm' hy ⟨b8,t8,e8,ps,Fs,rfl,p8,l8⟩;let hj:j<4:=by let:=(Lw.IT hz).2;∎
     refine{uL,_,rfl,_,rfl,_,rfl,uS,λz4 H9 n9 s9 e9=>{_,rfl,tp,4,_,rfl,cl,t8.mono s9 uQ,∎,by decide,by decide,λr HA r0 r1' TA bA=>?_}};obtain⟨dd,hdd,hmem⟩:=at_mem (ns:=[1,1,2,3]) r0 r1';let d16:0<=dd/\dd<=3:=by
      simp only[nI,mK,or_false]at hmem
      ∎
     obtain⟨dn,rfl⟩:=gA d16.1;let e9:=bA _ _ e9 (t8.off n9).1;refine{z4,_,r,_,rfl,rfl,SqL.of e9,hdd,tp,more,most,dn,_,rfl,r1,r4,∎,∎,cl,TA,∎,λq F HB nB bB TB eB dbB kbB lB cB=>{q,_,rfl,eB,λoB=>?_}};obtain⟨bC,TC,fC⟩:=drw (o:=oB) TA nB bB TB eB dbB;generalize upd HB q _=HC at bC TC fC;let kC:Kp H8 HC:=((Kp.of s9).trans (Kp.butT bA (t8.mono s9 uQ))).trans (Kp.butT bC TA);let eC:HC l=some (.lst (ps.map V.ref)):=bC _ _ (bA _ _ (s9 _ _ e8) lo.1) lo.1;let ku:∀x:HO,Kp HC (upd HC l x):=λx=>Kp.upd eC trivial;refine qM hz hm' hy eC {CO ((b8.trans (But.of s9)).trans (bA.trans bC)) n7,TC.upd _ lo.1 lo.2 ∎,jE,ps++[q],Fs++[F],by rw[mT];rfl, ?_,by rw[List.length_append,l8];rfl};exact Paired.app (Paired.to (λ_ _ h=>SmO.kp h (kC.trans (ku _))) p8) (.cons {(fC.kp (ku _)).up ∎,kbB,lB,cB} .nil)
    .rintro ys H8 hl ⟨b8,t8,e8,ps,Fs,rfl,p8,l8⟩;exact hTT _ _ (.mk (t8.mono #[43] ∎) (D6.kp (Kp.butT b8 T6)) e8 p8 l8 lo.1 lo.2)
   clear T6 D6;rintro _ H6 ⟨T6,D6,eo,p6,lp,lt,lc⟩;rename_i ad more t d most d1 lo E1 ps Fs;let wl:=D6.w.le;let m1:=D6.m1;let m4:=D6.m4;let r1:=D6.r1;let r4:=D6.r4;refine JJ (J2 cl a tp i 1900) (λTT hTT=>?_) ?_
   .refine LK rfl T6 ∎ #[0] #[0] λc H7 c0 c1 T7 b7=>{rfl,_,rfl, ?_};let k7:=Kp.butT b7 T6;let eo7:=b7 _ _ eo lt;let p7:=Paired.to (λ_ _ h=>SmO.kp h k7) p6;refine wH (λ_=>?_) (λ_=>hTT _ _ (.mk (T7.mono #[43] ∎) (D6.kp k7) eo7 p7 lp lt lc));refine{_,rfl,_,rfl,tp,more,2,8,_,rfl,r1,r4,by decide,by decide,cl,T7,∎,λq F HB nB bB TB eB dbB kbB lB cB=>{q,_,rfl,eB,λoB=>?_}};obtain⟨bC,TC,fC⟩:=drw (o:=oB) T7 nB bB TB eB dbB;generalize upd HB q _=HC at bC TC fC;refine{_,rfl,_,rfl,_,rfl,tp,ad,_,rfl,cl,TC,∎,∎,∎,λr HD r0 r1' TD bD=>{lo,_,r,r.toNat,rfl,rfl,bD _ _ (bC _ _ eo7 lt) lt, ?_, ?_}}
    .unfold ixN;rw[tO r0,tO (by rw[mS,lp];exact r1')]
    let eD:=bD _ _ (bC _ _ eo7 lt) lt;let kD:Kp H7 HD:=(Kp.butT bC T7).trans (Kp.butT bD TC);let ku:∀x:HO,Kp HD (upd HD lo x):=λx=>Kp.upd eD trivial;refine hTT _ _ (.mk (ps:=ps.set r.toNat q) (Fs:=Fs.set r.toNat F) ((TD.upd _ lt lc uQ).mono #[43] ∎) ((D6.kp k7).kp (kD.trans (ku _))) (by rw[jE,List.map_set]) ?_ (by rw[List.length_set];exact lp) lt lc);exact MX (Paired.to (λ_ _ h=>SmO.kp h (kD.trans (ku _))) p7) {((fC.kp (Kp.butT bD TC)).kp (ku _)).up #[0],kbB.up λ_=>∎,∎,cB.up ∎ ∎} _
   clear T6 D6 p6;rintro _ H6 ⟨T6,D6,eo,p6,lp,lt,lc⟩;rename_i ad more t d most d1 lo E1 ps Fs;let wl:=D6.w.le;let m1:=D6.m1;let m4:=D6.m4;let r1:=D6.r1;let r4:=D6.r4;refine WF (J3 K cl a tp i) (λTT hTT=>?_) ?_
   .refine{_,rfl,lo,rfl,{_,SqL.of eo},λl1 HB nB sB eB=>?_};refine xY (K:=K) (a:=lo) (xs:=ps.map V.ref) (HdI K H6 l1 more Fs) (by rw[mS,lp,sizeLine_eq];∎) {sB,eB,[],[],rfl,.nil,.nil,λQ h=>nomatch h} (λi ys HC h=>{SqL.of (h.s _ _ eo),h.e}) ?_ ?_
    .rintro j m ys x HC hx hm' hy h;let hx':=hx;rw[mB]at hx';obtain⟨a,ha,rfl⟩:=Option.map_eq_some_iff.mp hx';obtain⟨F,hF,q⟩:=Paired.at p6 ha;let q:=q.kp (Kp.of h.s);let lF:=q.l;refine{uL,_,rfl,_,rfl,a,more,16,F,rfl,q.f.rd,q.f.db,r1,r4,∎,q.kb.up λ_=>∎,by decide,λp E0 HD nD sD pE sq ok=>?_};exact qM hx hm' hy (sD _ _ h.e) (h.put nB hF sD pE sq ok)
    .rintro ys HC hl ⟨sC,eC,qs,Qs,rfl,hq,hs,oq⟩;rw[mS,gD (by rw[<-Paired.length p6];exact tE _)]at hs;dsimp only[jP];refine{_,rfl,l1,_,rfl,.inl (SqL.of eC),λol HD nD sD eD=>?_};let sCD:=sC.trans sD;exact hTT _ _ (.mk (T6.mono sCD ∎) (D6.kp (Kp.of sCD)) (sCD _ _ eo) (Paired.to (λ_ _ h=>SmO.kp h (Kp.of sCD)) p6) lp (sD _ _ eC) eD (Paired.to (λ_ _ h=>h.same sD) hq) hs oq)
   clear T6 D6 p6;rintro _ H6 ⟨T6,D6,eo,p6,lp,e1',e2',hq,hs,oq⟩;rename_i ad more t d most d1 lo l1 ol E1 ps qs Fs Qs;let wl:=D6.w.le;let O1:=D6.one;let le:=D6.l;refine{_,rfl,_,rfl,d1,ad,16,E1,rfl,O1.f.rd,O1.f.db,D6.m1,D6.m4,∎,O1.kb.up λ_=>by decide,by decide,λp1 E0 HD nD sD pE sq ok=>?_};refine{_,rfl, ?_};obtain⟨U,bt⟩:=XW (K:=K) (H:=HD) (lo:=lo) (oa:=l1) {O1.f.kp (Kp.of sD),O1.kb,O1.cm,O1.sX} le ∎ (Paired.to (λ_ _ h=>(SmO.kp h (Kp.of sD)).oth D6.w) p6) (D6.w.nb D6.m4) (sD _ _ eo) lp D6.r1 D6.r4 D6.m4 pE sq ok (sD _ _ e1') (Paired.to (λ_ _ q=>q.same sD) hq) hs oq;dsimp only[tNil];show wB K [.ref p1,.ref l1] HD _ _;refine FY bt.p λv da HE sE ans=>?_;dsimp only[jP];refine{_,rfl,_,rfl,_,rfl,_,rfl, ?_};dsimp only[tNil];show EZ K [.ref d1,.ref lo,.int more] HE _ _;refine RV (bt.same sE) ans λu HG sG du=>?_;let aG:=ans.same sG;let dG:=aG.dec;let sDG:=sD.trans (sE.trans sG);refine{da,da,dG.1,du,dG.2,dG.2,_,rfl, ?_};rw[SeqAt.eqv_refl _ dG.2.1];refine yT #[0] ?_;refine{_,rfl,_,rfl,l1,ol,qs,rfl,rfl,sDG _ _ e1',sDG _ _ e2',_,rfl, ?_};refine yT #[0] ?_;refine{_,rfl,da,.str "great",dG.1,.str _,dG.2,great_ok,_,rfl, ?_};cases aG with
   | great h=>
    rw[NM];refine yT #[0] ?_;exact .mk (T6.mono sDG uQ)
   | sum h q st=>
    rw[IZ];refine DY #[0] ?_;refine{_,rfl,_,more,_,rfl,q,st.ok,λHI sI=>?_};exact{_,rfl,yT #[0] (.mk (T6.mono (sDG.trans sI) uQ))}
  .obtain⟨T5⟩:=h;refine LK rfl T5 #[0] #[0] #[0] λc H6 c0 c1 T6 b6=>{_,_,rfl,rfl,_,rfl, ?_};refine wH (λ_=>go H6) (λ_=>?_);exact{_,rfl,tp,_,rfl,cl,T6,by decide,λH7 _=>go H7}
end LwK
namespace Lw
open PySem PySem.Spec PyProof.Rows L2 LwQ LwV
theorem len1{us:List Value}(h:us.length=1):∃a,us=[a]:=by cases us with | nil=>cases h | cons a r=>have e:r=[]:=List.length_eq_zero_iff.mp #[62];subst e;exact{a,(rfl)}
theorem len2{us:List Value}(h:us.length=2):∃a b,us=[a,b]:=by cases us with | nil=>cases h | cons a r=>obtain⟨b,rfl⟩:=len1 (us:=r) #[62];exact{a,b,(rfl)}
theorem len3{us:List Value}(h:us.length=3):∃a b c,us=[a,b,c]:=by cases us with | nil=>cases h | cons a r=>obtain⟨b,c,rfl⟩:=len2 (us:=r) #[62];exact{a,b,c,(rfl)}
theorem len4{us:List Value}(h:us.length=4):∃a b c d,us=[a,b,c,d]:=by cases us with | nil=>cases h | cons a r=>obtain⟨b,c,d,rfl⟩:=len3 (us:=r) #[62];exact{a,b,c,d,(rfl)}
abbrev fo(x:Str)(st:Stmt)(kV dc pm:Value)(an:Option Addr)(cd ct:Value):FuncData:=PySem.W.fnOf x x (xC st) (vS st) (jI st) .none kV dc pm an cd ct
abbrev BdA(x:Str)(st:Stmt)(ps:List Str)(us:List Value):Prop:=∀(kV dc pm:Value) (an:Option Addr) (cd ct:Value),bindArgs (fo x st kV dc pm an cd ct) {us,[]}=pure (ps.zip us)
theorem bd1{x:Str}{st:Stmt}{ps:List Str}(hp:ps.length=1)(h:∀a,BdA x st ps [a]):∀us:List Value,us.length=ps.length->BdA x st ps us:=λus e=>by obtain⟨_,rfl⟩:=len1 (e.trans hp);exact λ_ _ _ _ _ _=>h ..
theorem bd2{x:Str}{st:Stmt}{ps:List Str}(hp:ps.length=2)(h:∀a b,BdA x st ps [a,b]):∀us:List Value,us.length=ps.length->BdA x st ps us:=λus e=>by obtain⟨_,_,rfl⟩:=len2 (e.trans hp);exact λ_ _ _ _ _ _=>h ..
theorem bd3{x:Str}{st:Stmt}{ps:List Str}(hp:ps.length=3)(h:∀a b c,BdA x st ps [a,b,c]):∀us:List Value,us.length=ps.length->BdA x st ps us:=λus e=>by obtain⟨_,_,_,rfl⟩:=len3 (e.trans hp);exact λ_ _ _ _ _ _=>h ..
theorem bd4{x:Str}{st:Stmt}{ps:List Str}(hp:ps.length=4)(h:∀a b c d,BdA x st ps [a,b,c,d]):∀us:List Value,us.length=ps.length->BdA x st ps us:=λus e=>by obtain⟨_,_,_,_,rfl⟩:=len4 (e.trans hp);exact λ_ _ _ _ _ _=>h ..
theorem df{K:tP}{h:Heap}{mg:Str->Option Value}{x:Str}{st:Stmt}(X:K.In h)(G:h.Ns mainGlobals mg)(A:FnAt K x st)(ps:List Str)(b:∀us:List Value,us.length=ps.length->BdA x st ps us):∃f fd,Df K mg x st ps f fd:=by
 obtain⟨a,l,c,k⟩:=A;exact{_,_,NN l c k,(NN l c k).binds λkV dc pm an cd ct us h=>b us h kV dc pm an cd ct,nO X G a}
theorem cst{K:tP}{h:Heap}{mg:Str->Option Value}(X:K.In h)(G:h.Ns mainGlobals mg)(A:PrAt K "NOUGHT" 0 1):Ngt K mg:=by
 obtain⟨a,l⟩:=A;exact{_,nO X G a,λH=>.inr {_,_,_,l,rfl,rfl,by show 2<=sizeLine;decide,.cons {_,rfl} (.cons {_,rfl} .nil)}}
theorem df1{K:tP}{h:Heap}{mg:Str->Option Value}{x:Str}{st:Stmt}(X:K.In h)(G:h.Ns mainGlobals mg)(A:FnAt K x st)(ps:List Str)(hp:ps.length=1:=by rfl)(b:∀a0,BdA x st ps [a0]:=by exact λ_ _ _ _ _ _ _=>rfl):∃f fd,Df K mg x st ps f fd:=df X G A ps (bd1 hp b)
theorem df2{K:tP}{h:Heap}{mg:Str->Option Value}{x:Str}{st:Stmt}(X:K.In h)(G:h.Ns mainGlobals mg)(A:FnAt K x st)(ps:List Str)(hp:ps.length=2:=by rfl)(b:∀a0 a1,BdA x st ps [a0,a1]:=by exact λ_ _ _ _ _ _ _ _=>rfl):∃f fd,Df K mg x st ps f fd:=df X G A ps (bd2 hp b)
theorem df3{K:tP}{h:Heap}{mg:Str->Option Value}{x:Str}{st:Stmt}(X:K.In h)(G:h.Ns mainGlobals mg)(A:FnAt K x st)(ps:List Str)(hp:ps.length=3:=by rfl)(b:∀a0 a1 a2,BdA x st ps [a0,a1,a2]:=by exact λ_ _ _ _ _ _ _ _ _=>rfl):∃f fd,Df K mg x st ps f fd:=df X G A ps (bd3 hp b)
theorem df4{K:tP}{h:Heap}{mg:Str->Option Value}{x:Str}{st:Stmt}(X:K.In h)(G:h.Ns mainGlobals mg)(A:FnAt K x st)(ps:List Str)(hp:ps.length=4:=by rfl)(b:∀a0 a1 a2 a3,BdA x st ps [a0,a1,a2,a3]:=by exact λ_ _ _ _ _ _ _ _ _ _=>rfl):∃f fd,Df K mg x st ps f fd:=df X G A ps (bd4 hp b)
theorem all_mk{l:PySem.W.OpenLaw}{K:tP}{h:Heap}{mg:Str->Option Value}(X:K.In h)(G:h.Ns mainGlobals mg)(hfa:mg "law" = some (.ref fa))(A:Facts K) :
  ∃fd:FuncData,(∀(s:Shared) (v:Value),BindsTo s fd {[v],[]} [("script",v)])/\∀base:Heap,K.In base->base.Ns mainGlobals mg->FnOk l.prog w K mg base CX0 14 fa fd ["script"] (ON K):=by
 obtain @⟨f35,oc35,kV35,dc35,pm35,cd35,ct35,od35,an35,sl35,a35,l35,c35,k35⟩:=A.f35;obtain⟨v1⟩:=A.v1;obtain⟨v2⟩:=A.v2;obtain⟨v3⟩:=A.v3;obtain⟨v4⟩:=A.v4;obtain⟨v5⟩:=A.v5;let e:=hfa.symm.trans (nO X G a35);cases e;let T:Txt mg:={ isi:=hV X G A.z1,len:=hV X G A.z2,int:=hV X G A.z3,bool:=hV X G A.z4,tup:=hV X G A.z5,lst:=hV X G A.z6,abs:=hV X G A.z7,rng:=hV X G A.z8,lbits:={_,nO X G v1},sum:=hV X G A.z9,zip:=hV X G A.z10,sorted:=hV X G A.z11,dct:=hV X G A.z14,max:=hV X G A.z12,rev:=hV X G A.z13,verr:=hV X G A.z15,degree:={_,nO X G v2},terms:={_,nO X G v3},pack:={_,nO X G v4},short:={_,nO X G v5} };let cA:=cst X G A.n1;obtain⟨m1,m2,m3,m4,m5,m6,m7,m8,m9,wqo,wqb,wqe,wqa,wqn,wqi,wqk,wqg,wqh,wqc,wqm,wdo,wdb,wde,wda,wdn,wdi,wdk,wdg,wdh,wdc,wdm,iL,iC,iT,iN,iF,up,ve,no,nn⟩:=A.c8;let xq:LwE.XCls K _ _ _ "ValueError.__new__":={{_,_,_,_,_,_,_,_,_,_,_,_,_,_,_,wqo},wqb,wqe,wqa,wqn,wqi,iF,wqk,wqg,wqh,wqc,wqm};let xd:LwE.XCls K _ _ _ "ValueError.__new__":={{_,_,_,_,_,_,_,_,_,_,_,_,_,_,_,wdo},wdb,wde,wda,wdn,wdi,iF,wdk,wdg,wdh,wdc,wdm};let c8:Cls8 K mg _ _ _ _ _ _ _ _ _ _ _ _:={xq,xd,up,ve,no,nO X G m1,nO X G m2,nO X G m3,nO X G m4,nO X G m5,nO X G m6,nO X G m7,nO X G m8,nO X G m9}
 let F35:=NN (st:=MR) l35 c35 k35;obtain⟨f1,d1,D1⟩:=df2 X G A.f1 ["one","other"];obtain⟨f2,d2,D2⟩:=df2 X G A.f2 ["one","other"];obtain⟨f3,d3,D3⟩:=df2 X G A.f3 ["one","other"];obtain⟨f4,d4,D4⟩:=df2 X G A.f4 ["one","other"];obtain⟨f5,d5,D5⟩:=df1 X G A.f5 ["one"];obtain⟨f6,d6,D6⟩:=df1 X G A.f6 ["powers"];obtain⟨f7,d7,D7⟩:=df2 X G A.f7 ["key","many"];obtain⟨f8,d8,D8⟩:=df1 X G A.f8 ["one"];obtain⟨f9,d9,D9⟩:=df2 X G A.f9 ["many","table"];obtain⟨f10,d10,D10⟩:=df2 X G A.f10 ["one","other"];obtain⟨f11,d11,D11⟩:=df1 X G A.f11 ["table"];obtain⟨f12,d12,D12⟩:=df1 X G A.f12 ["heap"];obtain⟨f13,d13,D13⟩:=df2 X G A.f13 ["one","other"];obtain⟨f14,d14,D14⟩:=df2 X G A.f14 ["terms","letter"];obtain⟨f15,d15,D15⟩:=df3 X G A.f15 ["terms","tables","letter"];obtain⟨f16,d16,D16⟩:=df2 X G A.f16 ["one","others"];obtain⟨f17,d17,D17⟩:=df2 X G A.f17 ["tape","many"];obtain⟨f18,d18,D18⟩:=df2 X G A.f18 ["top","bottom"];obtain⟨f19,d19,D19⟩:=df2 X G A.f19 ["one","other"];obtain⟨f20,d20,D20⟩:=df2 X G A.f20 ["one","other"];obtain⟨f21,d21,D21⟩:=df3 X G A.f21 ["found","powers","number"];obtain⟨f22,d22,D22⟩:=df2 X G A.f22 ["one","other"];obtain⟨f23,d23,D23⟩:=df2 X G A.f23 ["one","other"];obtain⟨f24,d24,D24⟩:=df2 X G A.f24 ["many","one"];obtain⟨f25,d25,D25⟩:=df1 X G A.f25 ["tape"];obtain⟨f26,d26,D26⟩:=df4 X G A.f26 ["tape","many","most","deep"];obtain⟨f27,d27,D27⟩:=df1 X G A.f27 ["one"];obtain⟨f28,d28,D28⟩:=df1 X G A.f28 ["one"];obtain⟨f29,d29,D29⟩:=df3 X G A.f29 ["one","others","many"];obtain⟨f30,d30,D30⟩:=df3 X G A.f30 ["one","others","many"]
 obtain⟨f31,d31,D31⟩:=df2 X G A.f31 ["one","others"];obtain⟨f32,d32,D32⟩:=df1 X G A.f32 ["made"];obtain⟨f33,d33,D33⟩:=df3 X G A.f33 ["first","second","many"];obtain⟨f34,d34,D34⟩:=df1 X G A.f34 ["tape"];refine{PySem.W.fnOf "law" "law" (xC MR) (vS MR) (jI MR) .none kV35 dc35 pm35 an35 cd35 ct35,λs v=>.of_eq rfl,λbase _ _=>?_};let GI:=ok_init (P:=l.prog) (w:=w) (base:=base) (mg:=mg) iL iC T;let G_gcd:=mkD D1 (MY (P:=l.prog) (w:=w) (base:=base) D1.F T);let G_low:=mkD D18 (XN (P:=l.prog) (w:=w) (base:=base) D18.F T);let G_draw:=mkD D17 (QA (P:=l.prog) (w:=w) (base:=base) D17.F T);let G_mul:=mkD D3 (XM (P:=l.prog) (w:=w) (base:=base) D3.F T D1);let G_divN:=mkD D4 (ok_divN (P:=l.prog) (w:=w) (base:=base) D4.F T D3 D1);let G_addF:=mkD D2 (ok_addF (P:=l.prog) (w:=w) (base:=base) D2.F T D1);let G_packed:=mkD D6 (TV (P:=l.prog) (w:=w) (base:=base) D6.F T);let G_unpk:=mkD D7 (ok_unpk (P:=l.prog) (w:=w) (base:=base) D7.F T);let G_tabOf:=mkD D8 (XI D8.F G_packed);let F_tabAdd:=TQ D10.F T cA G_addF;let G_tabAdd:=mkD D10 F_tabAdd;let G_degree:=mkD D5 (TW (P:=l.prog) (w:=w) (base:=base) D5.F T);let G_lev:=mkD D11 (ok_lev D11.F T G_divN);let G_heap:=mkD D12 (ok_heap D12.F cA G_addF G_divN);let F_tabMul:=TN D13.F G_lev G_heap;let G_tabMul:=mkD D13 F_tabMul;let F_sumOfX:=TR D9.F T cA c8.q GI (DZ rfl iT iN) c8.mq G_unpk G_degree;let F_parted:=TU (P:=l.prog) (w:=w) (base:=base) (mg:=mg) D14.F
 let G_parted:=mkD D14 F_parted;let G_tabPut:=FG (P:=l.prog) (w:=w) (base:=base) D15 T D14 F_parted D13 F_tabMul D10 F_tabAdd;let F_putIn:=XJ D16.F T c8.q GI (DZ rfl iT iN) c8.mq G_degree G_tabOf D15 G_tabPut D9 F_sumOfX;let G_LwK_number:=mkD D25 (LwK.ok_number (P:=l.prog) (w:=w) (base:=base) D25.F T D17 D18);let G_LwK_plus:=mkD D19 (LwK.ok_plus (P:=l.prog) (w:=w) (base:=base) (mg:=mg) D19.F);let G_LwK_put:=mkD D21 (LwK.ok_put (P:=l.prog) (w:=w) (base:=base) (mg:=mg) D21.F D19);let G_LwK_lmul:=mkD D20 (LwK.ok_lmul (P:=l.prog) (w:=w) (base:=base) (mg:=mg) D20.F);let G_LwK_ladd:=mkD D22 (LwK.ok_ladd D22.F T G_LwK_put);let G_LwK_prod:=mkD D23 (LwK.ok_prod D23.F T G_LwK_put G_LwK_lmul);let G_LwK_lsum:=mkD D24 (LwK.ok_lsum D24.F T G_low);let G_LwK_small:=mkD D26 (LwK.ok_small D26.F T G_draw G_LwK_put G_LwK_number);let G_LwK_lowered:=mkD D28 (LwK.ok_lowered D28.F T G_low);let G_LwK_ldeg:=mkD D27 (LwK.ok_ldeg (P:=l.prog) (w:=w) (base:=base) D27.F T);let G_LwK_lput:=mkD D29 (LwK.ok_lput D29.F T G_LwK_ladd G_LwK_prod G_LwK_lowered);let G_LwK_due:=mkD D30 (LwK.ok_due D30.F T G_LwK_ldeg G_LwK_lput G_LwK_lsum);let G_LwK_wholeP:=mkD D32 (LwK.ok_wholeP (P:=l.prog) (w:=w) (base:=base) D32.F T);let G_LwK_asked:=mkD D31 (LwK.ok_asked (P:=l.prog) (w:=w) (base:=base) D31.F T D16 F_putIn {c8,(nn)});let G_LwK_grid:=mkD D33 (LwK.ok_grid (P:=l.prog) (w:=w) (base:=base) D33.F T);let G_LwK_great:=mkD D34 (LwK.ok_great D34.F T G_draw G_LwK_grid G_LwK_lsum G_LwK_asked G_LwK_due)
 exact LwK.ok_law F35 T G_draw G_LwK_small G_LwK_lsum G_LwK_asked G_LwK_due G_LwK_wholeP G_LwK_great
theorem walk{l:PySem.W.OpenLaw}{XP:(Str->Option Value)->Heap->Prop}{YP:World->Heap->Prop}{d:DefRec}{K:Params->tP}(hn:l.most=some 63)(hdf:d.params.defaults=[])
  (hY:∀(w:World) (h:Heap),YP w h->(K w.params).In h)
  (F:∀(w:World) (mg:Str->Option Value) (fa:Addr) (h:Heap),(K w.params).In h->h.Ns mainGlobals mg->mg d.name=some (.ref fa)->
   ∃fd:FuncData,(∀(s:Shared) (u:Value),BindsTo s fd {[u],[]} [("script",u)])/\∀base:Heap,(K w.params).In base->base.Ns mainGlobals mg->FnOk l.prog w (K w.params) mg base CX0 14 fa fd ["script"] (ON (K w.params))) :
  PySem.W.WalkO q loose XP YP l.row.toRowW d [] (λf vs=>PySem.call f vs):=
 L2.walk_of (n:=63) (k:=14) (x:="script") (CX:=λ_=>CX0) (sp:=λw=>ON (K w.params)) hn #[0] hdf {rfl,by decide,by decide} hY F (λ_ _ a ns hl _ hS=>{a,ns,rfl,hS,hl,λ_=>rfl}) λ_ _ _ _ _ z=>z
end Lw
open PySem PySem.W PyProof.Rows
set_option maxRecDepth 100000 in
theorem PySem.Challenge.cw_lowwater_k06_sums_put_in_holds : PySem.Challenge.rw_lowwater_k06_sums_put_in.Holds := by
 refine Lw.head λK YP d A hY hd hn=>Lw.walk (l:=PySem.Challenge.rw_lowwater_k06_sums_put_in) rfl hd hY λw mg fa h KX G hmg=>?_;rw[hn]at hmg;exact Lw.all_mk KX G hmg (A w.params)
end
