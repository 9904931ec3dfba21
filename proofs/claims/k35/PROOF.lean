import PyProof.Rows.All
import Wide.All
import OpenK.AllK
import Wide.FinOn
import Lean
import PyProof.EqAt
import PyProof.EqKinds
import PyProof.TupleCall
import PySem.Challenge.RW_lowwater_k35_not_straight
set_option Elab.async false
set_option linter.all false
set_option maxRecDepth 100000
set_option maxHeartbeats 4000000
noncomputable section
section
open PySem PySem.Spec PyProof PyProof.Rows
theorem uV{n:Nat}:n<=n:=Nat.le_refl n
theorem uW{n:Int}:n<=n:=Int.le_refl n
theorem uX:1<=sizeLine:=by decide
theorem uY:2<=sizeLine:=by decide
theorem uZ:3<=sizeLine:=by decide
theorem gA:type_of%@List.getD_eq_getElem?_getD:=@List.getD_eq_getElem?_getD
theorem gC:type_of%@List.getElem?_append_right:=@List.getElem?_append_right
theorem gD:type_of%@Classical.byContradiction:=@Classical.byContradiction
theorem gE:type_of%@List.getElem?_eq_some_iff:=@List.getElem?_eq_some_iff
theorem gF:type_of%@List.getElem?_append_left:=@List.getElem?_append_left
theorem gG:type_of%@List.getElem?_eq_getElem:=@List.getElem?_eq_getElem
theorem gH:type_of%@List.getElem?_take_of_lt:=@List.getElem?_take_of_lt
theorem gI:type_of%@Int.eq_ofNat_of_zero_le:=@Int.eq_ofNat_of_zero_le
theorem gJ:type_of%@List.getElem?_cons_succ:=@List.getElem?_cons_succ
theorem gK:type_of%@Heap.get?_push_of_some:=@Heap.get?_push_of_some
theorem gL:type_of%@List.take_of_length_le:=@List.take_of_length_le
theorem gM:type_of%@List.drop_of_length_le:=@List.drop_of_length_le
theorem gN:type_of%@List.mem_append_right:=@List.mem_append_right
theorem gO:type_of%@List.length_replicate:=@List.length_replicate
theorem gP:type_of%@List.getElem?_eq_none:=@List.getElem?_eq_none
theorem gQ:type_of%@List.mem_iff_getElem?:=@List.mem_iff_getElem?
theorem gR:type_of%@List.length_singleton:=@List.length_singleton
theorem gS:type_of%@List.mem_of_getElem?:=@List.mem_of_getElem?
theorem gT:type_of%@List.mem_cons_of_mem:=@List.mem_cons_of_mem
theorem gU:type_of%@Nat.pow_le_pow_right:=@Nat.pow_le_pow_right
theorem gW:type_of%@Nat.pow_lt_pow_right:=@Nat.pow_lt_pow_right
theorem gX:type_of%@Nat.mul_le_mul_right:=@Nat.mul_le_mul_right
theorem gY:type_of%@List.mem_of_mem_take:=@List.mem_of_mem_take
theorem gZ:type_of%@Heap.get?_push_size:=@Heap.get?_push_size
theorem hJ:type_of%@List.getElem?_range:=@List.getElem?_range
theorem hU:type_of%@Nat.lt_of_le_of_lt:=@Nat.lt_of_le_of_lt
theorem hV:type_of%@List.length_append:=@List.length_append
theorem hZ:type_of%@Bool.false_ne_true:=@Bool.false_ne_true
theorem mB:type_of%@Nat.lt_of_lt_of_le:=@Nat.lt_of_lt_of_le
theorem mC:type_of%@List.mem_singleton:=@List.mem_singleton
theorem mD:type_of%@Int.natAbs_natCast:=@Int.natAbs_natCast
theorem mE:type_of%@Nat.one_le_two_pow:=@Nat.one_le_two_pow
theorem mF:type_of%@List.mem_cons_self:=@List.mem_cons_self
theorem mG:type_of%@PySem.W.mg_none_of:=@PySem.W.mg_none_of
theorem mH:type_of%@List.getElem?_map:=@List.getElem?_map
theorem mI:type_of%@List.size_toArray:=@List.size_toArray
theorem mJ:type_of%@List.take_add_one:=@List.take_add_one
theorem mK:type_of%@List.append_assoc:=@List.append_assoc
theorem mL:type_of%@of_decide_eq_true:=@of_decide_eq_true
theorem mM:type_of%@List.length_range:=@List.length_range
theorem mN:type_of%@List.nodup_append:=@List.nodup_append
theorem mO:type_of%@Int.gcd_dvd_right:=@Int.gcd_dvd_right
theorem mP:type_of%@Int.toNat_natCast:=@Int.toNat_natCast
theorem mQ:type_of%@List.length_take:=@List.length_take
theorem mR:type_of%@List.not_mem_nil:=@List.not_mem_nil
theorem mS:type_of%@List.take_length:=@List.take_length
theorem mT:type_of%@List.length_cons:=@List.length_cons
theorem mU:type_of%@List.getElem_mem:=@List.getElem_mem
theorem mV:type_of%@Int.gcd_dvd_left:=@Int.gcd_dvd_left
theorem mW:type_of%@Nat.lt_succ_self:=@Nat.lt_succ_self
theorem mX:type_of%@List.filter_cons:=@List.filter_cons
theorem mY:type_of%@List.length_map:=@List.length_map
theorem mZ:type_of%@List.map_append:=@List.map_append
theorem nA:type_of%@decide_eq_false:=@decide_eq_false
theorem nB:type_of%@List.mem_append:=@List.mem_append
theorem nC:type_of%@Rat.intCast_mul:=@Rat.intCast_mul
theorem nE:type_of%@List.range_succ:=@List.range_succ
theorem nF:type_of%@Rat.intCast_neg:=@Rat.intCast_neg
theorem nG:type_of%@decide_eq_true:=@decide_eq_true
theorem nH:type_of%@Int.natAbs_mul:=@Int.natAbs_mul
theorem nI:type_of%@List.mem_range:=@List.mem_range
theorem nJ:type_of%@Nat.mul_le_mul:=@Nat.mul_le_mul
theorem nK:type_of%@Int.natAbs_neg:=@Int.natAbs_neg
theorem nM:type_of%@Rat.mul_nonneg:=@Rat.mul_nonneg
theorem nN:type_of%@Heap.size_push:=@Heap.size_push
theorem nO:type_of%@List.map_cons:=@List.map_cons
theorem nP:type_of%@List.mem_cons:=@List.mem_cons
theorem nQ:type_of%@Nat.lt_irrefl:=@Nat.lt_irrefl
theorem nT:type_of%@Int.mul_assoc:=@Int.mul_assoc
theorem nU:type_of%@List.sum_cons:=@List.sum_cons
theorem nV:type_of%@List.map_take:=@List.map_take
theorem nW:type_of%@PySem.W.mg_of:=@PySem.W.mg_of
theorem nX:type_of%@Heap.lt_size:=@Heap.lt_size
theorem nY:type_of%@Nat.le_trans:=@Nat.le_trans
theorem nZ:type_of%@Nat.ne_of_lt:=@Nat.ne_of_lt
theorem tD:type_of%@List.mem_map:=@List.mem_map
theorem tE:type_of%@Rat.zero_add:=@Rat.zero_add
theorem tF:type_of%@Rat.add_zero:=@Rat.add_zero
theorem tG:type_of%@Rat.mul_zero:=@Rat.mul_zero
theorem tH:type_of%@Rat.zero_mul:=@Rat.zero_mul
theorem tJ:type_of%@List.map_map:=@List.map_map
theorem tK:type_of%@Int.mul_comm:=@Int.mul_comm
theorem tL:type_of%@Nat.le_refl:=@Nat.le_refl
theorem tM:type_of%@Nat.zero_le:=@Nat.zero_le
theorem tN:type_of%@Int.mul_pos:=@Int.mul_pos
theorem tO:type_of%@Rat.div_def:=@Rat.div_def
theorem tP:type_of%@Nat.pow_add:=@Nat.pow_add
theorem tQ:type_of%@Int.le_refl:=@Int.le_refl
theorem tR:type_of%@Rat.le_refl:=@Rat.le_refl
theorem tS:type_of%@wpAny_bind:=@wpAny_bind
theorem tT:type_of%@wpAny_pure:=@wpAny_pure
theorem tU:type_of%@wpAny_mono:=@wpAny_mono
theorem tV:type_of%@if_neg:=@if_neg
theorem tW:type_of%@if_pos:=@if_pos
abbrev tX:=PySem.W.Frag
end
namespace L2
open PySem PySem.Spec PyProof.Rows
def XG(s:Stmt)(j:Nat):Stmt:=match s with
 | .ClassDef _ _ _ body _ _ _ _ _ _ _=>body.getD j (.Pass ⟨0,0,0,0⟩)
 | _=>.Pass ⟨0,0,0,0⟩
def vQ(s:Stmt):Arguments:=match s with
 | .FunctionDef _ a _ _ _ _ _ _ _ _=>a
 | _=>{ posonlyargs:=[],args:=[],vararg:=none,kwonlyargs:=[],kw_defaults:=[],kwarg:=none,defaults:=[] }
def vG(s:Stmt):List Stmt:=match s with
 | .FunctionDef _ _ b _ _ _ _ _ _ _=>b
 | _=>[]
def jL(s:Stmt):Scope:=match s with
 | .FunctionDef _ _ _ _ _ _ sc _ _ _=>sc
 | _=>{ kind:=.function,names:=[],isGenerator:=false,isCoroutine:=false }
end L2
namespace Lw
open PySem PySem.Spec PyProof.Rows L2
def top(i:Nat):Stmt:=PySem.Challenge.pw_lowwater_k35_not_straight.main.body.getD i (.Pass ⟨0,0,0,0⟩)
abbrev OB:Stmt:=top 15
abbrev HI:Stmt:=top 16
abbrev OA:Stmt:=top 17
abbrev JP:Stmt:=top 18
abbrev wO:Stmt:=top 20
abbrev uM:Stmt:=top 24
abbrev BG:Stmt:=top 25
abbrev AL:Stmt:=top 26
abbrev EX:Stmt:=top 27
abbrev yZ:Stmt:=top 28
abbrev LW:Stmt:=top 29
abbrev EW:Stmt:=top 30
abbrev zQ:Stmt:=top 31
abbrev AN:Stmt:=top 32
abbrev LT:Stmt:=top 33
abbrev CV:Stmt:=top 34
abbrev wN:Stmt:=top 35
abbrev wP:Stmt:=top 36
abbrev EV:Stmt:=top 37
abbrev LQ:Stmt:=top 38
abbrev xW:Stmt:=top 39
abbrev HG:Stmt:=top 40
abbrev HF:Stmt:=top 41
abbrev BH:Stmt:=top 43
abbrev BI:Stmt:=top 45
abbrev RB:Stmt:=top 46
abbrev LR:Stmt:=top 47
abbrev VN:Stmt:=top 48
abbrev LV:Stmt:=top 49
abbrev AO:Stmt:=top 50
abbrev LU:Stmt:=top 51
abbrev AQ:Stmt:=top 52
abbrev LP:Stmt:=top 53
abbrev AM:Stmt:=top 54
abbrev AK:Stmt:=top 55
abbrev JO:Stmt:=top 56
inductive FnAt(K:tX)(x:Str)(st:Stmt):Prop
 | mk {f:Addr} {oc kV dc pm cd ct:Value} {od an:Option Addr} {sl:Array (Option Value)} (a:PySem.W.nsIn K mainGlobals x=some (some (.ref f))) (l:K.lookup f=some ⟨oc,od,.func (PySem.W.fnOf x x (vQ st) (vG st) (jL st) .none kV dc pm an cd ct),sl⟩) (c:PySem.W.codeIn K cd x=true) (k:PySem.W.keepIn K (.ref f)=true)
inductive PrAt(K:tX)(x:Str)(i j:Int):Prop
 | mk {f:Addr} {od:Option Addr} {sl:Array (Option Value)} {t u:Tok} {n:Nat} (a:PySem.W.nsIn K mainGlobals x=some (some (.ref f))) (l:K.lookup f=some ⟨.type "tuple",od,.seq #[.int i t,.int j u] n,sl⟩)
inductive IntAt(K:tX)(x:Str)(i:Int):Prop
 | mk {t:Tok} (a:PySem.W.nsIn K mainGlobals x=some (some (.int i t)))
abbrev zC:Stmt:=XG (top 1) 0
inductive C8At(K:tX)(st:Stmt):Prop
 | mk {fI tI cq cD e1 e2 e3 e4 e5 e6 e7 Nq Nd:Addr} {odI anI odt:Option Addr} {slI slt:Array (Option Value)} {itt:Array Value} {nt:Nat} {ocI kVI dcI pmI cdI ctI oct:Value} {bl bd:List Value}
  (m1:PySem.W.nsIn K mainGlobals "NotStraight" = some (some (.ref cq)))
  (m2:PySem.W.nsIn K mainGlobals "LowwaterError" = some (some (.ref cD)))
  (m3:PySem.W.nsIn K mainGlobals "NoLine" = some (some (.ref e1)))
  (m4:PySem.W.nsIn K mainGlobals "NoQuotient" = some (some (.ref e2)))
  (m5:PySem.W.nsIn K mainGlobals "NoRow" = some (some (.ref e3)))
  (m6:PySem.W.nsIn K mainGlobals "NoText" = some (some (.ref e4)))
  (m7:PySem.W.nsIn K mainGlobals "NotSecond" = some (some (.ref e5)))
  (m8:PySem.W.nsIn K mainGlobals "TooGreat" = some (some (.ref e6)))
  (m9:PySem.W.nsIn K mainGlobals "TooMany" = some (some (.ref e7)))
  {nmq qnq:Str} {bsq subq:List Value} {hdq abq:Bool} {snq:List Str} {colq:Option Bool} {ddq:Option Addr} {x0q x1q x2q x3q x5q:Option Value}
  (wqo:K.lookup cq=some (excClassObj nmq qnq cq Nq bsq bl hdq snq subq abq colq ddq x0q x1q x2q x3q x5q "ValueError.__new__"))
  (wqb:bl.contains (.type "ValueError")=true)
  (wqe:bl.contains (.type "BaseException")=true)
  (wqa:bl.contains (.type "AttributeError")=false)
  (wqn:bl.contains (.type "NameError")=false)
  (wqi:PySem.W.findIn K (.ref cq) "__init__" = some (some (.ref fI)))
  (wqk:PySem.W.keepIn K (.ref cq)=true)
  (wqg:PySem.W.findIn K (.ref cq) "__getattribute__" = some (some (.builtin "BaseException.__getattribute__")))
  (wqh:PySem.W.findIn K (.ref cq) "__getattr__" = some none)
  (wqc:PySem.W.findIn K (.ref cq) "__class__" = some (some (.builtin "object.__class__")))
  (wqm:PySem.W.mroIn K cq (.type "object")=some true)
  {nmd qnd:Str} {bsd subd:List Value} {hdd abd:Bool} {snd:List Str} {cold:Option Bool} {ddd:Option Addr} {x0d x1d x2d x3d x5d:Option Value}
  (wdo:K.lookup cD=some (excClassObj nmd qnd cD Nd bsd bd hdd snd subd abd cold ddd x0d x1d x2d x3d x5d "ValueError.__new__"))
  (wdb:bd.contains (.type "ValueError")=true)
  (wde:bd.contains (.type "BaseException")=true)
  (wda:bd.contains (.type "AttributeError")=false)
  (wdn:bd.contains (.type "NameError")=false)
  (wdi:PySem.W.findIn K (.ref cD) "__init__" = some (some (.ref fI)))
  (wdk:PySem.W.keepIn K (.ref cD)=true)
  (wdg:PySem.W.findIn K (.ref cD) "__getattribute__" = some (some (.builtin "BaseException.__getattribute__")))
  (wdh:PySem.W.findIn K (.ref cD) "__getattr__" = some none)
  (wdc:PySem.W.findIn K (.ref cD) "__class__" = some (some (.builtin "object.__class__")))
  (wdm:PySem.W.mroIn K cD (.type "object")=some true)
  (iL:K.lookup fI=some ⟨ocI,odI,.func (PySem.W.fnOf "__init__" "LowwaterError.__init__" (vQ st) (vG st) (jL st) (.ref tI) kVI dcI pmI anI cdI ctI),slI⟩)
  (iC:PySem.W.codeIn K cdI "LowwaterError.__init__" = true)
  (iT:K.lookup tI=some ⟨oct,odt,.seq itt nt,slt⟩)
  (iN:itt.size=1)
  (iF:PySem.W.typeIn K (.ref fI)=some (.type "function"))
  (up:bl.contains (.ref cD)=true)
  (ve:PySem.W.kitOne K (.ref cq) (.type "ValueError")=some true)
  (no:PySem.W.kitAny K (.ref cq) [.ref e1,.ref e2,.ref e3,.ref e4,.ref e5,.ref e6,.ref e7]=some false)
structure Facts(K:tX):Prop where
 f1:FnAt K "greatest_divisor" OB
 f2:FnAt K "added" HI
 f3:FnAt K "multiplied" OA
 f4:FnAt K "divided" JP
 f5:FnAt K "degree" wO
 f6:FnAt K "refuse_bent" uM
 f7:FnAt K "whole_numbers" BG
 f8:FnAt K "rim_row" AL
 f9:FnAt K "level_row" EX
 f10:FnAt K "rim_rows" yZ
 f11:FnAt K "combined" LW
 f12:FnAt K "taken_away" EW
 f13:FnAt K "stages" zQ
 f14:FnAt K "row_worth" AN
 f15:FnAt K "nearest" LT
 f16:FnAt K "spot_of" CV
 f17:FnAt K "shares_over" wN
 f18:FnAt K "broken" wP
 f19:FnAt K "tightest" EV
 f20:FnAt K "way_down" LQ
 f21:FnAt K "low_end" xW
 f22:FnAt K "kept" HG
 f23:FnAt K "over" HF
 f24:FnAt K "reach" BH
 f25:FnAt K "_law_draw" BI
 f26:FnAt K "_law_low" RB
 f27:FnAt K "_law_plus" LR
 f28:FnAt K "_law_put" VN
 f29:FnAt K "_law_sum" LV
 f30:FnAt K "_law_number" AO
 f31:FnAt K "_law_line" LU
 f32:FnAt K "_law_called" AQ
 f33:FnAt K "_law_word" LP
 f34:FnAt K "_law_raised" AM
 f35:FnAt K "_law_word_right" AK
 f36:FnAt K "law" JO
 z1:PySem.W.nsIn K mainGlobals "isinstance" = some none
 z2:PySem.W.nsIn K mainGlobals "len" = some none
 z3:PySem.W.nsIn K mainGlobals "int" = some none
 z4:PySem.W.nsIn K mainGlobals "bool" = some none
 z5:PySem.W.nsIn K mainGlobals "tuple" = some none
 z6:PySem.W.nsIn K mainGlobals "list" = some none
 z7:PySem.W.nsIn K mainGlobals "abs" = some none
 z8:PySem.W.nsIn K mainGlobals "range" = some none
 z9:PySem.W.nsIn K mainGlobals "sum" = some none
 z10:PySem.W.nsIn K mainGlobals "zip" = some none
 z11:PySem.W.nsIn K mainGlobals "sorted" = some none
 z12:PySem.W.nsIn K mainGlobals "max" = some none
 z13:PySem.W.nsIn K mainGlobals "enumerate" = some none
 z14:PySem.W.nsIn K mainGlobals "reversed" = some none
 z15:PySem.W.nsIn K mainGlobals "dict" = some none
 z16:PySem.W.nsIn K mainGlobals "ValueError" = some none
 v1:IntAt K "LONG_BITS" 8000
 n1:PrAt K "NOUGHT" 0 1
 n2:PrAt K "ONE" 1 1
 c8:C8At K zC
end Lw
section
open PySem PySem.W PyProof.Rows
namespace Lw
def view35:Program:={ PySem.Challenge.pw_lowwater_k35_not_straight with main:={ PySem.Challenge.pw_lowwater_k35_not_straight.main with body:=([1,2,3,4,5,6,7,8,9,11,12,13,14,15,16,17,18,20,22,23,24,25,26,27,28,29,30,31,32,33,34,35,36,37,38,39,40,41,43,45,46,47,48,49,50,51,52,53,54,55,56]:List Nat).filterMap λi=>PySem.Challenge.pw_lowwater_k35_not_straight.main.body[i]? } }
end Lw
local macro_rules | `(tactic| o_head $H)=>`(tactic| refine holds_open (q:=Lw.view35) (loose:=[Str.ofString "LowwaterError"]) (Xt:=λs=>xlAt Lw.view35 [] s&&recOk (RowW.records (PySem.Challenge.rw_lowwater_k35_not_straight).row.toRowW) s) (XP:=XL Lw.view35 []) (Yf:=Hook.obs $H) (Ya:=Hook.val $H) (YP:=Hook.says $H) (N:=6586) (λw=>by unfold openEnds fencedOpening topFrom;rw[PySem.W.Fast.te10274390034422433532,PySem.W.Fast.te14082659384304107361,PySem.W.Fast.te1435165496053646825,PySem.W.Fast.te14289696077712309145,PySem.W.Fast.te8920871248978507458,PySem.W.Fast.te14364793385576792824,PySem.W.Fast.te4187177175401517315];kernel_rfl) (Hook.of $H) (Hook.keeps $H) (λs e=>xl_of s (Bool.and_eq_true_iff.mp e).1) XL.keeps (by rfl) (by rfl) (by rfl) (λs e=>recFacts_of (Bool.and_eq_true_iff.mp e).2) (by rfl) (by first | assumption | decide +kernel) (by decide +kernel) ⟨rfl,rfl,rfl,rfl,rfl,by decide +kernel⟩ ?hw ?hc)
set_option maxRecDepth 100000 in
set_option maxHeartbeats 0 in
theorem Lw.head(hn:∀(K:Params->Frag) (YP:World->Heap->Prop) (d:DefRec),(∀p,Lw.Facts (K p))->(∀w h,YP w h->(K w.params).In h)->d.params.defaults=[]->d.name="law"->WalkO Lw.view35 [Str.ofString "LowwaterError"] (XL Lw.view35 []) YP PySem.Challenge.rw_lowwater_k35_not_straight.row.toRowW d [] λf vs=>PySem.call f vs):PySem.Challenge.rw_lowwater_k35_not_straight.Holds:=by
 w_on;o_law;k_head;(case hw=>w_witness2)
 k_fill
 refine hn _ _ _ ?f (λw h Y=>kIn_of Y) rfl rfl;case f=>
  intro p;constructor;case c8=>
   refine' .mk ?m1 ?m2 ?m3 ?m4 ?m5 ?m6 ?m7 ?m8 ?m9 ?wqo ?wqb ?wqe ?wqa ?wqn ?wqi ?wqk ?wqg ?wqh ?wqc ?wqm ?wdo ?wdb ?wde ?wda ?wdn ?wdi ?wdk ?wdg ?wdh ?wdc ?wdm ?iL ?iC ?iT ?iN ?iF ?up ?ve ?no
   (case m1=>first | k_is | rfl | decide +kernel)
   (case m2=>first | k_is | rfl | decide +kernel)
   (case m3=>first | k_is | rfl | decide +kernel)
   (case m4=>first | k_is | rfl | decide +kernel)
   (case m5=>first | k_is | rfl | decide +kernel)
   (case m6=>first | k_is | rfl | decide +kernel)
   (case m7=>first | k_is | rfl | decide +kernel)
   (case m8=>first | k_is | rfl | decide +kernel)
   (case m9=>first | k_is | rfl | decide +kernel)
   (case wqo=>first | k_is | rfl | decide +kernel)
   (case wqb=>first | k_is | rfl | decide +kernel)
   (case wqe=>first | k_is | rfl | decide +kernel)
   (case wqa=>first | k_is | rfl | decide +kernel)
   (case wqn=>first | k_is | rfl | decide +kernel)
   (case wqi=>first | k_is | rfl | decide +kernel)
   (case wqk=>first | k_is | rfl | decide +kernel)
   (case wqg=>first | k_is | rfl | decide +kernel)
   (case wqh=>first | k_is | rfl | decide +kernel)
   (case wqc=>first | k_is | rfl | decide +kernel)
   (case wqm=>first | k_is | rfl | decide +kernel)
   (case wdo=>first | k_is | rfl | decide +kernel)
   (case wdb=>first | k_is | rfl | decide +kernel)
   (case wde=>first | k_is | rfl | decide +kernel)
   (case wda=>first | k_is | rfl | decide +kernel)
   (case wdn=>first | k_is | rfl | decide +kernel)
   (case wdi=>first | k_is | rfl | decide +kernel)
   (case wdk=>first | k_is | rfl | decide +kernel)
   (case wdg=>first | k_is | rfl | decide +kernel)
   (case wdh=>first | k_is | rfl | decide +kernel)
   (case wdc=>first | k_is | rfl | decide +kernel)
   (case wdm=>first | k_is | rfl | decide +kernel)
   (case iL=>first | k_is | rfl | decide +kernel)
   (case iC=>first | k_is | rfl | decide +kernel)
   (case iT=>first | k_is | rfl | decide +kernel)
   (case iN=>first | k_is | rfl | decide +kernel)
   (case iF=>first | k_is | rfl | decide +kernel)
   (case up=>first | k_is | rfl | decide +kernel)
   (case ve=>first | k_is | rfl | decide +kernel)
   (case no=>first | k_is | rfl | decide +kernel)
  all_goals first | (refine' .mk ?a ?l ?c ?k;(case a=>k_is);(case l=>k_is);(case c=>k_is);(case k=>k_is)) | (refine' .mk ?a ?l;(case a=>k_is);(case l=>k_is)) | (refine' .mk ?v;(case v=>k_is)) | k_is
end
namespace L2
open PySem PySem.Spec PyProof.Rows
abbrev Key:=Sum Int Str
def DI:Key->Value->Bool
 | .inl k,v=>Value.isInt k v
 | .inr x,v=>Value.isStrOf x v
def keyH(w:World):Key->Int
 | .inl k=>hashInt k
 | .inr x=>hashStr w x
theorem qE:∀{k:Key} {v:Value},DI k v=true->(∃i t,k=Sum.inl i/\v=Value.int i t)∨(∃x t,k=Sum.inr x/\v=Value.str x t)
 | .inl i,v,h=>by
  obtain⟨t,e⟩:=Value.isInt_shape (k:=i) (v:=v) h;exact .inl ⟨i,t,rfl,e⟩
 | .inr x,v,h=>by
  obtain⟨t,e⟩:=Value.isStrOf_shape (x:=x) (v:=v) h;exact .inr ⟨x,t,rfl,e⟩
theorem PF(i:Int)(t:Tok):DI (.inl i) (.int i t)=true:=by simp [DI,Value.isInt]
theorem PD(x:Str)(t:Tok):DI (.inr x) (.str x t)=true:=by simp [DI,Value.isStrOf]
theorem key_ll(a b:Int):decide ((Sum.inl a:Key)=Sum.inl b)=(a==b):=by
 by_cases e:a=b
 ·subst e;simp
 ·have h:¬(Sum.inl a:Key)=Sum.inl b:=λq=>e (Sum.inl.inj q);rw[nA h];exact(beq_eq_false_iff_ne.mpr e).symm
theorem key_rr(a b:Str):decide ((Sum.inr a:Key)=Sum.inr b)=decide (a=b):=by
 by_cases e:a=b
 ·subst e;simp
 ·have h:¬(Sum.inr a:Key)=Sum.inr b:=λq=>e (Sum.inr.inj q);rw[nA h,nA e]
theorem key_lr(a:Int)(b:Str):decide ((Sum.inl a:Key)=Sum.inr b)=false:=nA (λq=>nomatch q)
theorem key_rl(a:Str)(b:Int):decide ((Sum.inr a:Key)=Sum.inl b)=false:=nA (λq=>nomatch q)
def qD(prog:Program)(w:World):PySem.KeyKind prog w Key where
 is:=DI
 hash:=keyH w
 inj:=λv a b ha hb=>by
  rcases qE ha with⟨i,t,rfl,rfl⟩ | ⟨x,t,rfl,rfl⟩
  ·rcases qE hb with⟨j,u,rfl,e⟩ | ⟨y,u,rfl,e⟩
   ·injection e with e1 _;rw[e1]
   ·exact nomatch e
  ·rcases qE hb with⟨j,u,rfl,e⟩ | ⟨y,u,rfl,e⟩
   ·exact nomatch e
   ·injection e with e1 _;rw[e1]
 byValue:=λk v h=>by
  rcases qE h with⟨i,t,rfl,rfl⟩ | ⟨x,t,rfl,rfl⟩<;>rfl
 pyHash:=λhv h=>by
  rcases qE hv with⟨i,t,rfl,rfl⟩ | ⟨x,t,rfl,rfl⟩
  ·exact wpAny_pyHash_int h
  ·exact wpAny_pyHash_str h
 eqBool:=λhu hv h=>by
  rcases qE hu with⟨i,t,rfl,rfl⟩ | ⟨x,t,rfl,rfl⟩
  ·rcases qE hv with⟨j,u,rfl,rfl⟩ | ⟨y,u,rfl,rfl⟩
   ·rw[key_ll]at h;exact wpAny_eqBool_int h
   ·rw[key_lr]at h;exact SeqAt.EqAt.int_str i t y u _ _ _ _ h
  ·rcases qE hv with⟨j,u,rfl,rfl⟩ | ⟨y,u,rfl,rfl⟩
   ·rw[key_rl]at h;exact SeqAt.EqAt.str_int x t j u _ _ _ _ h
   ·rw[key_rr]at h;exact wpAny_eqBool_str h
 «strs» :=λk x t v h=>by
  rcases qE h with⟨i,u,rfl,e⟩ | ⟨y,u,rfl,e⟩
  ·exact nomatch e
  ·injection e with e1 _
   subst e1;cases v<;>rfl
theorem HY(prog:Program)(w:World)(i:Int)(t:Tok):(qD prog w).is (.inl i) (.int i t)=true:=PF i t
theorem HX(prog:Program)(w:World)(x:Str)(t:Tok):(qD prog w).is (.inr x) (.str x t)=true:=PD x t
inductive V where
 | non | bl (b:Bool) | int (i:Int) | str (x:Str) | byt (b:Array UInt8) | flt (b:UInt64) | ref (a:Addr) | ty (n:String)
 deriving DecidableEq
def RelV:V->Value->Prop
 | .non,u=>u=Value.none
 | .bl b,u=>u=Value.bool b
 | .int i,u=>∃t,u=Value.int i t
 | .str x,u=>∃t,u=Value.str x t
 | .byt b,u=>∃t,u=Value.bytes b t
 | .flt b,u=>∃t,u=Value.float b t
 | .ref a,u=>u=Value.ref a
 | .ty n,u=>u=Value.type n
abbrev Vals:List V->List Value->Prop:=Paired RelV
theorem Vals.length{xs:List V}{us:List Value}(r:Vals xs us):xs.length=us.length:=Paired.length r
theorem Vals.get:∀{xs:List V} {us:List Value} {i:Nat} {x:V},Vals xs us->xs[i]? = some x->∃u,us[i]? = some u/\RelV x u
 | _,_,_,_,.nil,e=>by simp at e
 | _,_,0,_,.cons r _,e=>by simp at e;subst e;exact⟨_,rfl,r⟩
 | _,_,i+1,x,.cons _ t,e=>by
  obtain⟨u,h1,h2⟩:=Vals.get (i:=i) (x:=x) t (by simpa using e);exact⟨u,by simpa using h1,h2⟩
theorem Vals.set{x:V}{u:Value}(r:RelV x u):∀{xs:List V} {us:List Value} (i:Nat),Vals xs us->Vals (xs.set i x) (us.set i u)
 | _,_,_,.nil=>.nil
 | _,_,0,.cons _ t=>.cons r t
 | _,_,i+1,.cons q t=>.cons q (Vals.set r i t)
theorem Vals.append:∀{xs ys:List V} {us ws:List Value},Vals xs us->Vals ys ws->Vals (xs++ys) (us++ws)
 | _,_,_,_,.nil,s=>s
 | _,_,_,_,.cons r t,s=>.cons r (Vals.append t s)
theorem Vals.take:∀{xs:List V} {us:List Value} (n:Nat),Vals xs us->Vals (xs.take n) (us.take n)
 | _,_,0,_=>.nil
 | _,_,_+1,.nil=>.nil
 | _,_,n+1,.cons r t=>.cons r (Vals.take n t)
theorem Vals.drop:∀{xs:List V} {us:List Value} (n:Nat),Vals xs us->Vals (xs.drop n) (us.drop n)
 | _,_,0,r=>r
 | _,_,_+1,.nil=>.nil
 | _,_,n+1,.cons _ t=>Vals.drop n t
def RelO:Option V->Option Value->Prop
 | some v,some u=>RelV v u
 | none,none=>True
 | _,_=>False
def KV{κ:Type} :List (κ×V)->List (κ×Value)->Prop:=Paired λ(p:κ×V) (q:κ×Value)=>p.1=q.1/\RelV p.2 q.2
def kV:Key->V
 | .inl i=>.int i
 | .inr x=>.str x
inductive HO where
 | lst (xs:List V)
 | tup (xs:List V)
 | dK (ag:List (Key×V)) | dT (ag:List (List Key×V))
 | set (S:Int->Bool) (n:Nat)
 | ins (C dx:Addr) (fs:List (Str×V))
 | own (x:Addr)
 | xd (fs:List (Str×V))
 | met (f x:Addr)
 | rng (lo hi:Int)
 | frz (o:Obj) (u:HO)
 | tbl (ps:Array Value)
 | ext (φ:Heap->Prop)
abbrev Hp:=Addr->Option HO
def upd(H:Hp)(a:Addr)(o:HO):Hp:=λb=>if b=a then some o else H b
theorem jF{H:Hp}{a:Addr}{o:HO} :upd H a o a=some o:=by unfold upd;rw[tW rfl]
theorem jH{H:Hp}{a b:Addr}{o:HO}(h:b≠a):upd H a o b=H b:=by unfold upd;rw[tV h]
theorem YO{H:Hp}{a b:Addr}{o u:HO}(h:H a=some o)(h':H b=some u)(d:o≠u):a≠b:=by
 intro e;subst e;rw[h]at h';exact d (Option.some.inj h')
theorem jX{H:Hp}{a b:Addr}{o:HO}(h:H a=some o)(h':H b=none):a≠b:=by
 intro e;subst e;rw[h]at h';cases h'
def NoD(h:Heap)(a:Addr):Prop:=∀o,h.get? a=some o->o.dict=none
theorem NoD.of{h:Heap}{a:Addr}{o:Obj}(e:h.get? a=some o)(d:o.dict=none):NoD h a:=λo' e'=>by rw[e]at e';cases e';exact d
section
variable(P:Program)(w:World)
def ObjOk(H:Hp)(h:Heap)(a:Addr):HO->Prop
 | .lst xs=>xs.length<=sizeLine/\∃(its:List Value) (n:Nat),Vals xs its/\h.get? a=some { cls:=.type "list",data:=.seq its.toArray n }
 | .tup xs=>xs.length<=sizeLine/\∃its:List Value,Vals xs its/\IsTup h a its.toArray/\NoD h a
 | .dK ag=>ag.length<=sizeLine/\(a==sysModules)=false/\∃vs,KV ag vs/\h.DictOf (qD P w) a vs
 | .dT ag=>ag.length<=sizeLine/\(a==sysModules)=false/\∃xs:List (List Key×Addr×Value),
   Paired (λ(p:List Key×V) (q:List Key×Addr×Value)=>p.1=q.1/\H q.2.1=some (.tup (p.1.map kV))/\RelV p.2 q.2.2) ag xs/\
   ∃o es ep,h.get? a=some o/\o.ExactDict/\o.data=.dict es ep/\es.toList=xs.map (entryOfKey (tupleKind (qD P w)))/\(xs.map (·.1)).Nodup
 | .set S n=>h.SetOf (intKind P w) a S n
 | .ins C dx fs=>H dx=some (.own a)/\fs.length<=1000/\dx≠a/\h.get? a=some (PySem.W.instObj C dx)/\
   ∃mA,h.Ns1 dx mA/\(∀f,RelO (fs.lookup f) (mA f))/\PySem.Within mA (fs.map (·.1))
 | .own _=>∃o,h.get? a=some o
 | .xd fs=>∃mA,h.Ns1 a mA/\∀f,RelO (fs.lookup f) (mA f)
 | .rng lo hi=>∃t u v,h.get? a=some { cls:=.type "range",data:=.fields #[.int lo t,.int hi u,.int 1 v] }
 | .frz o u=>h.get? a=some o/\ObjOk H h a u
 | .tbl ps=>h.get? a=some { cls:=.none,data:=.fields ps }
 | .met f x=>h.get? a=some (PySem.W.methodObj (.ref f) (.ref x))
 | .ext φ=>φ h/\(∃o,h.get? a=some o)/\∀h1 h2:Heap,φ h1->(∀o,h1.get? a=some o->h2.get? a=some o)->φ h2
def HOk(H:Hp)(h:Heap):Prop:=∀a o,H a=some o->ObjOk P w H h a o
end
section
variable{P:Program}{w:World}{H H':Hp}{h h':Heap}{a:Addr}{o:HO}
theorem ObjOk.lt(x:ObjOk P w H h a o):a<h.objs.size:=by
 cases o with
 | lst xs=>obtain⟨_,_,_,_,e⟩:=x;exact nX e
 | tup xs=>obtain⟨_,_,_,p⟩:=x;exact p.1.lt
 | dK ag=>obtain⟨_,_,_,_,o,_,_,e,_⟩:=x;exact nX e
 | dT ag=>obtain⟨_,_,_,_,o,_,_,e,_⟩:=x;exact nX e
 | set S n=>obtain⟨o,_,_,_,e,_⟩:=x;exact nX e
 | ins C dx fs=>obtain⟨_,_,_,e,_⟩:=x;exact nX e
 | own y=>obtain⟨_,e⟩:=x;exact nX e
 | xd fs=>obtain⟨_,⟨_,_,_,e,_⟩,_⟩:=x;exact nX e
 | rng lo hi=>obtain⟨_,_,_,e⟩:=x;exact nX e
 | frz ob u=>obtain⟨e,_⟩:=x;exact nX e
 | tbl ps=>exact nX (show h.get? a=some _ from x)
 | met f y=>exact nX (show h.get? a=some _ from x)
 | ext φ=>obtain⟨_,⟨_,e⟩,_⟩:=x;exact nX e
theorem Paired.mapP{α β:Type}{F G:α->β->Prop} :∀{l₁:List α} {l₂:List β},Paired F l₁ l₂->(∀a b,F a b->G a b)->Paired G l₁ l₂
 | _,_,.nil,_=>.nil
 | _,_,.cons r t,f=>.cons (f _ _ r) (Paired.mapP t f)
theorem ObjOk.stay(x:ObjOk P w H h a o)(k:∀b u,(b=a∨H b=some (.own a))->h.get? b=some u->h'.get? b=some u)
  (ho:∀b,H b=some (.own a)->H' b=some (.own a)) (ht:∀b xs,H b=some (.tup xs)->H' b=some (.tup xs)):ObjOk P w H' h' a o:=by
 induction o with
 | lst xs=>obtain⟨z,its,n,r,e⟩:=x;exact⟨z,its,n,r,k _ _ (.inl rfl) e⟩
 | tup xs=>obtain⟨z,its,r,⟨ob,e,c⟩,nd⟩:=x;exact⟨z,its,r,⟨ob,k _ _ (.inl rfl) e,c⟩,.of (k _ _ (.inl rfl) e) (nd _ e)⟩
 | dK ag=>obtain⟨z,y,vs,r,ob,es,ep,e,c⟩:=x;exact⟨z,y,vs,r,ob,es,ep,k _ _ (.inl rfl) e,c⟩
 | dT ag=>
  obtain⟨z,y,xs,r,ob,es,ep,e,c⟩:=x;exact⟨z,y,xs,Paired.mapP r λp q z=>⟨z.1,ht _ _ z.2.1,z.2.2⟩,ob,es,ep,k _ _ (.inl rfl) e,c⟩
 | set S n=>obtain⟨ob,es,ep,t,e,c⟩:=x;exact⟨ob,es,ep,t,k _ _ (.inl rfl) e,c⟩
 | ins C dx fs=>
  obtain⟨d,z,ne,e,mA,⟨od,es,ep,e2,c⟩,r⟩:=x;exact⟨ho _ d,z,ne,k _ _ (.inl rfl) e,mA,⟨od,es,ep,k _ _ (.inr d) e2,c⟩,r⟩
 | own y=>obtain⟨ob,e⟩:=x;exact⟨ob,k _ _ (.inl rfl) e⟩
 | xd fs=>obtain⟨mA,⟨od,es,ep,e,c⟩,r⟩:=x;exact⟨mA,⟨od,es,ep,k _ _ (.inl rfl) e,c⟩,r⟩
 | rng lo hi=>obtain⟨t,u,v,e⟩:=x;exact⟨t,u,v,k _ _ (.inl rfl) e⟩
 | frz ob u ih=>obtain⟨e,q⟩:=x;exact⟨k _ _ (.inl rfl) e,ih q⟩
 | tbl ps=>
  have e:h.get? a=some { cls:=.none,data:=.fields ps } :=x;show h'.get? a=some { cls:=.none,data:=.fields ps };exact k a _ (.inl rfl) e
 | met f y=>
  have e:h.get? a=some (PySem.W.methodObj (.ref f) (.ref y)):=x;show h'.get? a=some (PySem.W.methodObj (.ref f) (.ref y));exact k a _ (.inl rfl) e
 | ext φ=>obtain⟨p,⟨o,e⟩,st⟩:=x;exact⟨st _ _ p λo q=>k _ _ (.inl rfl) q,⟨o,k _ _ (.inl rfl) e⟩,st⟩
theorem HOk.lt(x:HOk P w H h)(e:H a=some o):a<h.objs.size:=(x a o e).lt
theorem HOk.fresh(x:HOk P w H h)(e:h.objs.size<=a):H a=none:=by
 cases q:H a with
 | none=>rfl
 | some u=>exact absurd (mB (x.lt q) e) (nQ _)
theorem HOk.kept(x:HOk P w H h)(k:∀b u,h.get? b=some u->h'.get? b=some u):HOk P w H h':=λa o e=>
 (x a o e).stay (λb u _ q=>k b u q) (λ_ q=>q) λ_ _ q=>q
theorem HOk.laid(x:HOk P w H h)(k:∀b u,h.get? b=some u->h'.get? b=some u)(hp:h.objs.size<=a)(new:ObjOk P w (upd H a o) h' a o):HOk P w (upd H a o) h':=λb u e=>by
 have hn:=x.fresh hp;by_cases hb:b=a
 ·subst hb;rw[jF]at e;cases e;exact new
 ·rw[jH hb]at e;exact(x b u e).stay (λc v _ q=>k c v q) (λc q=>by rw[jH (jX q hn)];exact q) λc xs q=>by rw[jH (jX q hn)];exact q
end
def Rd(H:Hp)(a:Addr)(u:HO):Prop:=H a=some u∨∃o,H a=some (.frz o u)
theorem Rd.ok{P:Program}{w:World}{H:Hp}{h:Heap}{a:Addr}{u:HO}(r:Rd H a u)(x:HOk P w H h):ObjOk P w H h a u:=by
 rcases r with r | ⟨o,r⟩
 ·exact x a u r
 ·obtain⟨_,q⟩:=x a _ r;exact q
def Mut:Option HO->Prop
 | some (.lst _)=>True
 | some (.dK _)=>True
 | some (.dT _)=>True
 | some (.set _ _)=>True
 | some (.ins _ _ _)=>True
 | some (.ext _)=>True
 | _=>False
section
variable{P:Program}{w:World}{H:Hp}{h h':Heap}{x e:Addr}{o':HO}
theorem HOk.write(ok:HOk P w H h)(mu:Mut (H x))(he:e=x∨H e=some (.own x))(k:∀b u,b≠e->h.get? b=some u->h'.get? b=some u)(heo:∃u,h'.get? e=some u)
  (new:ObjOk P w (upd H x o') h' x o'):HOk P w (upd H x o') h':=λb u q=>by
 have nown:∀c y,H c=some (.own y)->c≠x:=λc y r z=>by subst z;rw[r]at mu;exact mu
 have ntup:∀c xs,H c=some (.tup xs)->c≠x:=λc xs r z=>by subst z;rw[r]at mu;exact mu
 by_cases hb:b=x
 ·subst hb;rw[jF]at q;cases q;exact new
 ·rw[jH hb]at q;by_cases hbe:b=e
  ·have q':H b=some (.own x):=by
    rcases he with z | z
    ·exact absurd (hbe.trans z) hb
    ·rw[hbe];exact z
   rw[q]at q';cases q';obtain⟨v,hv⟩:=heo;exact⟨v,by rw[hbe];exact hv⟩
  ·refine(ok b u q).stay (λc v hc r=>k c v ?_ r) (λc r=>by rw[jH (nown c b r)];exact r) λc xs r=>by rw[jH (ntup c xs r)];exact r
   rcases hc with rfl | hc
   ·exact hbe
   ·rintro rfl;rcases he with z | z
    ·exact nown c b hc z
    ·rw[hc]at z;cases z;exact hb rfl
end
structure Un(fs ex:List Addr)(H H':Hp)(h h':Heap):Prop where
 keep:∀b o,h.get? b=some o->H b=none->b∉fs->b∉ex->h'.get? b=some o
 slot:∀b o,h.get? b=some o->H b=none->b∈fs->b∉ex->∃sl,h'.get? b=some { o with slots:=sl }
 free:∀b o,h.get? b=some o->H b=none->b∉ex->H' b=none
 there:∀b o,h.get? b=some o->b∉ex->∃o',h'.get? b=some o'
 tups:∀b xs,H b=some (.tup xs)->H' b=some (.tup xs)
 frzs:∀b o u,H b=some (.frz o u)->H' b=some (.frz o u)
 tbls:∀b ps,H b=some (.tbl ps)->∃more,H' b=some (.tbl (ps++more))
section
variable{fs fs' ex ex':List Addr}{H H1 H2:Hp}{h h1 h2 h':Heap}{a x e:Addr}{o:HO}
theorem Un.any(u:Un fs ex H H1 h h1){b:Addr}{ob:Obj}(q:h.get? b=some ob)(n:H b=none)(hx:b∉ex):∃sl,h1.get? b=some { ob with slots:=sl } :=by
 by_cases hb:b∈fs
 ·exact u.slot b ob q n hb hx
 ·exact⟨ob.slots,u.keep b ob q n hb hx⟩
theorem Un.kept(k:∀b u,h.get? b=some u->h'.get? b=some u):Un fs ex H H h h':=
 ⟨λb ob q _ _ _=>k b ob q,λb ob q _ _ _=>⟨ob.slots,k b ob q⟩,λ_ _ _ n _=>n,λb ob q _=>⟨ob,k b ob q⟩,λ_ _ q=>q,λ_ _ _ q=>q,λ_ ps q=>⟨#[],by rw[q];simp⟩⟩
theorem Un.refl:Un fs ex H H h h:=Un.kept λ_ _ q=>q
theorem Un.laid(k:∀b u,h.get? b=some u->h'.get? b=some u)(hp:h.objs.size<=a)(hn:H a=none):Un fs ex H (upd H a o) h h' where
 keep:=λb u q _ _ _=>k b u q
 slot:=λb u q _ _ _=>⟨u.slots,k b u q⟩
 free:=λb u q n _=>by rw[jH (nZ (mB (nX q) hp))];exact n
 there:=λb u q _=>⟨u,k b u q⟩
 tups:=λb xs q=>by rw[jH (jX q hn)];exact q
 frzs:=λb u xs q=>by rw[jH (jX q hn)];exact q
 tbls:=λb ps q=>⟨#[],by rw[jH (jX q hn),q];simp⟩
theorem Un.write(mu:Mut (H x))(he:e=x∨H e=some (.own x))(k:∀b u,b≠e->h.get? b=some u->h'.get? b=some u)(heo:∃u,h'.get? e=some u):Un fs ex H (upd H x o) h h':=by
 have hx:∀b,H b=none->b≠x:=λb n z=>by subst z;rw[n]at mu;exact mu
 have hb:∀b,H b=none->b≠e:=λb n z=>by
  subst z;rcases he with r | r
  ·exact hx b n r
  ·rw[n]at r;cases r
 have hm:∀b u,H b=some u->¬Mut (some u)->b≠x:=λb u q nm z=>by subst z;rw[q]at mu;exact nm mu
 refine⟨λb u q n _ _=>k b u (hb b n) q,λb u q n _ _=>⟨u.slots,k b u (hb b n) q⟩,λb u q n _=>by rw[jH (hx b n)];exact n,λb u q _=>?_,
  λb xs q=>by rw[jH (hm b _ q λz=>z)];exact q,λb u xs q=>by rw[jH (hm b _ q λz=>z)];exact q,λb ps q=>⟨#[],by rw[jH (hm b _ q λz=>z),q];simp⟩⟩
 by_cases hbe:b=e
 ·subst hbe;exact heo
 ·exact⟨u,k b u hbe q⟩
end
def trk(h:Heap)(H:Hp):List Addr:=(List.range h.objs.size).filter λa=>(H a).isSome
def FR(h:Heap)(H:Hp):Heap:=PySem.W.hideAll h (trk h H)
theorem PJ(h:Heap)(H:Hp):(FR h H).objs.size=h.objs.size:=PySem.W.hideAll_size _ _
theorem TN{h:Heap}{H:Hp}{b:Addr}{o:Obj}(e:h.get? b=some o)(n:H b=none):(FR h H).get? b=some o:=
 PySem.W.hideAll_get _ e λhm=>by
  have q:(H b).isSome=true:=(List.mem_filter.mp hm).2;rw[n]at q;simp at q
theorem WP{h:Heap}{H:Hp}{b:Addr}{o:Obj}(e:(FR h H).get? b=some o):h.get? b=some o/\H b=none:=by
 have e':h.get? b=some o:=PySem.W.of_hideAll (trk h H) e;refine⟨e', ?_⟩;cases q:H b with
 | none=>rfl
 | some x=>
  have hm:b∈trk h H:=List.mem_filter.mpr ⟨nI.mpr (nX e'),by simp [q]⟩;have z:(FR h H).get? b=none:=PySem.W.hideAll_none (trk h H) hm;rw[z]at e;cases e
def yT(g h:Heap)(L:Addr):List (Addr×Obj):=(List.range h.objs.size).filterMap λa=>if a=L∨(g.get? a).isSome=true then none else(h.get? a).map λo=>(a,o)
theorem zI{g h:Heap}{L a:Addr}{o:Obj}(h1:a≠L)(h2:g.get? a=none)(h3:h.get? a=some o):(a,o)∈yT g h L:=
 List.mem_filterMap.mpr ⟨a,nI.mpr (nX h3),by simp [h1,h2,h3]⟩
theorem BN{g h:Heap}{L:Addr}{p:Addr×Obj}(hp:p∈yT g h L):p.1≠L/\g.get? p.1=none/\h.get? p.1=some p.2:=by
 obtain⟨b,_,e⟩:=List.mem_filterMap.mp hp;split at e
 ·cases e
 ·rename_i hn;cases q:h.get? b with
  | none=>rw[q]at e;simp at e
  | some u=>
   rw[q]at e;simp only[Option.map_some,Option.some.injEq]at e;subst e;refine⟨λz=>hn (.inl z), ?_,q⟩;show g.get? b=none;cases r:g.get? b with
   | none=>rfl
   | some v=>exact(hn (.inr (by simp [r]))).elim
theorem SO{g h:Heap}{L:Addr} :News g L h (yT g h L):=λp hp=>let ⟨a,b,c⟩:=BN hp;⟨c,a,b⟩
structure Mod(K:tX)(mg:Str->Option Value)(base:Heap):Prop where
 kin:K.In base
 glob:base.Ns mainGlobals mg
 blt:∃mb,base.Ns builtinsNs mb/\∀x:Str,x≠"__name__"->mb x=bootBuiltins x
 nolimit:base.NoLimit
structure Cx where
 prog:Program
 w:World
 K:tX
 mg:Str->Option Value
 base:Heap
 A:Around
 N:List Str
 s₀:Shared
 H₀:Hp
 env:Env
 outer:List Env
 stack:List Env
 ex:List Addr
 fn:Str->Bool
 calm:Bool
 pn:List (Addr×Obj)
 xe:Value->Shared->Prop
def frs(l:List Env):List Addr:=l.filterMap (·.frame)
abbrev Cx.fs(X:Cx):List Addr:=frs X.outer
def Vis(sc:Scope)(x:Str):Prop:=sc.names.lookup x=some .local∨sc.names.lookup x=some .cell∨sc.names.lookup x=some .free
def Loc(sc:Scope)(x:Str):Prop:=sc.names.lookup x=some .local∨sc.names.lookup x=some .cell
def Look(env:Env)(h:Heap)(m:Str->Option Value)(x:Str)(u:Value):Prop:=
 (env.kindOf x=some .local/\m x=some u)∨((env.kindOf x=some .cell∨env.kindOf x=some .free)/\∃c,env.cells.lookup x=some c/\h.IsCell c (some u))
structure Cx.Ok(X:Cx):Prop where
 mod:Mod X.K X.mg X.base
 kind:X.env.scope.kind=.function
 glob:X.env.globals=mainGlobals
 blt:X.env.builtins=builtinsNs
 above:X.s₀.heap.objs.size<=X.env.locals
 inj:∀x y c,X.env.cells.lookup x=some c->X.env.cells.lookup y=some c->x=y
 has:∀x,(X.env.kindOf x=some .cell∨X.env.kindOf x=some .free)->∃c,X.env.cells.lookup x=some c
 cab:∀x c,X.fn x=true->X.env.cells.lookup x=some c->X.s₀.heap.objs.size<=c
 hd:X.calm=true->X.A.handled=none
 frames:X.A.frames=some X.stack
 stk:X.stack=X.outer∨(X.stack=X.env::X.outer/\X.env.frame=some X.env.locals)
 exf:∀b∈X.ex,b≠X.env.locals/\∀x c,X.env.cells.lookup x=some c->c≠b
 bs:∀b o,X.base.get? b=some o->X.s₀.heap.get? b=some o/\X.H₀ b=none
 bsz:X.base.objs.size<=X.s₀.heap.objs.size
 noex:∀b o,X.base.get? b=some o->b∉X.ex
 exfs:∀b∈X.ex,b∉X.fs
 funs:X.s₀.heap.FunFrames X.base X.outer
 frf:∀b∈X.fs,X.H₀ b=none
structure Inv(X:Cx)(ac:List (Addr×Obj))(σ:List (Option V))(H:Hp)(s:Shared):Prop where
 ok:X.Ok
 os:s.os=X.s₀.os
 bare:AllBare s.gens
 base:Un X.fs X.ex X.H₀ H X.s₀.heap s.heap
 loc:∃m,s.heap.Ns X.env.locals m/\∀(i:Nat) (x:Str) (v:V),X.N[i]? = some x->σ[i]? = some (some v)->Vis X.env.scope x->∃u,RelV v u/\Look X.env s.heap m x u
 cell:∀x c,X.env.cells.lookup x=some c->∃v,s.heap.IsCell c v
 free:H X.env.locals=none
 freeC:∀x c,X.env.cells.lookup x=some c->H c=none
 pin:∀p∈X.pn++ac,s.heap.get? p.1=some p.2/\H p.1=none/\p.1≠X.env.locals/\p.1∉X.fs/\∀v,p.2.data≠.cell v
 hok:HOk X.prog X.w H s.heap
 len:σ.length=X.N.length
section
variable{X:Cx}{ac:List (Addr×Obj)}{σ:List (Option V)}{H H':Hp}{s:Shared}{h':Heap}
theorem Cx.Ok.nofr(ok:X.Ok){b:Addr}{o:Obj}(e:X.base.get? b=some o):b∉X.fs:=λhb=>by
 have:=(ok.funs.mem hb).1;rw[e]at this;cases this
theorem Inv.bs(I:Inv X ac σ H s):∀b o,X.base.get? b=some o->s.heap.get? b=some o/\H b=none:=λb o e=>
 ⟨I.base.keep b o (I.ok.bs b o e).1 (I.ok.bs b o e).2 (I.ok.nofr e) (I.ok.noex b o e),I.base.free b o (I.ok.bs b o e).1 (I.ok.bs b o e).2 (I.ok.noex b o e)⟩
theorem Inv.bk(I:Inv X ac σ H s):∀b o,X.base.get? b=some o->s.heap.get? b=some o:=λb o e=>(I.bs b o e).1
theorem Inv.mod(I:Inv X ac σ H s):Mod X.K X.mg X.base:=I.ok.mod
theorem Inv.kIn(I:Inv X ac σ H s):X.K.In s.heap:=I.ok.mod.kin.keeps I.bk
theorem Inv.fr(I:Inv X ac σ H s):∃m,Fr X.base X.env.locals s.heap m:=
 let ⟨m,hn,_⟩:=I.loc
 ⟨m,hn,I.bk,nY I.ok.bsz I.ok.above⟩
theorem Inv.lt(I:Inv X ac σ H s):X.env.locals<s.heap.objs.size:=let ⟨_,hn,_⟩:=I.loc;hn.lt
theorem Inv.sz(I:Inv X ac σ H s):X.s₀.heap.objs.size<=s.heap.objs.size:=nY I.ok.above (Nat.le_of_lt I.lt)
theorem Inv.nofs(I:Inv X ac σ H s){a:Addr}(h:s.heap.objs.size<=a):a∉X.fs:=λhb=>by
 obtain⟨_,o,ho,_⟩:=I.ok.funs.mem hb;exact absurd (mB (nX ho) (nY I.sz h)) (nQ _)
theorem Inv.cne(I:Inv X ac σ H s):∀x c,X.env.cells.lookup x=some c->c≠X.env.locals:=λx c e z=>by
 obtain⟨v,o,ho,hd⟩:=I.cell x c e;obtain⟨m,⟨o',es,ep,ho',hd',_⟩,_⟩:=I.loc;rw[z,ho']at ho;cases ho;rw[hd']at hd;cases hd
theorem Inv.funs(I:Inv X ac σ H s):s.heap.FunFrames X.base X.outer:=by
 have all:∀(l:List Env),(∀b∈frs l,b∈X.fs)->X.s₀.heap.FunFrames X.base l->s.heap.FunFrames X.base l:=by
  intro l;induction l with
  | nil=>intro _ _;trivial
  | cons env r ih=>
   intro hs hl;obtain⟨hk,⟨L,o,hf,hn,ho,hd⟩,hr⟩:=hl;have hL:L∈X.fs:=hs L (by unfold frs;rw[List.filterMap_cons,hf];exact mF);obtain⟨sl,e⟩:=I.base.slot L o ho (I.ok.frf L hL) hL λz=>I.ok.exfs L z hL;exact⟨hk,⟨L,_,hf,hn,e,hd⟩,ih (λb hb=>hs b (by unfold frs;rw[List.filterMap_cons,hf];exact gT _ hb)) hr⟩
 exact all X.outer (λ_ hb=>hb) I.ok.funs
theorem Inv.stack(I:Inv X ac σ H s):s.heap.FunFrames X.base X.stack:=by
 rcases I.ok.stk with e | ⟨e,hf⟩
 ·rw[e];exact I.funs
 ·rw[e];obtain⟨m,hn,_⟩:=I.loc;refine .cons (by rw[I.ok.kind];decide) hf hn ?_ I.funs;exact Heap.get?_none_of_le (nY I.ok.bsz I.ok.above)
theorem Inv.stkSub(I:Inv X ac σ H s):∀b∈frs X.stack,b∈X.env.locals::X.fs:=λb hb=>by
 rcases I.ok.stk with e | ⟨e,hf⟩
 ·rw[e]at hb;exact gT _ hb
 ·rw[e]at hb;unfold frs at hb;rw[List.filterMap_cons,hf]at hb;exact hb
theorem Inv.stkFree(I:Inv X ac σ H s):∀b∈frs X.stack,H b=none:=λb hb=>by
 rcases nP.mp (I.stkSub b hb)with e | hb
 ·rw[e];exact I.free
 ·obtain⟨_,o,ho,_⟩:=I.ok.funs.mem hb;exact I.base.free b o ho (I.ok.frf b hb) λz=>I.ok.exfs b z hb
theorem Inv.step{g':Array GenState}{t':Nat}{d':Drawn}{ch:List Addr}(I:Inv X ac σ H s)
  (hch:∀b∈ch,(b∈X.ex∨X.s₀.heap.objs.size<=b)/\b≠X.env.locals/\(∀x c,X.env.cells.lookup x=some c->c≠b)/\∀p∈X.pn++ac,p.1≠b)
  (keep:∀b o,b≠X.env.locals->b∉X.fs->b∉ch->s.heap.get? b=some o->H b=none->h'.get? b=some o)
  (slot:∀b o,b≠X.env.locals->b∈X.fs->b∉ch->s.heap.get? b=some o->H b=none->∃sl,h'.get? b=some { o with slots:=sl }) (free:∀b o,b∉ch->s.heap.get? b=some o->H b=none->H' b=none)
  (there:∀b o,b∉ch->s.heap.get? b=some o->∃o',h'.get? b=some o')
  (tups:∀b xs,H b=some (.tup xs)->H' b=some (.tup xs)) (frzs:∀b o u,H b=some (.frz o u)->H' b=some (.frz o u)) (tbls:∀b ps,H b=some (.tbl ps)->∃more,H' b=some (.tbl (ps++more)))
  (ns:∀m,s.heap.Ns X.env.locals m->h'.Ns X.env.locals m) (hok:HOk X.prog X.w H' h') (hg:AllBare g') :
  Inv X ac σ H' { s with heap:=h',gens:=g',drawn:=d',toks:=t' } :=by
 have neL:∀b o,X.s₀.heap.get? b=some o->b≠X.env.locals:=λb o e=>nZ (mB (nX e) I.ok.above);have neC:∀b o,X.s₀.heap.get? b=some o->b∉X.ex->b∉ch:=λb o e hx hb=>by
  rcases(hch b hb).1 with z | z
  ·exact hx z
  ·exact absurd (mB (nX e) z) (nQ _)
 have cellK:∀x c,X.env.cells.lookup x=some c->∀v,s.heap.IsCell c v->h'.IsCell c v:=λx c e v ⟨o,ho,hd⟩=>by
  have nch:c∉ch:=λz=>(hch c z).2.2.1 x c e rfl;by_cases hc:c∈X.fs
  ·obtain⟨sl,q⟩:=slot c o (I.cne x c e) hc nch ho (I.freeC x c e);exact⟨_,q,hd⟩
  ·exact⟨o,keep c o (I.cne x c e) hc nch ho (I.freeC x c e),hd⟩
 refine⟨I.ok,I.os,hg,⟨λb o e n hb hx=>?_,λb o e n hb hx=>?_,λb o e n hx=>?_,λb o e hx=>?_,λb xs e=>tups b xs (I.base.tups b xs e),λb o xs e=>frzs b o xs (I.base.frzs b o xs e),λb ps e=>?_⟩, ?_,λx c e=>?_, ?_,λx c e=>?_,λp hp=>?_,hok,I.len⟩
 ·exact keep b o (neL b o e) hb (neC b o e hx) (I.base.keep b o e n hb hx) (I.base.free b o e n hx)
 ·obtain⟨sl,e1⟩:=I.base.slot b o e n hb hx;obtain⟨sl',e2⟩:=slot b _ (neL b o e) hb (neC b o e hx) e1 (I.base.free b o e n hx);exact⟨sl',e2⟩
 ·obtain⟨o',e1⟩:=I.base.there b o e hx;exact free b o' (neC b o e hx) e1 (I.base.free b o e n hx)
 ·obtain⟨o',e1⟩:=I.base.there b o e hx;exact there b o' (neC b o e hx) e1
 ·obtain⟨m1,e1⟩:=I.base.tbls b ps e;obtain⟨m2,e2⟩:=tbls b _ e1;exact⟨m1++m2,by rw[e2,Array.append_assoc]⟩
 ·obtain⟨m,hn,hl⟩:=I.loc;refine⟨m,ns m hn,λi x v e1 e2 e3=>?_⟩;obtain⟨u,r,l⟩:=hl i x v e1 e2 e3;refine⟨u,r, ?_⟩;rcases l with l | ⟨k,c,e,z⟩
  ·exact .inl l
  ·exact .inr ⟨k,c,e,cellK x c e _ z⟩
 ·obtain⟨v,z⟩:=I.cell x c e;exact⟨v,cellK x c e v z⟩
 ·obtain⟨m,⟨o,_,_,ho,_⟩,_⟩:=I.loc;exact free _ o (λz=>(hch _ z).2.1 rfl) ho I.free
 ·obtain⟨v,o,ho,hd⟩:=I.cell x c e;exact free c o (λz=>(hch c z).2.2.1 x c e rfl) ho (I.freeC x c e)
 ·obtain⟨e,n,ne,nf,d⟩:=I.pin p hp;have nch:p.1∉ch:=λz=>(hch p.1 z).2.2.2 p hp rfl;exact⟨keep p.1 p.2 ne nf nch e n,free p.1 p.2 nch e n,ne,nf,d⟩
theorem Inv.un{t':Nat}(I:Inv X ac σ H s)(u:Un X.fs [] H H' s.heap h')(hok:HOk X.prog X.w H' h'):Inv X ac σ H' { s with heap:=h',toks:=t' } :=by
 obtain⟨m,⟨o,es,ep,ho,r⟩,_⟩:=id I.loc;obtain⟨sl,hL⟩:=u.any ho I.free (by simp);exact I.step (g':=s.gens) (d':=s.drawn) (ch:=[]) (λ_ z=>nomatch z) (λb o _ hb _ e n=>u.keep b o e n hb (by simp)) (λb o _ hb _ e n=>u.slot b o e n hb (by simp)) (λb o _ e n=>u.free b o e n (by simp)) (λb o _ e=>u.there b o e (by simp)) u.tups u.frzs u.tbls (λm' hm=>by
  obtain⟨o',es',ep',ho',r'⟩:=hm;rw[ho]at ho';cases ho';exact⟨_,es',ep',hL,r'⟩) hok I.bare
theorem Inv.call{g':Array GenState}{t':Nat}{d':Drawn}{ch:List Addr}(I:Inv X ac σ H s)(u:Un (frs X.stack) ch H H' s.heap h')(hok:HOk X.prog X.w H' h')(hg:AllBare g')
  (hch:∀b∈ch,(b∈X.ex∨X.s₀.heap.objs.size<=b)/\b≠X.env.locals/\(∀x c,X.env.cells.lookup x=some c->c≠b)/\∀p∈X.pn++ac,p.1≠b) :
  Inv X ac σ H' { s with heap:=h',gens:=g',drawn:=d',toks:=t' } :=by
 obtain⟨m,⟨o,es,ep,ho,r⟩,_⟩:=id I.loc;obtain⟨sl,hL⟩:=u.any ho I.free λz=>(hch _ z).2.1 rfl;exact I.step (ch:=ch) hch (λb o hL hb hc e n=>u.keep b o e n (λz=>(nP.mp (I.stkSub b z)).elim hL hb) hc) (λb o _ _ hc e n=>u.any e n hc) (λb o hc e n=>u.free b o e n hc) (λb o hc e=>u.there b o e hc) u.tups u.frzs u.tbls (λm' hm=>by
  obtain⟨o',es',ep',ho',r'⟩:=hm;rw[ho]at ho';cases ho';exact⟨_,es',ep',hL,r'⟩) hok hg
theorem Inv.turned{t':Nat}{it:Addr}(I:Inv X ac σ H s)(k:∀b o,b≠it->s.heap.get? b=some o->h'.get? b=some o)(hn:H it=none)(hL:it≠X.env.locals)
  (h1:it∈X.ex∨X.s₀.heap.objs.size<=it) (h2:∀x c,X.env.cells.lookup x=some c->c≠it) (h3:∀p∈X.pn++ac,p.1≠it):Inv X ac σ H { s with heap:=h',toks:=t' } :=by
 have nit:∀b u,H b=some u->b≠it:=λb u e z=>by rw[z,hn]at e;cases e
 refine I.step (g':=s.gens) (d':=s.drawn) (ch:=[it]) (λb hb=>?_) (λb o _ _ hc e _=>k b o (λz=>hc (by simp [z])) e) (λb o _ _ hc e _=>⟨o.slots,k b o (λz=>hc (by simp [z])) e⟩) (λ_ _ _ _ n=>n)
  (λb o hc e=>⟨o,k b o (λz=>hc (by simp [z])) e⟩) (λ_ _ e=>e) (λ_ _ _ e=>e) (λb ps e=>⟨#[],by rw[e];simp⟩) (λm hm=>?_) (λb u e=>?_) I.bare
 ·have e:b=it:=by simpa using hb
  subst e;exact⟨h1,hL,h2,h3⟩
 ·obtain⟨o,es,ep,ho,r⟩:=hm;exact⟨o,es,ep,k _ o (Ne.symm hL) ho,r⟩
 ·refine(I.hok b u e).stay (λc v hc q=>k c v ?_ q) (λ_ q=>q) λ_ _ q=>q;rcases hc with z | z
  ·rw[z];exact nit b u e
  ·exact nit c _ z
theorem Inv.tok(I:Inv X ac σ H s)(t:Nat):Inv X ac σ H { s with toks:=t } :=I.un (h':=s.heap) (t':=t) Un.refl I.hok
theorem Inv.kept{t':Nat}(I:Inv X ac σ H s)(k:∀b u,s.heap.get? b=some u->h'.get? b=some u):Inv X ac σ H { s with heap:=h',toks:=t' } :=I.un (Un.kept k) (I.hok.kept k)
theorem Inv.laid{a:Addr}{o:HO}{t':Nat}(I:Inv X ac σ H s)(k:∀b u,s.heap.get? b=some u->h'.get? b=some u)(hp:s.heap.objs.size<=a)(new:ObjOk X.prog X.w (upd H a o) h' a o) :
  Inv X ac σ (upd H a o) { s with heap:=h',toks:=t' } :=I.un (Un.laid k hp (I.hok.fresh hp)) (I.hok.laid k hp new)
theorem Inv.write{x e:Addr}{o:HO}{t':Nat}(I:Inv X ac σ H s)(mu:Mut (H x))(he:e=x∨H e=some (.own x))(k:∀b u,b≠e->s.heap.get? b=some u->h'.get? b=some u)(heo:∃u,h'.get? e=some u)
  (new:ObjOk X.prog X.w (upd H x o) h' x o):Inv X ac σ (upd H x o) { s with heap:=h',toks:=t' } :=I.un (Un.write mu he k heo) (I.hok.write mu he k heo new)
theorem Inv.weak{σ':List (Option V)}(I:Inv X ac σ H s)(hl:σ'.length=σ.length)(w:∀(i:Nat) v,σ'[i]? = some (some v)->σ[i]? = some (some v)):Inv X ac σ' H s:=
 ⟨I.ok,I.os,I.bare,I.base,let ⟨m,hn,hl'⟩:=I.loc;⟨m,hn,λi x v e1 e2 e3=>hl' i x v e1 (w i v e2) e3⟩,I.cell,I.free,I.freeC,I.pin,I.hok,hl.trans I.len⟩
theorem Inv.pins_of{pins':List (Addr×Obj)}(I:Inv X ac σ H s)(h:∀p∈pins',s.heap.get? p.1=some p.2/\H p.1=none/\p.1≠X.env.locals/\p.1∉X.fs/\∀v,p.2.data≠.cell v):Inv X pins' σ H s:=
 ⟨I.ok,I.os,I.bare,I.base,I.loc,I.cell,I.free,I.freeC,λp hp=>(nB.mp hp).elim (λz=>I.pin p (List.mem_append_left _ z)) (h p),I.hok,I.len⟩
theorem BP{N:List Str}(hN:N.Nodup){i j:Nat}{x:Str}(a:N[i]? = some x)(b:N[j]? = some x):i=j:=by
 obtain⟨h1,e1⟩:=gE.mp a;obtain⟨h2,e2⟩:=gE.mp b;exact(List.getElem_inj hN).mp (e1.trans e2.symm)
theorem uC{M:Model}{A:Around}{E:Value->Shared->Prop}{i:Nat}{x:Str}{v:V}{u:Value}{Q:Unit->Shared->Prop}(I:Inv X ac σ H s)(hN:X.N.Nodup)(hi:X.N[i]? = some x)(hx:Loc X.env.scope x)(r:RelV v u)
  (h:∀s',Inv X ac (σ.set i (some v)) H s'->(∃a,Heap.SameBut a s.heap s'.heap/\(a=X.env.locals∨X.env.cells.lookup x=some a))->Q () s') (hf:X.fn x=true∨X.env.scope.names.lookup x=some .local:=by first | exact .inl rfl | exact .inr rfl | assumption):wpAny M A (storeName X.env x u) Q E s:=by
 obtain⟨m,hn,hl⟩:=id I.loc;have hcls:(X.env.scope.kind==.class||(X.env.scope.kind==.module&&X.env.locals != X.env.globals))=false:=by rw[I.ok.kind];rfl
 have hiσ:i<σ.length:=by rw[I.len];exact(gE.mp hi).1
 have cne:=I.cne;have tracked:∀{a:Addr} {h':Heap},(∃o,s.heap.get? a=some o/\H a=none)->Heap.SameBut a s.heap h'->HOk X.prog X.w H h':=fun {a h'} ha hs b ob e=>by
  obtain⟨_,_,hfree⟩:=ha;refine(I.hok b ob e).stay (λc w' hc q=>(hs.2 c ?_).trans q) (λ_ q=>q) λ_ _ q=>q;rintro rfl;rcases hc with rfl | hc
  ·rw[hfree]at e;cases e
  ·rw[hfree]at hc;cases hc
 rcases hx with hk | hk
 ·refine wpAny_storeName_local hk hn (λh' hn' hs=>?_) hcls;obtain⟨oL,_,_,hoL,_⟩:=id hn;refine h _ ⟨I.ok,I.os,I.bare,⟨λb o e n hb hx=>?_,λb o e n hb hx=>?_,I.base.free,λb o e hx=>?_,I.base.tups,I.base.frzs,I.base.tbls⟩,⟨_,hn',λj y v' e1 e2 e3=>?_⟩,λy c e=>?_,I.free,I.freeC,λp hp=>?_,tracked ⟨oL,hoL,I.free⟩ hs,by simpa using I.len⟩ ⟨_,hs,.inl rfl⟩
  ·exact(hs.2 b (nZ (mB (nX e) I.ok.above))).trans (I.base.keep b o e n hb hx)
  ·obtain⟨sl,e1⟩:=I.base.slot b o e n hb hx;exact⟨sl,(hs.2 b (nZ (mB (nX e) I.ok.above))).trans e1⟩
  ·obtain⟨o',e1⟩:=I.base.there b o e hx;exact⟨o',(hs.2 b (nZ (mB (nX e) I.ok.above))).trans e1⟩
  ·by_cases hj:j=i
   ·subst hj;rw[hi]at e1;cases e1;rw[List.getElem?_set_self hiσ]at e2;cases e2;exact⟨u,r,.inl ⟨hk,by simp⟩⟩
   ·rw[List.getElem?_set_ne (Ne.symm hj)]at e2;obtain⟨u',r',q⟩:=hl j y v' e1 e2 e3;refine⟨u',r', ?_⟩;rcases q with⟨k,e⟩ | ⟨k,c,e,z⟩
    ·refine .inl ⟨k, ?_⟩;have:y≠x:=λe=>hj (BP hN e1 (e▸hi));simp [this,e]
    ·exact .inr ⟨k,c,e,z.sameBut hs (cne y c e)⟩
  ·obtain⟨w',z⟩:=I.cell y c e;exact⟨w',z.sameBut hs (cne y c e)⟩
  ·obtain⟨e,n,ne,nf,d⟩:=I.pin p hp;exact⟨(hs.2 p.1 ne).trans e,n,ne,nf,d⟩
 ·have hfn:X.fn x=true:=by
   rcases hf with z | z
   ·exact z
   ·rw[z]at hk;cases hk
  obtain⟨c,hc⟩:=I.ok.has x (.inl hk);obtain⟨w',z⟩:=I.cell x c hc;refine wpAny_storeName_cell I.ok.kind hk hc z (λh' hc' hs=>?_);obtain⟨oc,hoc,hocd⟩:=id z;refine h { s with heap:=h' } ⟨I.ok,I.os,I.bare,⟨λb o e n hb hx=>?_,λb o e n hb hx=>?_,I.base.free,λb o e hx=>?_,I.base.tups,I.base.frzs,I.base.tbls⟩,⟨m,hn.sameBut hs (Ne.symm (cne x c hc)),λj y v' e1 e2 e3=>?_⟩,λy c' e=>?_,I.free,I.freeC,λp hp=>?_,tracked ⟨oc,hoc,I.freeC x c hc⟩ hs,by simpa using I.len⟩ ⟨c,hs,.inr hc⟩
  ·exact(hs.2 b (nZ (mB (nX e) (I.ok.cab x c hfn hc)))).trans (I.base.keep b o e n hb hx)
  ·obtain⟨sl,e1⟩:=I.base.slot b o e n hb hx;exact⟨sl,(hs.2 b (nZ (mB (nX e) (I.ok.cab x c hfn hc)))).trans e1⟩
  ·obtain⟨o',e1⟩:=I.base.there b o e hx;exact⟨o',(hs.2 b (nZ (mB (nX e) (I.ok.cab x c hfn hc)))).trans e1⟩
  ·by_cases hj:j=i
   ·subst hj;rw[hi]at e1;cases e1;rw[List.getElem?_set_self hiσ]at e2;cases e2;exact⟨u,r,.inr ⟨.inl hk,c,hc,hc'⟩⟩
   ·rw[List.getElem?_set_ne (Ne.symm hj)]at e2;obtain⟨u',r',q⟩:=hl j y v' e1 e2 e3;refine⟨u',r', ?_⟩;rcases q with q | ⟨k,c',e,z'⟩
    ·exact .inl q
    ·refine .inr ⟨k,c',e,z'.sameBut hs ?_⟩;rintro rfl;exact hj (BP hN e1 (I.ok.inj _ _ _ e hc▸hi))
  ·by_cases hcc:c'=c
   ·subst hcc;exact⟨_,hc'⟩
   ·obtain⟨w2,z2⟩:=I.cell y c' e;exact⟨w2,z2.sameBut hs hcc⟩
  ·obtain⟨e,n,ne,nf,d⟩:=I.pin p hp;refine⟨(hs.2 p.1 ?_).trans e,n,ne,nf,d⟩;intro q;rw[q,hoc]at e;have q':oc=p.2:=Option.some.inj e;exact d w' (by rw[<-q'];exact hocd)
theorem yD{M:Model}{A:Around}{E:Value->Shared->Prop}{i:Nat}{x:Str}{v:V}{u:Value}{Q:Unit->Shared->Prop}(I:Inv X ac σ H s)(hN:X.N.Nodup)(hi:X.N[i]? = some x)(hx:Loc X.env.scope x)(r:RelV v u)
  (h:∀s',Inv X ac (σ.set i (some v)) H s'->Q () s') (hf:X.fn x=true∨X.env.scope.names.lookup x=some .local:=by first | exact .inl rfl | exact .inr rfl | assumption):wpAny M A (storeName X.env x u) Q E s:=
 uC I hN hi hx r (λs' I' _=>h s' I') hf
theorem Inv.call'{s':Shared}{ch:List Addr}(I:Inv X ac σ H s)(ho:s'.os=s.os)(u:Un (frs X.stack) ch H H' s.heap s'.heap)(hok:HOk X.prog X.w H' s'.heap)(hg:AllBare s'.gens)
  (hch:∀b∈ch,(b∈X.ex∨X.s₀.heap.objs.size<=b)/\b≠X.env.locals/\(∀x c,X.env.cells.lookup x=some c->c≠b)/\∀p∈X.pn++ac,p.1≠b):Inv X ac σ H' s':=by
 obtain⟨h',g',d',t',o'⟩:=s';have e:o'=s.os:=ho;subst e;exact I.call (g':=g') (t':=t') (d':=d') u hok hg hch
end
abbrev XK:=Value->Option Addr->Hp->Prop
abbrev St:=List (Option V)
abbrev VK:=V->Hp->Prop
abbrev TE:=St->Hp->VK->Prop
abbrev TT:=St->Hp->(Bool->Hp->Prop)->Prop
abbrev TA:=St->Hp->(List V->Hp->Prop)->Prop
structure Ends where
 nx:St->Hp->Prop
 rt:VK
 bk:St->Hp->Prop:=λ_ _=>False
 ct:St->Hp->Prop:=λ_ _=>False
abbrev TS:=Ends->St->Hp->Prop
def EP(X:Cx)(ac:List (Addr×Obj))(σ:St)(Q:VK)(u:Value)(s':Shared):Prop:=∃v H',Inv X ac σ H' s'/\RelV v u/\Q v H'
def TP(X:Cx)(ac:List (Addr×Obj))(σ:St)(Q:Bool->Hp->Prop)(b:Bool)(s':Shared):Prop:=∃H',Inv X ac σ H' s'/\Q b H'
def AP(X:Cx)(ac:List (Addr×Obj))(σ:St)(Q:List V->Hp->Prop)(us:List Value)(s':Shared):Prop:=∃vs H',Inv X ac σ H' s'/\Vals vs us/\Q vs H'
def SP(X:Cx)(ac:List (Addr×Obj))(D:Ends)(f:Flow)(s':Shared):Prop:=
 match f with
 | .next=>∃σ' H',Inv X ac σ' H' s'/\D.nx σ' H'
 | .brk=>∃σ' H',Inv X ac σ' H' s'/\D.bk σ' H'
 | .cont=>∃σ' H',Inv X ac σ' H' s'/\D.ct σ' H'
 | .ret u=>∃v σ' H',Inv X ac σ' H' s'/\RelV v u/\D.rt v H'
def PE(X:Cx)(e:Expr)(t:TE):Prop:=
 ∀(ac:List (Addr×Obj)) (s:Shared) (σ:St) (H:Hp) (Q:VK),Inv X ac σ H s->t σ H Q->wpAny (model X.prog X.w) X.A (eval e X.env) (EP X ac σ Q) X.xe s
def PT(X:Cx)(e:Expr)(t:TT):Prop:=
 ∀(ac:List (Addr×Obj)) (s:Shared) (σ:St) (H:Hp) (Q:Bool->Hp->Prop),Inv X ac σ H s->t σ H Q->wpAny (model X.prog X.w) X.A (isTrue e X.env (eval e X.env)) (TP X ac σ Q) X.xe s
def PW(X:Cx)(e:Expr)(t:TT):Prop:=
 ∀(whole:Sem Value) (ac:List (Addr×Obj)) (s:Shared) (σ:St) (H:Hp) (Q:Bool->Hp->Prop),Inv X ac σ H s->t σ H Q->wpAny (model X.prog X.w) X.A (isTrue e X.env whole) (TP X ac σ Q) X.xe s
theorem PW.pt{X:Cx}{e:Expr}{t:TT}(h:PW X e t):PT X e t:=h _
def PA(X:Cx)(es:List Expr)(t:TA):Prop:=
 ∀(pos:Pos) (ac:List (Addr×Obj)) (s:Shared) (σ:St) (H:Hp) (Q:List V->Hp->Prop),Inv X ac σ H s->t σ H Q->wpAny (model X.prog X.w) X.A (spliced (backTo pos (starEach es X.env))) (AP X ac σ Q) X.xe s
def PS(X:Cx)(st:Stmt)(t:TS):Prop:=
 ∀(ac:List (Addr×Obj)) (s:Shared) (σ:St) (H:Hp) (D:Ends),Inv X ac σ H s->t D σ H->wpAny (model X.prog X.w) X.A (exec st X.env) (SP X ac D) X.xe s
def PSs(X:Cx)(st:List Stmt)(t:TS):Prop:=
 ∀(ac:List (Addr×Obj)) (s:Shared) (σ:St) (H:Hp) (D:Ends),Inv X ac σ H s->t D σ H->wpAny (model X.prog X.w) X.A (execs st X.env) (SP X ac D) X.xe s
theorem thn{α:Type}{t:Sem α}{Q Q':α->Shared->Prop}{M:Model}{A:Around}{E:Value->Shared->Prop}{s:Shared}(h:wpAny M A t Q E s)(hQ:∀a s,Q a s->Q' a s):wpAny M A t Q' E s:=tU h hQ λ_ _ x=>x
section
variable{X:Cx}
theorem bin{a b:Expr}{ta tb:TE}(ha:PE X a ta)(hb:PE X b tb){ac:List (Addr×Obj)}{s:Shared}{σ:St}{H:Hp}{R:V->V->Hp->Prop}(I:Inv X ac σ H s)(h:ta σ H λx H1=>tb σ H1 λy H2=>R x y H2)
  {α:Type} {Q:α->Shared->Prop} {f:Value->Value->Sem α}
  (hf:∀v u s2 x y H2,Inv X ac σ H2 s2->RelV x v->RelV y u->R x y H2->wpAny (model X.prog X.w) X.A (f v u) Q X.xe s2) :
  wpAny (model X.prog X.w) X.A (eval a X.env) (λv s₁=>wpAny (model X.prog X.w) X.A (eval b X.env) (λu s₂=>wpAny (model X.prog X.w) X.A (f v u) Q X.xe s₂) X.xe s₁) X.xe s:=by
 refine thn (ha ac s σ H _ I h) λv s1 ⟨x,H1,I1,r1,q1⟩=>?_;refine thn (hb ac s1 σ H1 _ I1 q1) λu s2 ⟨y,H2,I2,r2,q2⟩=>?_;exact hf v u s2 x y H2 I2 r1 r2 q2
def kK(i:Nat):TE:=fun σ H Q=>∃v,σ[i]? = some (some v)/\Q v H
def tC(v:V):TE:=λ_ H Q=>Q v H
theorem ZO{i:Nat}{x:Str}{pos:Pos}(hN:X.N[i]? = some x)(hv:Vis X.env.scope x)(hd:(x==("__debug__" :Str))=false:=by decide)(hcd:(x==("__classdict__" :Str))=false:=by decide):PE X (.Name x pos) (kK i):=by
 intro ac s σ H Q I h;obtain⟨v,e,h⟩:=h;obtain⟨m,hn,hl⟩:=I.loc;obtain⟨u,r,l⟩:=hl i x v hN e hv;have fin:EP X ac σ Q u s:=⟨v,H,I,r,h⟩;rcases l with⟨hk,hm⟩ | ⟨hk,c,hc,hcell⟩
 ·exact wpAny_Name (wpAny_loadName_local I.ok.kind hk hn hm fin) hd
 ·rcases hk with hk | hk
  ·exact wpAny_Name (wpAny_loadName_cell I.ok.kind hk hc hcell fin) hd
  ·exact wpAny_Name (wpAny_loadName_free I.ok.kind hk hc hcell fin hcd) hd
theorem jD{i j pos} :PE X (.Constant (.int i) j pos) (tC (.int i)):=λ_ _ _ H _ I h=>wpAny_Constant_int ⟨.int i,H,I.tok _,⟨_,rfl⟩,h⟩
theorem SA{b j pos} :PE X (.Constant (.bool b) j pos) (tC (.bl b)):=λ_ _ _ H _ I h=>Constant_bool ⟨.bl b,H,I,rfl,h⟩
theorem FE{j pos} :PE X (.Constant .none j pos) (tC .non):=λ_ _ _ H _ I h=>Constant_none ⟨.non,H,I,rfl,h⟩
theorem qP{x j pos} :PE X (.Constant (.str x) j pos) (tC (.str x)):=λ_ _ _ H _ I h=>Calls.Constant_str ⟨.str x,H,I.tok _,⟨_,rfl⟩,h⟩
def Gl(X:Cx)(x:Str):Prop:=X.env.kindOf x=some .globalImplicit
theorem wT{E:Value->Shared->Prop}{ac:List (Addr×Obj)}{s:Shared}{σ:St}{H:Hp}{x:Str}{u:Value}{pos:Pos}{Q:Value->Shared->Prop}(I:Inv X ac σ H s)(hg:Gl X x)(hm:X.mg x=some u)(h:Q u s)
  (hd:(x==("__debug__" :Str))=false:=by decide):wpAny (model X.prog X.w) X.A (eval (.Name x pos) X.env) Q E s:=
 Calls.Name_function_global I.ok.kind hg (Calls.loadGlobal_global (by rw[I.ok.glob];exact I.mod.glob.keeps I.bk) hm h) hd
theorem yA{E:Value->Shared->Prop}{ac:List (Addr×Obj)}{s:Shared}{σ:St}{H:Hp}{x:Str}{u:Value}{pos:Pos}{Q:Value->Shared->Prop}(I:Inv X ac σ H s)(hg:Gl X x)(hm:X.mg x=none)(hv:bootBuiltins x=some u)(h:Q u s)
  (hn:x≠"__name__":=by decide) (hd:(x==("__debug__" :Str))=false:=by decide):wpAny (model X.prog X.w) X.A (eval (.Name x pos) X.env) Q E s:=by
 obtain⟨mb,h1,h2⟩:=I.mod.blt;exact Calls.Name_function_global I.ok.kind hg (Calls.loadGlobal_builtin (by rw[I.ok.glob];exact I.mod.glob.keeps I.bk) hm (by rw[I.ok.blt];exact h1.keeps I.bk) ((h2 x hn).trans hv) h) hd
theorem qB{x:Str}{v:V}{u:Value}{pos:Pos}(hg:Gl X x)(hm:X.mg x=some u)(r:RelV v u)(hd:(x==("__debug__" :Str))=false:=by decide):PE X (.Name x pos) (tC v):=
 λ_ _ _ H _ I h=>wT I hg hm ⟨v,H,I,r,h⟩ hd
theorem VW{x:Str}{v:V}{u:Value}{pos:Pos}(hg:Gl X x)(hm:X.mg x=none)(hv:bootBuiltins x=some u)(r:RelV v u)(hn:x≠"__name__":=by decide)(hd:(x==("__debug__" :Str))=false:=by decide):PE X (.Name x pos) (tC v):=
 λ_ _ _ H _ I h=>yA I hg hm hv ⟨v,H,I,r,h⟩ hn hd
variable{a b:Expr}{ta tb:TE}{pos:Pos}
def PC(X:Cx)(op:CmpOp)(a b:Expr)(t:TE):Prop:=
 ∀(ac:List (Addr×Obj)) (s:Shared) (σ:St) (H:Hp) (Q:VK),Inv X ac σ H s->t σ H Q->
  wpAny (model X.prog X.w) X.A (eval a X.env) (λv s₁=>wpAny (model X.prog X.w) X.A (eval b X.env) (λu s₂=>wpAny (model X.prog X.w) X.A (compareOp op v u) (EP X ac σ Q) X.xe s₂) X.xe s₁) X.xe s
theorem SM(b:Expr){op:CmpOp}(h:op≠.In)(h2:op≠.NotIn):behindInMarks op b=false:=by
 have e1:(op==CmpOp.In)=false:=by cases op<;>first | rfl | exact absurd rfl h
 have e2:(op==CmpOp.NotIn)=false:=by cases op<;>first | rfl | exact absurd rfl h2
 cases b<;>simp [behindInMarks,e1,e2]
def tIsN(ta:TE):TE:=fun σ H Q=>ta σ H λx H1=>Q (.bl (decide (x=.non))) H1
def tNotN(ta:TE):TE:=fun σ H Q=>ta σ H λx H1=>Q (.bl (!decide (x=.non))) H1
theorem RelV.none_iff{x:V}{v:Value}(r:RelV x v):(v==Value.none)=decide (x=.non):=by
 cases x with
 | non=>cases r;rfl
 | bl _=>cases r;rfl
 | int _=>obtain⟨t,rfl⟩:=r;rfl
 | str _=>obtain⟨t,rfl⟩:=r;rfl
 | byt _=>obtain⟨t,rfl⟩:=r;rfl
 | flt _=>obtain⟨t,rfl⟩:=r;rfl
 | ref _=>cases r;rfl
 | ty _=>cases r;rfl
theorem KA{j pos'}(ha:PE X a ta):PC X .Is a (.Constant .none j pos') (tIsN ta):=by
 intro ac s σ H Q I h;refine thn (ha ac s σ H _ I h) λv s1 ⟨x,H1,I1,r1,q1⟩=>?_;exact Constant_none (is_none_gen ⟨.bl _,H1,I1,by rw[r1.none_iff];rfl,q1⟩)
theorem MB{j pos'}(ha:PE X a ta):PC X .IsNot a (.Constant .none j pos') (tNotN ta):=by
 intro ac s σ H Q I h;refine thn (ha ac s σ H _ I h) λv s1 ⟨x,H1,I1,r1,q1⟩=>?_;exact Constant_none (isnot_none_gen ⟨.bl _,H1,I1,by rw[r1.none_iff];rfl,q1⟩)
def tB(t:TE):TT:=fun σ H Q=>t σ H λx H1=>∃c,x=.bl c/\Q c H1
theorem wF{op:CmpOp}{t:TE}(h:PC X op a b t)(h1:behindInMarks op b=false:=by first | exact SM _ (by decide) (by decide) | rfl):PT X (.Compare a [op] [b] pos) (tB t):=by
 intro ac s σ H Q I hw;refine wpAny_isTrue_Compare1 (thn (h ac s σ H _ I hw) λv s1 h1=>thn h1 λu s2 h2=>thn h2 λc s3 ⟨x,H1,I1,r1,q1⟩=>?_) h1;obtain⟨d,rfl,q⟩:=q1;cases r1;exact wpAny_truthy_bool ⟨H1,I1,q⟩
theorem JW{e:Expr}{t:TE}(h:PE X e t)(he:∀whole,isTrue e X.env whole=(do let v<-whole;standAt e.pos;holding [v] (truthy v)):=by intro _;rfl):PT X e (tB t):=by
 intro ac s σ H Q I hw;refine isTrue_plain (thn (h ac s σ H _ I hw) λv s1 ⟨x,H1,I1,r1,q1⟩=>?_) (he _);obtain⟨d,rfl,q⟩:=q1;cases r1;exact wpAny_truthy_bool ⟨H1,I1,q⟩
variable{tA tB':TT}{rest:List Expr}
def tAnd(t u:TT):TT:=fun σ H Q=>t σ H λc H1=>if c=true then u σ H1 Q else Q false H1
def tOr(t u:TT):TT:=fun σ H Q=>t σ H λc H1=>if c=true then Q true H1 else u σ H1 Q
def tNot(t:TT):TT:=fun σ H Q=>t σ H λc H1=>Q (!c) H1
theorem AS(ha:PT X a tA):PW X (.BoolOp .And [a] pos) tA:=by
 intro wh ac s σ H Q I h;refine isTrue_and (thn (ha ac s σ H Q I h) λc s1 e=>?_);cases c with
 | true=>exact isTrue_and_nil e
 | false=>exact e
theorem RP(ha:PT X a tA):PW X (.BoolOp .Or [a] pos) tA:=by
 intro wh ac s σ H Q I h;refine isTrue_or (thn (ha ac s σ H Q I h) λc s1 e=>?_);cases c with
 | false=>exact isTrue_or_nil e
 | true=>exact e
theorem FB(ha:PT X a tA)(hb:PW X (.BoolOp .And (b::rest) pos) tB'):PW X (.BoolOp .And (a::b::rest) pos) (tAnd tA tB'):=by
 intro wh ac s σ H Q I h;refine isTrue_and (thn (ha ac s σ H _ I h) λc s1 ⟨H1,I1,q1⟩=>?_);cases c with
 | true=>exact hb wh ac s1 σ H1 Q I1 q1
 | false=>exact⟨H1,I1,q1⟩
theorem YM(ha:PT X a tA)(hb:PW X (.BoolOp .Or (b::rest) pos) tB'):PW X (.BoolOp .Or (a::b::rest) pos) (tOr tA tB'):=by
 intro wh ac s σ H Q I h;refine isTrue_or (thn (ha ac s σ H _ I h) λc s1 ⟨H1,I1,q1⟩=>?_);cases c with
 | true=>exact⟨H1,I1,q1⟩
 | false=>exact hb wh ac s1 σ H1 Q I1 q1
theorem ZK(ha:PT X a tA):PT X (.UnaryOp .Not a pos) (tNot tA):=by
 intro ac s σ H Q I h;exact isTrue_not (ha ac s σ H (λc H1=>Q (!c) H1) I h)
def tAndV(ta tb:TE):TE:=fun σ H Q=>ta σ H λx H1=>∃c,x=.bl c/\if c=true then tb σ H1 Q else Q (.bl false) H1
def tOrV(ta tb:TE):TE:=fun σ H Q=>ta σ H λx H1=>∃c,x=.bl c/\if c=true then Q (.bl true) H1 else tb σ H1 Q
theorem JZ{op}{t:TE}(h:PE X a t):PE X (.BoolOp op [a] pos) t:=λac s σ H Q I hw=>BoolOp_one (h ac s σ H Q I hw)
theorem SB(ha:PE X a ta)(hb:PE X (.BoolOp .And (b::rest) pos) tb):PE X (.BoolOp .And (a::b::rest) pos) (tAndV ta tb):=by
 intro ac s σ H Q I h;refine BoolOp_and (thn (ha ac s σ H _ I h) λv s1 ⟨x,H1,I1,r1,q1⟩=>?_);obtain⟨c,rfl,q1⟩:=q1;cases r1;refine wpAny_truthy_bool ?_;cases c with
 | true=>exact hb ac s1 σ H1 Q I1 q1
 | false=>exact⟨.bl false,H1,I1,rfl,q1⟩
theorem pe_or(ha:PE X a ta)(hb:PE X (.BoolOp .Or (b::rest) pos) tb):PE X (.BoolOp .Or (a::b::rest) pos) (tOrV ta tb):=by
 intro ac s σ H Q I h;refine BoolOp_or (thn (ha ac s σ H _ I h) λv s1 ⟨x,H1,I1,r1,q1⟩=>?_);obtain⟨c,rfl,q1⟩:=q1;cases r1;refine wpAny_truthy_bool ?_;cases c with
 | false=>exact hb ac s1 σ H1 Q I1 q1
 | true=>exact⟨.bl true,H1,I1,rfl,q1⟩
def tIf(t:TT)(ta tb:TE):TE:=fun σ H Q=>t σ H λc H1=>if c=true then ta σ H1 Q else tb σ H1 Q
theorem HP{c:Expr}(hc:PT X c tA)(ha:PE X a ta)(hb:PE X b tb):PE X (.IfExp c a b pos) (tIf tA ta tb):=by
 intro ac s σ H Q I h;refine wpAny_IfExp (thn (hc ac s σ H _ I h) λd s1 ⟨H1,I1,q1⟩=>?_);cases d with
 | true=>exact ha ac s1 σ H1 Q I1 q1
 | false=>exact hb ac s1 σ H1 Q I1 q1
end
def SqL(K:tX)(H:Hp)(a:Addr)(xs:List V):Prop:=
 Rd H a (.lst xs)∨
  ∃(o:Obj) (its:Array Value) (n:Nat),K.lookup a=some o/\o.cls=.type "list"/\o.dict=none/\o.data=.seq its n/\its.size<=sizeLine/\Vals xs its.toList
def SqT(K:tX)(H:Hp)(a:Addr)(xs:List V):Prop:=
 Rd H a (.tup xs)∨
  ∃(o:Obj) (its:Array Value) (n:Nat),K.lookup a=some o/\o.cls=.type "tuple"/\o.data=.seq its n/\its.size<=sizeLine/\Vals xs its.toList
def absV:Value->Option V
 | .none=>some .non
 | .bool b=>some (.bl b)
 | .int i _=>some (.int i)
 | .str x _=>some (.str x)
 | .bytes b _=>some (.byt b)
 | .float b _=>some (.flt b)
 | .ref a=>some (.ref a)
 | .type n=>some (.ty n)
 | _=>none
theorem RelV.abs{x:V}{u:Value}(r:RelV x u):absV u=some x:=by
 cases x with
 | non=>cases r;rfl
 | bl _=>cases r;rfl
 | int _=>obtain⟨t,rfl⟩:=r;rfl
 | str _=>obtain⟨t,rfl⟩:=r;rfl
 | byt _=>obtain⟨t,rfl⟩:=r;rfl
 | flt _=>obtain⟨t,rfl⟩:=r;rfl
 | ref _=>cases r;rfl
 | ty _=>cases r;rfl
theorem RelV.inj{x y:V}{u:Value}(r:RelV x u)(q:RelV y u):x=y:=Option.some.inj (r.abs.symm.trans q.abs)
theorem Vals.inj:∀{xs ys:List V} {us:List Value},Vals xs us->Vals ys us->xs=ys
 | _,_,_,.nil,.nil=>rfl
 | _,_,_,.cons r t,.cons r' t'=>by rw[r.inj r',Vals.inj t t']
section
variable{X:Cx}{ac:List (Addr×Obj)}{σ:St}{H:Hp}{s:Shared}{a:Addr}{xs ys:List V}
theorem SqL.of{K:tX}(h:H a=some (.lst xs)):SqL K H a xs:=.inl (.inl h)
theorem SqT.of{K:tX}(h:H a=some (.tup xs)):SqT K H a xs:=.inl (.inl h)
theorem Inv.list(I:Inv X ac σ H s)(h:SqL X.K H a xs):∃its:List Value,Vals xs its/\PlainL s.heap a its.toArray/\xs.length<=sizeLine:=by
 rcases h with h | ⟨o,its,n,hk,hc,hd,hs,hz,r⟩
 ·obtain⟨z,its,n,r,e⟩:=h.ok I.hok;exact⟨its,r,⟨_,n,e,rfl,rfl,rfl⟩,z⟩
 ·refine⟨its.toList,r,⟨o,n,I.kIn a o hk,hc,hd,by simpa using hs⟩, ?_⟩;have e:=r.length;simp only[Array.length_toList]at e;omega
theorem Inv.tuple(I:Inv X ac σ H s)(h:SqT X.K H a xs):∃its:List Value,Vals xs its/\IsTup s.heap a its.toArray/\xs.length<=sizeLine:=by
 rcases h with h | ⟨o,its,n,hk,hc,hs,hz,r⟩
 ·obtain⟨z,its,r,p⟩:=h.ok I.hok;exact⟨its,r,p.1,z⟩
 ·refine⟨its.toList,r,⟨o,I.kIn a o hk,hc,n,by simpa using hs⟩, ?_⟩;have e:=r.length;simp only[Array.length_toList]at e;omega
theorem Inv.list_inj(I:Inv X ac σ H s)(h:SqL X.K H a xs)(h':SqL X.K H a ys):xs=ys:=by
 obtain⟨its,r,⟨o,n,e,_,_,d⟩,_⟩:=I.list h;obtain⟨its',r',⟨o',n',e',_,_,d'⟩,_⟩:=I.list h';rw[e]at e';cases e';rw[d]at d';injection d' with d1 _
 have:its=its':=by simpa using congrArg Array.toList d1
 subst this;exact r.inj r'
theorem Inv.tuple_inj(I:Inv X ac σ H s)(h:SqT X.K H a xs)(h':SqT X.K H a ys):xs=ys:=by
 obtain⟨its,r,⟨o,e,_,n,d⟩,_⟩:=I.tuple h;obtain⟨its',r',⟨o',e',_,n',d'⟩,_⟩:=I.tuple h';rw[e]at e';cases e';rw[d]at d';injection d' with d1 _
 have:its=its':=by simpa using congrArg Array.toList d1
 subst this;exact r.inj r'
end
abbrev Cx.wish(X:Cx)(E:Value->Shared->Prop):Cx:={ X with xe:=E }
abbrev Cx.nox(X:Cx):Cx:=X.wish λ_ _=>False
theorem Cx.Ok.wish{X:Cx}(ok:X.Ok)(E:Value->Shared->Prop):(X.wish E).Ok:=
 ⟨ok.mod,ok.kind,ok.glob,ok.blt,ok.above,ok.inj,ok.has,ok.cab,ok.hd,ok.frames,ok.stk,ok.exf,ok.bs,ok.bsz,ok.noex,ok.exfs,ok.funs,ok.frf⟩
theorem Cx.Ok.unwish{X:Cx}{E:Value->Shared->Prop}(ok:(X.wish E).Ok):X.Ok:=
 ⟨ok.mod,ok.kind,ok.glob,ok.blt,ok.above,ok.inj,ok.has,ok.cab,ok.hd,ok.frames,ok.stk,ok.exf,ok.bs,ok.bsz,ok.noex,ok.exfs,ok.funs,ok.frf⟩
section
variable{X:Cx}{ac:List (Addr×Obj)}{σ:St}{H:Hp}{s:Shared}{E:Value->Shared->Prop}
theorem Inv.wish(I:Inv X ac σ H s)(E:Value->Shared->Prop):Inv (X.wish E) ac σ H s:=⟨I.ok.wish E,I.os,I.bare,I.base,I.loc,I.cell,I.free,I.freeC,I.pin,I.hok,I.len⟩
theorem Inv.unwish(I:Inv (X.wish E) ac σ H s):Inv X ac σ H s:=⟨I.ok.unwish,I.os,I.bare,I.base,I.loc,I.cell,I.free,I.freeC,I.pin,I.hok,I.len⟩
theorem SP.unwish{D:Ends}{f:Flow}{s':Shared}(h:SP (X.wish E) ac D f s'):SP X ac D f s':=by
 cases f with
 | next=>obtain⟨σ',H',I,q⟩:=h;exact⟨σ',H',I.unwish,q⟩
 | brk=>obtain⟨σ',H',I,q⟩:=h;exact⟨σ',H',I.unwish,q⟩
 | cont=>obtain⟨σ',H',I,q⟩:=h;exact⟨σ',H',I.unwish,q⟩
 | ret u=>obtain⟨v,σ',H',I,r,q⟩:=h;exact⟨v,σ',H',I.unwish,r,q⟩
theorem PSs.nox{st:List Stmt}{t:TS}(h:PSs X.nox st t):PSs X st t:=λac s σ H D I hw=>
 tU (h ac s σ H D (I.wish _) hw) (λ_ _ q=>q.unwish) λ_ _ z=>False.elim z
end
section
variable{X:Cx}{st:Stmt}{rest:List Stmt}{t u:TS}{e:Expr}{te:TE}{pos:Pos}
def tNext:TS:=λD σ H=>D.nx σ H
def xD(t u:TS):TS:=λD σ H=>t { D with nx:=u D } σ H
theorem kC:PSs X [] tNext:=λ_ _ σ H _ I h=>wpAny_execs_nil ⟨σ,H,I,h⟩
theorem jB(h1:PS X st t)(h2:PSs X rest u):PSs X (st::rest) (xD t u):=by
 intro ac s σ H D I h;refine wpAny_execs_cons (thn (h1 ac s σ H { D with nx:=u D } I h) λf s1 q=>?_);cases f with
 | next=>
  obtain⟨σ',H',I',q⟩:=q;exact h2 ac s1 σ' H' D I' q
 | ret v=>exact q
 | brk=>exact q
 | cont=>exact q
theorem jE(h1:PS X st t):PSs X [st] t:=by
 intro ac s σ H D I h;refine wpAny_execs_cons (thn (h1 ac s σ H D I h) λf s1 q=>?_);cases f with
 | next=>exact wpAny_execs_nil q
 | ret v=>exact q
 | brk=>exact q
 | cont=>exact q
theorem Inv.quiet{ac:List (Addr×Obj)}{σ:St}{H:Hp}{s:Shared}(I:Inv X ac σ H s):interactive X.env=false:=by simp [interactive,I.ok.kind]
def tDrop(te:TE):TS:=λD σ H=>te σ H λ_ H1=>D.nx σ H1
theorem xM(he:PE X e te)(hs:swapsWith e none pos.line X.env=pure false:=by rfl):PS X (.Expr e pos) (tDrop te):=by
 intro ac s σ H D I h;exact wpAny_Expr_any (thn (he ac s σ H _ I h) λv s1 ⟨x,H1,I1,r1,q1⟩=>⟨σ,H1,I1,q1⟩) I.quiet hs
def NW(te:TE):TS:=λD σ H=>te σ H D.rt
theorem jP(he:PE X e te):PS X (.Return (some e) pos) (NW te):=by
 intro ac s σ H D I h;exact wpAny_Return_some (thn (he ac s σ H _ I h) λv s1 ⟨x,H1,I1,r1,q1⟩=>⟨x,σ,H1,I1,r1,q1⟩)
def tIfS(c:TT)(t u:TS):TS:=λD σ H=>c σ H λb H1=>if b=true then t D σ H1 else u D σ H1
theorem kU{c:Expr}{a b:List Stmt}{tc:TT}(hc:PT X c tc)(ha:PSs X a t)(hb:PSs X b u):PS X (.If c a b pos) (tIfS tc t u):=by
 intro ac s σ H D I h;refine wpAny_If (thn (hc ac s σ H _ I h) λd s1 ⟨H1,I1,q1⟩=>?_);cases d with
 | true=>exact ha ac s1 σ H1 D I1 q1
 | false=>exact hb ac s1 σ H1 D I1 q1
def tNever:TS:=λ_ _ _=>False
theorem HL:PS X st tNever:=λ_ _ _ _ _ _ h=>h.elim
theorem zR{sts:List Stmt} :PSs X sts tNever:=λ_ _ _ _ _ _ h=>h.elim
end
abbrev TG:=V->St->Hp->(St->Hp->Prop)->Prop
abbrev TGs:=List V->St->Hp->(St->Hp->Prop)->Prop
def PG(X:Cx)(target:Expr)(t:TG):Prop:=
 ∀(ac:List (Addr×Obj)) (s:Shared) (σ:St) (H:Hp) (v:V) (u:Value) (Q:St->Hp->Prop),Inv X ac σ H s->RelV v u->t v σ H Q->
  wpAny (model X.prog X.w) X.A (assign target X.env u) (λ_ s'=>∃σ' H',Inv X ac σ' H' s'/\Q σ' H') X.xe s
def PGs(X:Cx)(ts:List Expr)(t:TGs):Prop:=
 ∀(ac:List (Addr×Obj)) (s:Shared) (σ:St) (H:Hp) (vs:List V) (us:List Value) (Q:St->Hp->Prop),Inv X ac σ H s->Vals vs us->t vs σ H Q->
  wpAny (model X.prog X.w) X.A (assignInOrder ((assignEach ts X.env).map (·.2)) us) (λ_ s'=>∃σ' H',Inv X ac σ' H' s'/\Q σ' H') X.xe s
abbrev TSet:=V->V->V->Hp->(Hp->Prop)->Prop
def PSet(X:Cx)(t:TSet):Prop:=
 ∀(ac:List (Addr×Obj)) (s:Shared) (σ:St) (H:Hp) (o i v:V) (ov iv u:Value) (Q:Hp->Prop),Inv X ac σ H s->RelV o ov->RelV i iv->RelV v u->t o i v H Q->
  wpAny (model X.prog X.w) X.A (setItem ov iv u) (λ_ s'=>∃H',Inv X ac σ H' s'/\Q H') X.xe s
section
variable{X:Cx}{pos:Pos}
def kR(i:Nat):TG:=λv σ H Q=>Q (σ.set i (some v)) H
theorem jI{i:Nat}{x:Str}(hN:X.N.Nodup)(hi:X.N[i]? = some x)(hx:Loc X.env.scope x)(hf:X.fn x=true∨X.env.scope.names.lookup x=some .local:=by first | exact .inl rfl | exact .inr rfl | assumption):PG X (.Name x pos) (kR i):=by
 intro ac s σ H v u Q I r h;exact wpAny_assign_Name (yD I hN hi hx r (λs' I'=>⟨_,H,I',h⟩) hf)
def gNil:TGs:=λvs σ H Q=>vs=[]/\Q σ H
def yI(t:TG)(u:TGs):TGs:=λvs σ H Q=>∃v r,vs=v::r/\t v σ H fun σ' H'=>u r σ' H' Q
theorem kS:PGs X [] gNil:=by
 intro ac s σ H vs us Q I r h;obtain⟨e,h⟩:=h;subst e;cases r;exact assignInOrder_nil ⟨σ,H,I,h⟩
theorem jO{e:Expr}{es:List Expr}{t:TG}{u:TGs}(h1:PG X e t)(h2:PGs X es u)
  (hs:(assignEach (e::es) X.env).map (·.2)=assign e X.env::(assignEach es X.env).map (·.2):=by rfl):PGs X (e::es) (yI t u):=by
 intro ac s σ H vs us Q I r h;obtain⟨v,vr,e1,h⟩:=h;subst e1;cases r with
 | cons r rr=>
  rw[hs];refine assignInOrder_cons (thn (h1 ac s σ H _ _ _ I r h) λ_ s1 ⟨σ1,H1,I1,q1⟩=>?_);exact h2 ac s1 σ1 H1 _ _ Q I1 rr q1
def KQ(K:tX)(n:Nat)(t:TGs):TG:=λv σ H Q=>∃a xs,v=.ref a/\SqT K H a xs/\xs.length=n/\t xs σ H Q
theorem qW{es:List Expr}{k:Nat}{t:TGs}{n:Nat}(hc:X.calm=true)(h:PGs X es t)
  (hn:(assignEach es X.env).length=n:=by rfl) (hst:(assignEach es X.env).findIdx? (·.1)=none:=by rfl):PG X (.Tuple es k pos) (KQ X.K n t):=by
 intro ac s σ H v u Q I r hw;obtain⟨a,xs,e1,hq,hl,hw⟩:=hw;subst e1;cases r;obtain⟨its,rv,ht,hz⟩:=I.tuple hq;refine assign_Tuple_tuple (I.ok.hd hc) ht (by simp [hn,<-hl,rv.length]) hst λh' hx=>?_;have I1:Inv X ac σ H { s with heap:=h' } :=I.kept (t':=s.toks) λb o e=>hx b o (nZ (nX e)) e;exact h ac _ σ H xs _ Q I1 (by simpa using rv) hw
def IH(to ti:TE)(t:TSet):TG:=λv σ H Q=>to σ H λo H1=>ti σ H1 λi H2=>t o i v H2 λH3=>Q σ H3
theorem zF{o i:Expr}{to ti:TE}{t:TSet}(ho:PE X o to)(hi:PE X i ti)(hs:PSet X t)
  (ha:∀v,assign (.Subscript o i pos) X.env v=(do
   let ov<-holding [v] (eval o X.env);let iv<-holding [v,ov] (eval i X.env)
   standAt pos
   holding [v,ov,iv] (setItem ov iv v)
   release [v,ov,iv] []):=by intro _;rfl):PG X (.Subscript o i pos) (IH to ti t):=by
 intro ac s σ H v u Q I r h;rw[ha];refine tS (wpAny_holding (thn (ho ac s σ H _ I h) λov s1 ⟨x,H1,I1,r1,q1⟩=>?_));refine tS (wpAny_holding (thn (hi ac s1 σ H1 _ I1 q1) λiv s2 ⟨y,H2,I2,r2,q2⟩=>?_));refine tS (wpAny_standAt (tS (wpAny_holding (thn (hs ac s2 σ H2 x y v ov iv u _ I2 r1 r2 r q2) λ_ s3 ⟨H3,I3,q3⟩=>?_))));exact wpAny_release ⟨σ,H3,I3,q3⟩
def yC(te:TE)(g:TG):TS:=λD σ H=>te σ H λx H1=>g x σ H1 D.nx
theorem qL{tg e:Expr}{te:TE}{g:TG}(he:PE X e te)(hg:PG X tg g)(hs:swapsWithSole [tg] e pos.line X.env=pure false:=by rfl)(hw:swappedStores [tg] e X.env=pure none:=by rfl)
  (h1:(assignEach [tg] X.env).map (·.2)=[assign tg X.env]:=by rfl):PS X (.Assign [tg] e pos) (yC te g):=by
 intro ac s σ H D I h;refine wpAny_Assign_stores (thn (he ac s σ H _ I h) λv s1 ⟨x,H1,I1,r1,q1⟩=>?_) hs hw;rw[h1];exact thn (hg ac s1 σ H1 x v _ I1 r1 q1) λ_ s2 q=>q
theorem jM{i:Nat}{x:Str}{e:Expr}{te:TE}{pos':Pos}(hN:X.N.Nodup)(hi:X.N[i]? = some x)(hx:Loc X.env.scope x)(he:PE X e te)(hs:swapsWith e (some (.Name x pos')) pos.line X.env=pure false:=by rfl)(hf:X.fn x=true∨X.env.scope.names.lookup x=some .local:=by first | exact .inl rfl | exact .inr rfl | assumption) :
  PS X (.Assign [.Name x pos'] e pos) (yC te (kR i)):=by
 intro ac s σ H D I h;refine wpAny_Assign_Name (thn (he ac s σ H _ I h) λv s1 ⟨y,H1,I1,r1,q1⟩=>?_) hs;exact yD I1 hN hi hx r1 (λs2 I2=>⟨_,H1,I2,q1⟩) hf
def tPar(i j:Nat)(ta:TA):TS:=λD σ H=>ta σ H λvs H1=>∃v w,vs=[v,w]/\D.nx ((σ.set i (some v)).set j (some w)) H1
theorem JX{i j:Nat}{x y:Str}{a b:Expr}{ta:TA}{px py pt:Pos}{kt k2 pt2}(hc:X.calm=true)(hN:X.N.Nodup)(hi:X.N[i]? = some x)(hj:X.N[j]? = some y)(hij:i≠j)
  (hx:X.env.scope.names.lookup x=some .local) (hy:X.env.scope.names.lookup y=some .local) (ha:PA X [a,b] ta)
  (hw:swappedStores [.Tuple [.Name x px,.Name y py] kt pt] (.Tuple [a,b] k2 pt2) X.env=pure (some [x,y]))
  (hs:swapsWithSole [.Tuple [.Name x px,.Name y py] kt pt] (.Tuple [a,b] k2 pt2) pos.line X.env=pure false:=by rfl) :
  PS X (.Assign [.Tuple [.Name x px,.Name y py] kt pt] (.Tuple [a,b] k2 pt2) pos) (tPar i j ta):=by
 intro ac s σ H D I h;rw[exec_Assign_arm];refine tS (wpAny_standAt ?_);rw[hs];refine tS (tT ?_);rw[tV (by decide)];refine tS (Tuple_ (thn (ha _ ac s σ H _ I h) λus s1 ⟨vs,H1,I1,r1,q1⟩=>?_));obtain⟨v,w,e1,q1⟩:=q1;subst e1;obtain⟨u1,u2,rfl,rv,rw'⟩:∃u1 u2,us=[u1,u2]/\RelV v u1/\RelV w u2:=by
  cases r1 with
  | cons p q=>
   cases q with
   | cons p' q'=>
    cases q';exact⟨_,_,rfl,p,p'⟩
 refine wpAny_newObj_type ?_ uY ;have I2:Inv X ac σ H1 { s1 with heap:=s1.heap.push { cls:=.type "tuple",data:=.seq [u1,u2].toArray } } :=I1.kept (t':=s1.toks) λb o e=>gK _ e;rw[hw];refine tS (tT ?_);show wpAny (model X.prog X.w) X.A (do rule "assign.swapped-stores";let items<-unpackItems (.ref s1.heap.objs.size) 2 none;assignInOrder [λv=>bindName X.env y v,λv=>bindName X.env x v] items.reverse;pure Flow.next) _ _ _;refine tS (wpAny_rule (tS (unpackItems_tuple (items:=#[u1,u2]) (I.ok.hd hc) (IsTup.new s1.heap _) λh' hx'=>?_)));have I3:=I2.kept (h':=h') (t':=s1.toks) λb o e=>hx' b o (nZ (nX e)) e;show wpAny _ _ (assignInOrder [λv=>bindName X.env y v,λv=>bindName X.env x v] [u2,u1] >>= λ_=>pure Flow.next) _ _ _;refine tS (assignInOrder_cons (wpAny_bindName (yD I3 hN hj (.inl hy) rw' (λs2 I4=>?_) (.inr hy))));refine assignInOrder_cons (wpAny_bindName (yD I4 hN hi (.inl hx) rv (λs3 I5=>assignInOrder_nil (tT ?_)) (.inr hx)));rw[List.set_comm _ _ (Ne.symm hij)]at I5;exact⟨_,H1,I5,q1⟩
end
section
variable{X:Cx}{pos:Pos}
def JL(c:TT)(tb:TS):TS:=λD σ H=>∃W:Nat->St->Hp->Prop,(∃m,W m σ H)/\∀m σ H,W m σ H->
 c σ H λb H1=>if b=true then ∃N:St->Hp->Prop,(∀σ' H',N σ' H'->∃m',m'<m/\W m' σ' H')/\tb { D with nx:=N,ct:=N,bk:=D.nx } σ H1 else D.nx σ H1
theorem HK{c:Expr}{body:List Stmt}{tc:TT}{tb:TS}(hp:PassesOwn (model X.prog X.w) X.A X.env X.xe)(hc:PT X c tc)(hb:PSs X body tb):PS X (.While c body [] pos) (JL tc tb):=by
 intro ac s σ H D I h;obtain⟨W,⟨m0,w0⟩,turn⟩:=h;refine wpAny_While (codeAny_whileLoop (λn s'=>∃σ' H',Inv X ac σ' H' s'/\W n σ' H') ?_ m0 ⟨σ,H,I,w0⟩);rintro n s1 ⟨σ1,H1,I1,w1⟩;refine wpAny_passesOwn hp (thn (hc ac s1 σ1 H1 _ I1 (turn n σ1 H1 w1)) λb s2 ⟨H2,I2,q2⟩=>?_);cases b with
 | true=>
  obtain⟨N,hN,q2⟩:=q2;rw[tW rfl];refine wpAny_passesOwn hp (thn (hb ac s2 σ1 H2 _ I2 q2) λf s3 q3=>?_);cases f with
  | next=>
   obtain⟨σ3,H3,I3,n3⟩:=q3;obtain⟨m',hm,w3⟩:=hN σ3 H3 n3;exact⟨m',hm,σ3,H3,I3,w3⟩
  | cont=>
   obtain⟨σ3,H3,I3,n3⟩:=q3;obtain⟨m',hm,w3⟩:=hN σ3 H3 n3;exact⟨m',hm,σ3,H3,I3,w3⟩
  | brk=>exact q3
  | ret v=>exact q3
 | false=>
  rw[tV hZ];exact wpAny_execs_nil ⟨σ1,H2,I2,q2⟩
end
structure It where
 go:Nat->Hp->Prop
 yld:Nat->Hp->V->Hp->Prop
 stop:Nat->Hp->Prop
def FpOk(X:Cx)(ac:List (Addr×Obj))(H:Hp)(b:Addr):Prop:=
 H b=none/\b≠X.env.locals/\b∉X.fs/\(b∈X.ex∨X.s₀.heap.objs.size<=b)/\(∀x c,X.env.cells.lookup x=some c->c≠b)/\∀p∈X.pn++ac,p.1≠b
theorem Inv.fpOk{X:Cx}{ac:List (Addr×Obj)}{σ:St}{H H':Hp}{s:Shared}{b:Addr}(I:Inv X ac σ H s)(hb:s.heap.objs.size<=b)(hn:H' b=none):FpOk X ac H' b:=by
 refine⟨hn,Nat.ne_of_gt (mB I.lt hb),I.nofs hb,.inr (nY I.sz hb),λx c e z=>?_,λp hp z=>?_⟩
 ·obtain⟨v,q⟩:=I.cell x c e;exact absurd (mB q.lt (by rw[z];exact hb)) (nQ _)
 ·exact absurd (mB (nX (I.pin p hp).1) (by rw[z];exact hb)) (nQ _)
structure Turn(P:Program)(w:World)(K:tX)(tg:Expr)(J:It)(fp:List Addr)(it:Addr)(tn:Nat->Heap->Prop):Prop where
 mem:it∈fp
 obj:∀i h,tn i h->∀b∈fp,∃o,h.get? b=some o/\∀v,o.data≠.cell v
 keep:∀i h h',tn i h->(∀b∈fp,∀o,h.get? b=some o->h'.get? b=some o)->tn i h'
 item:∀(X:Cx),X.prog=P->X.w=w->X.K=K->X.calm=true->∀(i:Nat) (ac:List (Addr×Obj)) (s:Shared) (σ:St) (H:Hp) (E:Value->Shared->Prop),Inv X ac σ H s->(∀b∈fp,FpOk X ac H b)->tn i s.heap->J.go i H->
  wpAny (model P w) X.A (pyNext (.ref it)) (λr s1=>∃u,r=some u/\
   wpAny (model P w) X.A (letOwnedTupleGo tg (.ref it) u) (λ_ s2=>∃x H',Inv X ac σ H' s2/\RelV x u/\J.yld i H x H'/\tn (i+1) s2.heap/\∀b∈fp,H' b=none) E s1) E s
 done:∀(X:Cx),X.prog=P->X.w=w->X.K=K->X.calm=true->∀(i:Nat) (ac:List (Addr×Obj)) (s:Shared) (σ:St) (H:Hp) (E:Value->Shared->Prop),Inv X ac σ H s->(∀b∈fp,FpOk X ac H b)->tn i s.heap->J.stop i H->
  wpAny (model P w) X.A (pyNext (.ref it)) (λr s1=>r=none/\Inv X ac σ H s1) E s
 self:∀(A:Around) (i:Nat) (s:Shared) (Q:Value->Shared->Prop) (E:Value->Shared->Prop),tn i s.heap->Q (.ref it) s->wpAny (model P w) A (pyIter (.ref it)) Q E s
abbrev TI:=St->Hp->(It->Hp->Prop)->Prop
def PIE(X:Cx)(ac:List (Addr×Obj))(σ:St)(tg:Expr)(R:It->Hp->Prop)(itv:Value)(s2:Shared):Prop:=
 ∃(it:Addr) (fp:List Addr) (tn:Nat->Heap->Prop) (J:It) (H':Hp),itv=.ref it/\Inv X ac σ H' s2/\Turn X.prog X.w X.K tg J fp it tn/\tn 0 s2.heap/\(∀b∈fp,FpOk X ac H' b)/\R J H'
def PI(X:Cx)(tg iter:Expr)(wi:TI):Prop:=
 ∀(ac:List (Addr×Obj)) (s:Shared) (σ:St) (H:Hp) (R:It->Hp->Prop),Inv X ac σ H s->wi σ H R->
  wpAny (model X.prog X.w) X.A (eval iter X.env) (λv s1=>wpAny (model X.prog X.w) X.A (pyIter v) (PIE X ac σ tg R) X.xe s1) X.xe s
theorem MV{M:Model}{A:Around}{E:Value->Shared->Prop}{s:Shared}{tg:Expr}{it:Addr}{u:Value}{o:Obj}{n:String}{vs:Array Value}{Q:Unit->Shared->Prop}(ho:s.heap.get? it=some o)(hc:o.cls=.type n)(hd:o.data=.fields vs)
  (hn:["enumerate","zip","dict_itemiterator","dict_reverseitemiterator","odict_iterator","itertools.zip_longest","itertools.pairwise"].contains n=false) (hQ:Q () s):wpAny M A (letOwnedTupleGo tg (.ref it) u) Q E s:=by
 unfold letOwnedTupleGo;cases tg<;>first
  | exact tT hQ
  | (cases u<;>first
    | exact tT hQ
    | (refine tS (wpAny_load ho ?_);rw[hc,hd];show wpAny M A (if (["enumerate","zip","dict_itemiterator","dict_reverseitemiterator","odict_iterator","itertools.zip_longest","itertools.pairwise"].contains n&&vs[0]? ==some (rawInt _))=true then _ else _) Q E s;rw[tV (by intro h;rw[hn,Bool.false_and]at h;cases h)];exact tT hQ))
def Itl(K:tX)(a:Addr):It:=
 ⟨λi H=>∃xs x,SqL K H a xs/\xs[i]? = some x,λi H x H'=>H'=H/\∀xs,SqL K H a xs->xs[i]? = some x,λi H=>∃xs,SqL K H a xs/\xs.length<=i⟩
def Itt(K:tX)(a:Addr):It:=
 ⟨λi H=>∃xs x,SqT K H a xs/\xs[i]? = some x,λi H x H'=>H'=H/\∀xs,SqT K H a xs->xs[i]? = some x,λi H=>∃xs,SqT K H a xs/\xs.length<=i⟩
def Itr(lo:Int)(n:Nat):It:=⟨λi _=>i<n,λi H x H'=>H'=H/\x=.int (lo+i),λi _=>n<=i⟩
theorem NS{P:Program}{w:World}{K:tX}{tg:Expr}(a it:Addr):Turn P w K tg (Itl K a) [it] it (λi h=>h.IsListIter it a i) where
 mem:=by simp
 obj:=λi h st b hb=>by
  have e:b=it:=by simpa using hb
  subst e;obtain⟨o,e,c,d⟩:=st;exact⟨o,e,λv z=>by rw[d]at z;cases z⟩
 keep:=λi h h' st k=>st.at λo e=>k it (by simp) o e
 item:=by
  intro X hP hw hK hc i ac s σ H E I hf st hg;subst hP hw hK;obtain⟨xs,x,hq,hx⟩:=hg;obtain⟨its,rv,p,hz⟩:=I.list hq;obtain⟨u,hu,ru⟩:=rv.get hx;obtain⟨f0,f1,f2,f3,f4,f5⟩:=hf it (by simp);refine wpAny_pyNext_list_item st p.isList (x:=u) (by simpa using hu) λh' st' sb=>?_;have I1:Inv X ac σ H { s with heap:=h' } :=I.turned (t':=s.toks) (λb o hb e=>(sb.2 b hb).trans e) f0 f1 f3 f4 f5;obtain⟨o,e,c,d⟩:=id st';exact⟨u,rfl,MV (s:={ s with heap:=h' }) e c d (by decide) ⟨x,H,I1,ru,⟨rfl,λys hy=>by rw[I.list_inj hy hq];exact hx⟩,st',λb hb=>(hf b hb).1⟩⟩
 done:=by
  intro X hP hw hK hc i ac s σ H E I hf st hg;subst hP hw hK;obtain⟨xs,hq,hx⟩:=hg;obtain⟨its,rv,p,hz⟩:=I.list hq;obtain⟨f0,f1,f2,f3,f4,f5⟩:=hf it (by simp);have hl:=rv.length;exact wpAny_pyNext_list_end (I.ok.hd hc) st p.isList (by simp;omega) λh' eb=>⟨rfl,I.turned (t':=s.toks) (λb o hb e=>eb b o hb e) f0 f1 f3 f4 f5⟩
 self:=λ_ _ _ _ _ st h=>wpAny_pyIter_listiter st h
theorem JI{P:Program}{w:World}{K:tX}{tg:Expr}(a it:Addr):Turn P w K tg (Itt K a) [it] it (λi h=>h.IsTupleIter it a i) where
 mem:=by simp
 obj:=λi h st b hb=>by
  have e:b=it:=by simpa using hb
  subst e;obtain⟨o,e,c,d⟩:=st;exact⟨o,e,λv z=>by rw[d]at z;cases z⟩
 keep:=λi h h' st k=>st.at λo e=>k it (by simp) o e
 item:=by
  intro X hP hw hK hc i ac s σ H E I hf st hg;subst hP hw hK;obtain⟨xs,x,hq,hx⟩:=hg;obtain⟨its,rv,p,hz⟩:=I.tuple hq;obtain⟨u,hu,ru⟩:=rv.get hx;obtain⟨f0,f1,f2,f3,f4,f5⟩:=hf it (by simp);refine wpAny_pyNext_tuple_item st (show s.heap.IsTuple a its.toArray from p) (x:=u) (by simpa using hu) λh' st' sb=>?_;have I1:Inv X ac σ H { s with heap:=h' } :=I.turned (t':=s.toks) (λb o hb e=>(sb.2 b hb).trans e) f0 f1 f3 f4 f5;obtain⟨o,e,c,d⟩:=id st';exact⟨u,rfl,MV (s:={ s with heap:=h' }) e c d (by decide) ⟨x,H,I1,ru,⟨rfl,λys hy=>by rw[I.tuple_inj hy hq];exact hx⟩,st',λb hb=>(hf b hb).1⟩⟩
 done:=by
  intro X hP hw hK hc i ac s σ H E I hf st hg;subst hP hw hK;obtain⟨xs,hq,hx⟩:=hg;obtain⟨its,rv,p,hz⟩:=I.tuple hq;obtain⟨f0,f1,f2,f3,f4,f5⟩:=hf it (by simp);have hl:=rv.length;exact wpAny_pyNext_tuple_end (I.ok.hd hc) st (show s.heap.IsTuple a its.toArray from p) (by simp;omega) λh' eb=>⟨rfl,I.turned (t':=s.toks) (λb o hb e=>eb b o hb e) f0 f1 f3 f4 f5⟩
 self:=λ_ _ _ _ _ st h=>wpAny_pyIter_tupleiter st h
theorem JJ{P:Program}{w:World}{K:tX}{tg:Expr}(it:Addr)(lo:Int)(n:Nat):Turn P w K tg (Itr lo n) [it] it (λi h=>IsRangeIter h it (lo+(i:Nat)*1) ((n:Int)-(i:Nat)) 1) where
 mem:=by simp
 obj:=λi h st b hb=>by
  have e:b=it:=by simpa using hb
  subst e;exact⟨_,st,λv z=>by
   have z':Data.fields _=Data.cell v:=z;cases z'⟩
 keep:=λi h h' st k=>k it (by simp) _ st
 item:=by
  intro X hP hw hK hc i ac s σ H E I hf st hg;subst hP hw hK;obtain⟨f0,f1,f2,f3,f4,f5⟩:=hf it (by simp);have W:=Walks.range (prog:=X.prog) (w:=X.w) (I.ok.hd hc) it lo 1 n;refine W.item i s _ _ hg st λv h' tk hv st' kk=>?_;obtain⟨t,rfl⟩:=hv;have I1:Inv X ac σ H { s with heap:=h',toks:=tk } :=I.turned (λb o hb e=>kk b o (by simpa using hb) e) f0 f1 f3 f4 f5;refine⟨_,rfl,MV (s:={ s with heap:=h',toks:=tk }) (n:="range_iterator") st' rfl rfl (by decide) ⟨.int (lo+i),H,I1,⟨t, ?_⟩,⟨rfl,rfl⟩,st',λb hb=>(hf b hb).1⟩⟩;rw[Int.mul_one]
 done:=by
  intro X hP hw hK hc i ac s σ H E I hf st hg;subst hP hw hK;obtain⟨f0,f1,f2,f3,f4,f5⟩:=hf it (by simp);exact wpAny_pyNext_range_end (I.ok.hd hc) st (by have:n<=i:=hg;omega) λh' eb=>⟨rfl,I.turned (t':=s.toks) (λb o hb e=>eb b o hb e) f0 f1 f3 f4 f5⟩
 self:=λ_ _ _ _ _ st h=>wpAny_pyIter_rangeiter st h
section
variable{X:Cx}{tg:Expr}
def TM(K:tX)(tl:TE):TI:=fun σ H R=>tl σ H λx H1=>∃a,x=.ref a/\(∃xs,SqL K H1 a xs)/\R (Itl K a) H1
def iTup(K:tX)(tl:TE):TI:=fun σ H R=>tl σ H λx H1=>∃a,x=.ref a/\(∃xs,SqT K H1 a xs)/\R (Itt K a) H1
theorem kX{l:Expr}{tl:TE}(hl:PE X l tl):PI X tg l (TM X.K tl):=by
 intro ac s σ H R I h;refine thn (hl ac s σ H _ I h) λv s1 ⟨x,H1,I1,r1,q1⟩=>?_;obtain⟨a,e,⟨xs,hq⟩,q⟩:=q1;subst e;cases r1;obtain⟨its,rv,p,hz⟩:=I1.list hq;refine wpAny_pyIter_list p.isList ?_;refine⟨s1.heap.objs.size,[s1.heap.objs.size],_,_,H1,rfl,I1.kept (t':=s1.toks) λb o e=>gK _ e,NS a _,⟨_,gZ _ rfl,rfl,rfl⟩,λb hb=>?_,q⟩;have e:b=s1.heap.objs.size:=by simpa using hb
 subst e;exact I1.fpOk uV (I1.hok.fresh uV)
theorem RQ{l:Expr}{tl:TE}(hl:PE X l tl):PI X tg l (iTup X.K tl):=by
 intro ac s σ H R I h;refine thn (hl ac s σ H _ I h) λv s1 ⟨x,H1,I1,r1,q1⟩=>?_;obtain⟨a,e,⟨xs,hq⟩,q⟩:=q1;subst e;cases r1;obtain⟨its,rv,p,hz⟩:=I1.tuple hq;refine wpAny_pyIter_tuple (show s1.heap.IsTuple a its.toArray from p) ?_;refine⟨s1.heap.objs.size,[s1.heap.objs.size],_,_,H1,rfl,I1.kept (t':=s1.toks) λb o e=>gK _ e,JI a _,⟨_,gZ _ rfl,rfl,rfl⟩,λb hb=>?_,q⟩;have e:b=s1.heap.objs.size:=by simpa using hb
 subst e;exact I1.fpOk uV (I1.hok.fresh uV)
theorem RN{ac:List (Addr×Obj)}{σ:St}{H:Hp}{s:Shared}{R:It->Hp->Prop}{E:Value->Shared->Prop}{lo hi:Int}{t u v:Tok}{tk:Nat}(I:Inv X ac σ H s)(h1: -(2^62)<=lo)(h2:lo<2^62)(h3: -(2^62)<=hi)(h4:hi<2^62)
  (q:R (Itr lo (hi-lo).toNat) H):wpAny (model X.prog X.w) X.A (pyIter (.ref s.heap.objs.size)) (PIE X ac σ tg R) E { s with heap:=s.heap.push { cls:=.type "range",data:=.fields #[.int lo t,.int hi u,.int 1 v] },toks:=tk } :=by
 refine wpAny_pyIter_range (IsRange.new ..) (small_one h1 h2 h3 h4) ?_;have I1:Inv X ac σ H { s with heap:=s.heap.push { cls:=.type "range",data:=.fields #[.int lo t,.int hi u,.int 1 v] },toks:=tk } :=I.kept λb o e=>gK _ e;refine⟨(s.heap.push { cls:=.type "range",data:=.fields #[.int lo t,.int hi u,.int 1 v] }).objs.size,[(s.heap.push { cls:=.type "range",data:=.fields #[.int lo t,.int hi u,.int 1 v] }).objs.size],_,_,H,rfl,
  I1.kept (t':=tk) λb o e=>gK _ e,JJ _ lo (hi-lo).toNat, ?_,λb hb=>?_,q⟩
 ·have e1:lo+((0:Nat):Int)*1=lo:=by simp
  have e2:(((hi-lo).toNat:Nat):Int)-((0:Nat):Int)=Builtin.Range.rangeSize lo hi 1:=by rw[rangeSize_one];split<;>omega
  show IsRangeIter _ _ (lo+((0:Nat):Int)*1) ((((hi-lo).toNat:Nat):Int)-((0:Nat):Int)) 1;rw[e1,e2];exact gZ _ rfl
 ·have e:b=(s.heap.push { cls:=.type "range",data:=.fields #[.int lo t,.int hi u,.int 1 v] }).objs.size:=by simpa using hb
  subst e;exact I1.fpOk uV (I1.hok.fresh uV)
def iRng1(ta:TA):TI:=fun σ H R=>ta σ H λvs H1=>∃j:Int,vs=[.int j]/\-(2^62)<=j/\j<2^62/\R (Itr 0 j.toNat) H1
theorem vH{a:Expr}{ta:TA}{p pos:Pos}(hg:Gl X "range")(hm:X.mg "range" = none)(ha:PA X [a] ta)(hs:starEach [a] X.env=[(false,eval a X.env)]:=by rfl):PI X tg (.Call (.Name "range" p) [a] [] pos) (iRng1 ta):=by
 intro ac s σ H R I h;refine Call_ (yA I hg hm boot_range (PyProof.Rows.callWith_type1 (thn (ha pos ac s σ H _ I h) λus s1 ⟨vs,H1,I1,r1,q1⟩=>?_) hs rfl));obtain⟨j,e,q1,q2,q⟩:=q1;subst e;cases r1 with
 | cons r rr=>
  cases rr;obtain⟨t,rfl⟩:=r;exact call_range_1 (RN I1 (by omega) (by omega) q1 q2 (by simpa using q))
def tFor(wi:TI)(g:TG)(tb:TS):TS:=λD σ H=>wi σ H λJ H1=>∃W:Nat->Nat->St->Hp->Prop,(∃m,W 0 m σ H1)/\∀i m σ H,W i m σ H->
 (J.stop i H/\D.nx σ H)∨(J.go i H/\∃N:St->Hp->Prop,(∀σ' H',N σ' H'->∃m',m'<m/\W (i+1) m' σ' H')/\∀x H',J.yld i H x H'->g x σ H' fun σ2 H2=>tb { D with nx:=N,ct:=N,bk:=D.nx } σ2 H2)
def BK(fp:List Addr)(h:Heap):List (Addr×Obj):=fp.filterMap λb=>(h.get? b).map λo=>(b,o)
theorem jS{fp:List Addr}{h:Heap}{b:Addr}{o:Obj}(hb:b∈fp)(e:h.get? b=some o):(b,o)∈BK fp h:=List.mem_filterMap.mpr ⟨b,hb,by rw[e];rfl⟩
theorem OY{fp:List Addr}{h:Heap}{p:Addr×Obj}(hp:p∈BK fp h):p.1∈fp/\h.get? p.1=some p.2:=by
 obtain⟨b,hb,e⟩:=List.mem_filterMap.mp hp;cases q:h.get? b with
 | none=>rw[q]at e;cases e
 | some o=>
  rw[q]at e;have e':(b,o)=p:=Option.some.inj e;subst e';exact⟨hb,q⟩
theorem Inv.pinned{ac:List (Addr×Obj)}{σ:St}{H:Hp}{s:Shared}{fp:List Addr}(I:Inv X ac σ H s)(hf:∀b∈fp,FpOk X ac H b)(ho:∀b∈fp,∃o,s.heap.get? b=some o/\∀v,o.data≠.cell v):Inv X (ac++BK fp s.heap) σ H s:=
 I.pins_of λp hp=>(nB.mp hp).elim (λz=>I.pin p (gN _ z)) λz=>by
  obtain⟨hb,e⟩:=OY z;obtain⟨f0,f1,f2,_⟩:=hf p.1 hb;obtain⟨o,e',d⟩:=ho p.1 hb;rw[e]at e';cases e';exact⟨e,f0,f1,f2,d⟩
theorem Inv.unpinned{ac pl:List (Addr×Obj)}{σ:St}{H:Hp}{s:Shared}(I:Inv X (ac++pl) σ H s):Inv X ac σ H s:=I.pins_of λp hp=>I.pin p (gN _ (List.mem_append_left _ hp))
theorem qZ{iter:Expr}{body:List Stmt}{wi:TI}{g:TG}{tb:TS}{pos:Pos}(hp:PassesOwn (model X.prog X.w) X.A X.env X.xe)(hc:X.calm=true)(hi:PI X tg iter wi)(hg:PG X tg g)(hb:PSs X body tb)
  (hs:∀x,foldedSetIterable iter X.env x=pure x:=by intro _;rfl):PS X (.For tg iter body [] pos) (tFor wi g tb):=by
 intro ac s σ H D I h;refine wpAny_For (thn (hi ac s σ H _ I h) λv s1 h1=>thn h1 λitv s2 h2=>?_) hs;obtain⟨it,fp,tn,J,H2,e,I2,T,st2,f2,W,⟨m0,w0⟩,turn⟩:=h2;subst e;have stat:∀{H':Hp},(∀b∈fp,H' b=none)->∀b∈fp,FpOk X ac H' b:=λhn b hb=>⟨hn b hb,(f2 b hb).2⟩;refine codeAny_forLoop_any (λn s'=>∃i σ' H',Inv X ac σ' H' s'/\tn i s'.heap/\(∀b∈fp,H' b=none)/\W i n σ' H') ?_ m0 ⟨0,σ,H2,I2,st2,λb hb=>(f2 b hb).1,w0⟩;rintro n s3 ⟨i,σ3,H3,I3,st3,fr3,w3⟩;rcases turn i n σ3 H3 w3 with⟨stop,qn⟩ | ⟨go,N,hN,step⟩
 ·refine wpAny_passesOwn hp (thn (T.done X rfl rfl rfl hc i ac s3 σ3 H3 X.xe I3 (stat fr3) st3 stop) λr s4 ⟨hr,I4⟩=>?_);subst hr;exact wpAny_execs_nil ⟨σ3,H3,I4,qn⟩
 ·refine wpAny_passesOwn hp (thn (T.item X rfl rfl rfl hc i ac s3 σ3 H3 X.xe I3 (stat fr3) st3 go) λr s4 ⟨u,hr,h4⟩=>?_);subst hr;refine wpAny_passesOwn hp (thn h4 λ_ s5 ⟨x,H5,I5,r5,y5,st5,fr5⟩=>?_);have I5':=I5.pinned (stat fr5) (T.obj _ _ st5);refine wpAny_passesOwn hp (thn (hg _ s5 σ3 H5 x u _ I5' r5 (step x H5 y5)) λ_ s6 ⟨σ6,H6,I6,q6⟩=>?_);refine wpAny_passesOwn hp (thn (hb _ s6 σ6 H6 _ I6 q6) λf s7 q7=>?_);have again:∀{σ7:St} {H7:Hp},Inv X (ac++BK fp s5.heap) σ7 H7 s7->N σ7 H7->∃m,m<n/\∃i σ' H',Inv X ac σ' H' s7/\tn i s7.heap/\(∀b∈fp,H' b=none)/\W i m σ' H':=fun {σ7 H7} I7 n7=>by
   obtain⟨m',hm,w7⟩:=hN σ7 H7 n7;refine⟨m',hm,i+1,σ7,H7,I7.unpinned,T.keep _ _ _ st5 λb hb o e=>(I7.pin (b,o) (gN _ (gN _ (jS hb e)))).1,λb hb=>?_,w7⟩;obtain⟨o,e,d⟩:=T.obj _ _ st5 b hb;exact(I7.pin (b,o) (gN _ (gN _ (jS hb e)))).2.1
  cases f with
  | next=>obtain⟨σ7,H7,I7,n7⟩:=q7;exact again I7 n7
  | cont=>obtain⟨σ7,H7,I7,n7⟩:=q7;exact again I7 n7
  | brk=>obtain⟨σ7,H7,I7,q7⟩:=q7;exact⟨σ7,H7,I7.unpinned,q7⟩
  | ret v=>obtain⟨x7,σ7,H7,I7,r7,q7⟩:=q7;exact⟨x7,σ7,H7,I7.unpinned,r7,q7⟩
end
theorem vP{K:tX}{a:Addr}{xs:List V}{g:TG}{tb:TS}{D:Ends}{σ:St}{H:Hp}(Pv:Nat->St->Hp->Prop)(h0:Pv 0 σ H)(hl:∀i σ H,i<=xs.length->Pv i σ H->SqL K H a xs)
  (hs:∀i x σ H,xs[i]? = some x->Pv i σ H->g x σ H fun σ2 H2=>tb { D with nx:=Pv (i+1),ct:=Pv (i+1),bk:=D.nx } σ2 H2) (hd:∀σ H,Pv xs.length σ H->D.nx σ H) :
  ∃W:Nat->Nat->St->Hp->Prop,(∃m,W 0 m σ H)/\∀i m σ H,W i m σ H->
   ((Itl K a).stop i H/\D.nx σ H)∨((Itl K a).go i H/\∃N:St->Hp->Prop,(∀σ' H',N σ' H'->∃m',m'<m/\W (i+1) m' σ' H')/\∀x H',(Itl K a).yld i H x H'->g x σ H' fun σ2 H2=>tb { D with nx:=N,ct:=N,bk:=D.nx } σ2 H2):=by
 refine⟨λi m σ H=>m=xs.length-i/\i<=xs.length/\Pv i σ H,⟨xs.length,by simp,tM _,h0⟩, ?_⟩;rintro i m σ H ⟨rfl,hi,p⟩;have q:=hl i σ H hi p;by_cases hlt:i<xs.length
 ·refine .inr ⟨⟨xs,xs[i],q,by simp [hlt]⟩,Pv (i+1),fun σ' H' p'=>⟨xs.length-(i+1),by omega,rfl,hlt,p'⟩,λx H' y=>?_⟩;obtain⟨e,y⟩:=y;subst e;exact hs i x σ _ (y xs q) p
 ·have e:i=xs.length:=by omega
  subst e;exact .inl ⟨⟨xs,q,tL _⟩,hd σ H p⟩
theorem XM{K:tX}{a:Addr}{xs:List V}{g:TG}{tb:TS}{D:Ends}{σ:St}{H:Hp}(Pv:Nat->St->Hp->Prop)(h0:Pv 0 σ H)(hl:∀i σ H,i<=xs.length->Pv i σ H->SqT K H a xs)
  (hs:∀i x σ H,xs[i]? = some x->Pv i σ H->g x σ H fun σ2 H2=>tb { D with nx:=Pv (i+1),ct:=Pv (i+1),bk:=D.nx } σ2 H2) (hd:∀σ H,Pv xs.length σ H->D.nx σ H) :
  ∃W:Nat->Nat->St->Hp->Prop,(∃m,W 0 m σ H)/\∀i m σ H,W i m σ H->
   ((Itt K a).stop i H/\D.nx σ H)∨((Itt K a).go i H/\∃N:St->Hp->Prop,(∀σ' H',N σ' H'->∃m',m'<m/\W (i+1) m' σ' H')/\∀x H',(Itt K a).yld i H x H'->g x σ H' fun σ2 H2=>tb { D with nx:=N,ct:=N,bk:=D.nx } σ2 H2):=by
 refine⟨λi m σ H=>m=xs.length-i/\i<=xs.length/\Pv i σ H,⟨xs.length,by simp,tM _,h0⟩, ?_⟩;rintro i m σ H ⟨rfl,hi,p⟩;have q:=hl i σ H hi p;by_cases hlt:i<xs.length
 ·refine .inr ⟨⟨xs,xs[i],q,by simp [hlt]⟩,Pv (i+1),fun σ' H' p'=>⟨xs.length-(i+1),by omega,rfl,hlt,p'⟩,λx H' y=>?_⟩;obtain⟨e,y⟩:=y;subst e;exact hs i x σ _ (y xs q) p
 ·have e:i=xs.length:=by omega
  subst e;exact .inl ⟨⟨xs,q,tL _⟩,hd σ H p⟩
theorem yJ{lo:Int}{n:Nat}{g:TG}{tb:TS}{D:Ends}{σ:St}{H:Hp}(Pv:Nat->St->Hp->Prop)(h0:Pv 0 σ H)
  (hs:∀i σ H,i<n->Pv i σ H->g (.int (lo+i)) σ H fun σ2 H2=>tb { D with nx:=Pv (i+1),ct:=Pv (i+1),bk:=D.nx } σ2 H2) (hd:∀σ H,Pv n σ H->D.nx σ H) :
  ∃W:Nat->Nat->St->Hp->Prop,(∃m,W 0 m σ H)/\∀i m σ H,W i m σ H->
   ((Itr lo n).stop i H/\D.nx σ H)∨((Itr lo n).go i H/\∃N:St->Hp->Prop,(∀σ' H',N σ' H'->∃m',m'<m/\W (i+1) m' σ' H')/\∀x H',(Itr lo n).yld i H x H'->g x σ H' fun σ2 H2=>tb { D with nx:=N,ct:=N,bk:=D.nx } σ2 H2):=by
 refine⟨λi m σ H=>m=n-i/\i<=n/\Pv i σ H,⟨n,by simp,tM _,h0⟩, ?_⟩;rintro i m σ H ⟨rfl,hi,p⟩;by_cases hlt:i<n
 ·refine .inr ⟨hlt,Pv (i+1),fun σ' H' p'=>⟨n-(i+1),by omega,rfl,hlt,p'⟩,λx H' y=>?_⟩;obtain⟨e,y⟩:=y;subst e y;exact hs i σ _ hlt p
 ·have e:i=n:=by omega
  subst e;exact .inl ⟨tL _,hd σ H p⟩
theorem GQ{c:TT}{tb:TS}{D:Ends}{σ:St}{H:Hp}(Pv:St->Hp->Prop)(μ:St->Hp->Nat)(h0:Pv σ H)
  (hs:∀σ H,Pv σ H->c σ H λb H1=>if b=true then tb { D with nx:=fun σ' H'=>Pv σ' H'/\μ σ' H'<μ σ H,ct:=fun σ' H'=>Pv σ' H'/\μ σ' H'<μ σ H,bk:=D.nx } σ H1 else D.nx σ H1)
  (mono:∀σ H Q Q',(∀b H1,Q b H1->Q' b H1)->c σ H Q->c σ H Q'):JL c tb D σ H:=by
 refine⟨λm σ H=>m=μ σ H/\Pv σ H,⟨_,rfl,h0⟩, ?_⟩;rintro m σ H ⟨rfl,p⟩;refine mono σ H _ _ (λb H1 q=>?_) (hs σ H p);cases b with
 | true=>exact⟨_,fun σ' H' ⟨p',l⟩=>⟨_,l,rfl,p'⟩,q⟩
 | false=>exact q
abbrev R2:=V->V->Hp->VK->Prop
def OpR(X:Cx)(f:Value->Value->Sem Value)(r:R2):Prop:=
 ∀(ac:List (Addr×Obj)) (s:Shared) (σ:St) (H:Hp) (x y:V) (v u:Value) (Q:VK),Inv X ac σ H s->RelV x v->RelV y u->r x y H Q->
  wpAny (model X.prog X.w) X.A (f v u) (EP X ac σ Q) X.xe s
def UnR(X:Cx)(f:Value->Sem Value)(r:V->Hp->VK->Prop):Prop:=
 ∀(ac:List (Addr×Obj)) (s:Shared) (σ:St) (H:Hp) (x:V) (v:Value) (Q:VK),Inv X ac σ H s->RelV x v->r x H Q->
  wpAny (model X.prog X.w) X.A (f v) (EP X ac σ Q) X.xe s
def CallR(X:Cx)(f:Value)(r:List V->Hp->VK->Prop):Prop:=
 ∀(ac:List (Addr×Obj)) (s:Shared) (σ:St) (H:Hp) (xs:List V) (us:List Value) (Q:VK),Inv X ac σ H s->Vals xs us->r xs H Q->
  wpAny (model X.prog X.w) X.A (call f us) (EP X ac σ Q) X.xe s
def tOp(r:R2)(ta tb:TE):TE:=fun σ H Q=>ta σ H λx H1=>tb σ H1 λy H2=>r x y H2 Q
def tUn(r:V->Hp->VK->Prop)(ta:TE):TE:=fun σ H Q=>ta σ H λx H1=>r x H1 Q
def rI(C:Int->Int->Prop)(g:Int->Int->V):R2:=λx y H Q=>∃i j,x=.int i/\y=.int j/\C i j/\Q (g i j) H
def rI0(g:Int->Int->V):R2:=λx y H Q=>∃i j,x=.int i/\y=.int j/\Q (g i j) H
def rU(g:Int->V):V->Hp->VK->Prop:=λx H Q=>∃i,x=.int i/\Q (g i) H
section
variable{X:Cx}{a b c:Expr}{ta tb tc:TE}{pos:Pos}
theorem binT(ha:PE X a ta)(hb:PE X b tb){ac:List (Addr×Obj)}{s:Shared}{σ:St}{H:Hp}{R:V->V->Hp->Prop}(I:Inv X ac σ H s)
  (h:ta σ H λx H1=>tb σ H1 λy H2=>R x y H2) {Q:Value->Shared->Prop} {f:Value->Value->Sem Value}
  (hf:∀v u s2 x y H2,Inv X ac σ H2 s2->RelV x v->RelV y u->R x y H2->wpAny (model X.prog X.w) X.A (f v u) Q X.xe s2) :
  wpAny (model X.prog X.w) X.A (eval a X.env) (λv s₁=>wpAny (model X.prog X.w) X.A (eval b X.env) (λu s₂=>wpAny (model X.prog X.w) X.A (f v u) Q X.xe s₂) X.xe s₁) X.xe s:=by
 refine thn (ha ac s σ H _ I h) λv s1 ⟨x,H1,I1,r1,q1⟩=>?_;refine thn (hb ac s1 σ H1 _ I1 q1) λu s2 ⟨y,H2,I2,r2,q2⟩=>?_;exact hf v u s2 x y H2 I2 r1 r2 q2
theorem jK{op:Operator}{r:R2}(ho:OpR X (binaryOp op) r)(ha:PE X a ta)(hb:PE X b tb):PE X (.BinOp a op b pos) (tOp r ta tb):=by
 intro ac s σ H Q I h;exact wpAny_BinOp (binT ha hb I h λv u s2 x y H2 I2 rx ry q=>ho ac s2 σ H2 x y v u Q I2 rx ry q)
theorem vI{op:UnaryOp}{r:V->Hp->VK->Prop}(ho:UnR X (unaryOp op) r)(ha:PE X a ta):PE X (.UnaryOp op a pos) (tUn r ta):=by
 intro ac s σ H Q I h;exact UnaryOp_ (thn (ha ac s σ H _ I h) λv s1 ⟨x,H1,I1,r1,q1⟩=>ho ac s1 σ H1 x v Q I1 r1 q1)
theorem opI{f:Value->Value->Sem Value}{C:Int->Int->Prop}{g:Int->Int->Int}
  (rule:∀(i j:Int) (t u:Tok) (s:Shared) (Q:Value->Shared->Prop) (E:Value->Shared->Prop),C i j->Q (.int (g i j) s.toks) { s with toks:=s.toks+1 }->wpAny (model X.prog X.w) X.A (f (.int i t) (.int j u)) Q E s) :
  OpR X f (rI C λi j=>.int (g i j)):=by
 intro ac s σ H x y v u Q I rx ry h;obtain⟨i,j,rfl,rfl,hc,q⟩:=h;obtain⟨t,rfl⟩:=rx;obtain⟨t',rfl⟩:=ry;exact rule i j t t' s _ _ hc ⟨.int (g i j),H,I.tok _,⟨_,rfl⟩,q⟩
theorem opI0{f:Value->Value->Sem Value}{g:Int->Int->Int}
  (rule:∀(i j:Int) (t u:Tok) (s:Shared) (Q:Value->Shared->Prop) (E:Value->Shared->Prop),Q (.int (g i j) s.toks) { s with toks:=s.toks+1 }->wpAny (model X.prog X.w) X.A (f (.int i t) (.int j u)) Q E s) :
  OpR X f (rI0 λi j=>.int (g i j)):=by
 intro ac s σ H x y v u Q I rx ry h;obtain⟨i,j,rfl,rfl,q⟩:=h;obtain⟨t,rfl⟩:=rx;obtain⟨t',rfl⟩:=ry;exact rule i j t t' s _ _ ⟨.int (g i j),H,I.tok _,⟨_,rfl⟩,q⟩
theorem VZ{f:Value->Value->Sem Value}{g:Int->Int->Bool}
  (rule:∀(i j:Int) (t u:Tok) (s:Shared) (Q:Value->Shared->Prop) (E:Value->Shared->Prop),Q (.bool (g i j)) s->wpAny (model X.prog X.w) X.A (f (.int i t) (.int j u)) Q E s) :
  OpR X f (rI0 λi j=>.bl (g i j)):=by
 intro ac s σ H x y v u Q I rx ry h;obtain⟨i,j,rfl,rfl,q⟩:=h;obtain⟨t,rfl⟩:=rx;obtain⟨t',rfl⟩:=ry;exact rule i j t t' s _ _ ⟨.bl (g i j),H,I,rfl,q⟩
def CDiv(i j:Int):Prop:=0<j/\j<1073741824
def CPow(i j:Int):Prop:=0<=j/\j<=1000000/\i.natAbs<2^64
def CMul(i j:Int):Prop:=(-(2^64)<i/\i<2^64)∨(-(2^64)<j/\j<2^64)
theorem CMul.ok{i j:Int}(h:CMul i j):IntMulOk i j:=by
 rcases h with⟨h1,h2⟩ | ⟨h1,h2⟩
 ·exact .of_left (intBits_le_64 h1 h2)
 ·exact .of_right (intBits_le_64 h1 h2)
theorem kJ:OpR X (binaryOp .Add) (rI0 λi j=>.int (i+j)):=opI0 λ_ _ _ _ _ _ _ q=>add_int q
theorem zH:OpR X (binaryOp .Sub) (rI0 λi j=>.int (i-j)):=opI0 λ_ _ _ _ _ _ _ q=>sub_int q
theorem wG:OpR X (binaryOp .Mult) (rI CMul λi j=>.int (i*j)):=opI λ_ _ _ _ _ _ _ hc q=>mul_int q hc.ok
theorem VX:OpR X (binaryOp .FloorDiv) (rI CDiv λi j=>.int (i/j)):=opI λi j _ _ _ _ _ hc q=>by
 have h1:(0:Int)<j:=hc.1;have h2:j<1073741824:=hc.2;exact floordiv_int (by omega) (by rw[Int.fdiv_eq_ediv_of_nonneg i (by omega)];exact q) (.inl (PyProof.noPylong_small (by omega)))
theorem xF:OpR X (binaryOp .Mod) (rI (λ_ j=>0<j) λi j=>.int (i%j)):=opI λi j _ _ _ _ _ hc q=>by
 have h1:(0:Int)<j:=hc;exact mod_int' (by omega) (by rw[Int.fmod_eq_emod_of_nonneg i (by omega)];exact q)
theorem FH:OpR X (binaryOp .Pow) (rI CPow λi j=>.int (i^j.toNat)):=opI λ_ _ _ _ _ _ _ hc q=>pow_int_small hc.1 hc.2.1 hc.2.2 q
theorem unI{f:Value->Sem Value}{g:Int->Int}
  (rule:∀(i:Int) (t:Tok) (s:Shared) (Q:Value->Shared->Prop) (E:Value->Shared->Prop),Q (.int (g i) s.toks) { s with toks:=s.toks+1 }->wpAny (model X.prog X.w) X.A (f (.int i t)) Q E s) :
  UnR X f (rU λi=>.int (g i)):=by
 intro ac s σ H x v Q I rx h;obtain⟨i,rfl,q⟩:=h;obtain⟨t,rfl⟩:=rx;exact rule i t s _ _ ⟨.int (g i),H,I.tok _,⟨_,rfl⟩,q⟩
theorem qJ:UnR X (unaryOp .USub) (rU λi=>.int (-i)):=unI λ_ _ _ _ _ q=>neg_int q
end
def scal:V->V->Bool
 | .non,.non=>true | .non,.int _=>true | .int _,.non=>true | .non,.bl _=>true | .bl _,.non=>true | .non,.str _=>true | .str _,.non=>true
 | .int _,.int _=>true | .bl _,.bl _=>true | .str _,.str _=>true | .byt _,.byt _=>true
 | .int _,.str _=>true | .str _,.int _=>true | .bl _,.str _=>true | .str _,.bl _=>true
 | _,_=>false
def rEq:R2:=λx y H Q=>scal x y=true/\Q (.bl (decide (x=y))) H
def rNe:R2:=λx y H Q=>scal x y=true/\Q (.bl (!decide (x=y))) H
theorem ND{i j:Int} :decide (V.int i=V.int j)=(i==j):=by
 rw[Bool.eq_iff_iff];simp
theorem UO{i j:Bool} :decide (V.bl i=V.bl j)=(i==j):=by
 rw[Bool.eq_iff_iff];simp
theorem NC{i j:Str} :decide (V.str i=V.str j)=(i==j):=by
 rw[Bool.eq_iff_iff];simp
theorem NE{i j:Array UInt8} :decide (V.byt i=V.byt j)=(i.toList==j.toList):=by
 rw[Bool.eq_iff_iff];cases i;cases j;simp
section
variable{X:Cx}{a b c:Expr}{ta tb tc:TE}{pos:Pos}
theorem kL{ac:List (Addr×Obj)}{σ:St}{H:Hp}{s:Shared}{Q:VK}{k k':Bool}(I:Inv X ac σ H s)(q:Q (.bl k) H)(e:k=k'):EP X ac σ Q (.bool k') s:=by
 subst e;exact⟨.bl k,H,I,rfl,q⟩
theorem xX:OpR X (compareOp .Eq) rEq:=by
 intro ac s σ H x y v u Q I rx ry h;obtain⟨hs,q⟩:=h;cases x with
 | non=>
  cases rx;cases y with
  | non=>cases ry;exact PySem.EqNone.eq_none_none (kL I q (by simp))
  | bl j=>cases ry;exact PySem.EqNone.eq_none_bool (kL I q (by simp))
  | int j=>obtain⟨t',rfl⟩:=ry;exact PySem.EqNone.eq_none_int (kL I q (by simp))
  | str j=>obtain⟨t',rfl⟩:=ry;exact PySem.EqNone.eq_none_str (kL I q (by simp))
  | _=>exact absurd (show false=true from hs) hZ
 | bl i=>
  cases rx;cases y with
  | non=>cases ry;exact PySem.EqNone.eq_bool_none (kL I q (by simp))
  | bl j=>cases ry;exact eq_bool (kL I q UO)
  | str j=>obtain⟨t',rfl⟩:=ry;exact PySem.EqMixed.eq_bool_str (kL I q (by simp))
  | _=>exact absurd (show false=true from hs) hZ
 | int i=>
  obtain⟨t,rfl⟩:=rx;cases y with
  | non=>cases ry;exact PySem.EqNone.eq_int_none (kL I q (by simp))
  | int j=>obtain⟨t',rfl⟩:=ry;exact eq_int (kL I q ND)
  | str j=>obtain⟨t',rfl⟩:=ry;exact PySem.EqMixed.eq_int_str (kL I q (by simp))
  | _=>exact absurd (show false=true from hs) hZ
 | str i=>
  obtain⟨t,rfl⟩:=rx;cases y with
  | non=>cases ry;exact PySem.EqNone.eq_str_none (kL I q (by simp))
  | bl j=>cases ry;exact PySem.EqMixed.eq_str_bool (kL I q (by simp))
  | int j=>obtain⟨t',rfl⟩:=ry;exact PySem.EqMixed.eq_str_int (kL I q (by simp))
  | str j=>obtain⟨t',rfl⟩:=ry;exact eq_str (kL I q NC)
  | _=>exact absurd (show false=true from hs) hZ
 | byt i=>
  obtain⟨t,rfl⟩:=rx;cases y with
  | byt j=>obtain⟨t',rfl⟩:=ry;exact PySem.W.eq_bytes (kL I q NE)
  | _=>exact absurd (show false=true from hs) hZ
 | _=>cases y<;>exact absurd (show false=true from hs) hZ
theorem HR:OpR X (compareOp .NotEq) rNe:=by
 intro ac s σ H x y v u Q I rx ry h;obtain⟨hs,q⟩:=h;cases x with
 | non=>
  cases rx;cases y with
  | non=>cases ry;exact PySem.EqNone.ne_none_none (kL I q (by simp))
  | bl j=>cases ry;exact PySem.EqNone.ne_none_bool (kL I q (by simp))
  | int j=>obtain⟨t',rfl⟩:=ry;exact PySem.EqNone.ne_none_int (kL I q (by simp))
  | str j=>obtain⟨t',rfl⟩:=ry;exact PySem.EqNone.ne_none_str (kL I q (by simp))
  | _=>exact absurd (show false=true from hs) hZ
 | bl i=>
  cases rx;cases y with
  | non=>cases ry;exact PySem.EqNone.ne_bool_none (kL I q (by simp))
  | bl j=>cases ry;exact ne_bool (kL I q (congrArg not UO))
  | str j=>obtain⟨t',rfl⟩:=ry;exact PySem.EqMixed.ne_bool_str (kL I q (by simp))
  | _=>exact absurd (show false=true from hs) hZ
 | int i=>
  obtain⟨t,rfl⟩:=rx;cases y with
  | non=>cases ry;exact PySem.EqNone.ne_int_none (kL I q (by simp))
  | int j=>obtain⟨t',rfl⟩:=ry;exact ne_int (kL I q (congrArg not ND))
  | str j=>obtain⟨t',rfl⟩:=ry;exact PySem.EqMixed.ne_int_str (kL I q (by simp))
  | _=>exact absurd (show false=true from hs) hZ
 | str i=>
  obtain⟨t,rfl⟩:=rx;cases y with
  | non=>cases ry;exact PySem.EqNone.ne_str_none (kL I q (by simp))
  | bl j=>cases ry;exact PySem.EqMixed.ne_str_bool (kL I q (by simp))
  | int j=>obtain⟨t',rfl⟩:=ry;exact PySem.EqMixed.ne_str_int (kL I q (by simp))
  | str j=>obtain⟨t',rfl⟩:=ry;exact ne_str (kL I q (congrArg not NC))
  | _=>exact absurd (show false=true from hs) hZ
 | byt i=>
  obtain⟨t,rfl⟩:=rx;cases y with
  | byt j=>obtain⟨t',rfl⟩:=ry;exact PySem.W.ne_bytes (kL I q (congrArg not NE))
  | _=>exact absurd (show false=true from hs) hZ
 | _=>cases y<;>exact absurd (show false=true from hs) hZ
theorem zX:OpR X (compareOp .Lt) (rI0 λi j=>.bl (decide (i<j))):=VZ λ_ _ _ _ _ _ _ q=>lt_int q
theorem op_le:OpR X (compareOp .LtE) (rI0 λi j=>.bl (decide (i<=j))):=VZ λ_ _ _ _ _ _ _ q=>le_int q
theorem uP:OpR X (compareOp .Gt) (rI0 λi j=>.bl (decide (j<i))):=VZ λ_ _ _ _ _ _ _ q=>gt_int q
theorem op_ge:OpR X (compareOp .GtE) (rI0 λi j=>.bl (decide (j<=i))):=VZ λ_ _ _ _ _ _ _ q=>ge_int q
theorem jY(b:Expr){op:CmpOp}(h:op≠.In:=by decide)(h2:op≠.NotIn:=by decide):behindInMarks op b=false:=by
 have e1:(op==CmpOp.In)=false:=by cases op<;>first | rfl | exact absurd rfl h
 have e2:(op==CmpOp.NotIn)=false:=by cases op<;>first | rfl | exact absurd rfl h2
 cases b<;>simp [behindInMarks,e1,e2]
theorem zS{op:CmpOp}{r:R2}(ho:OpR X (compareOp op) r)(ha:PE X a ta)(hb:PE X b tb)(hm:behindInMarks op b=false):PE X (.Compare a [op] [b] pos) (tOp r ta tb):=by
 intro ac s σ H Q I h;exact wpAny_Compare1 (binT ha hb I h λv u s2 x y H2 I2 rx ry q=>ho ac s2 σ H2 x y v u Q I2 rx ry q) hm
def LG(t:TE):TT:=fun σ H Q=>t σ H λx H'=>∃k,x=.bl k/\Q k H'
theorem jT{op:CmpOp}{r:R2}(ho:OpR X (compareOp op) r)(ha:PE X a ta)(hb:PE X b tb)(hm:behindInMarks op b=false):PT X (.Compare a [op] [b] pos) (LG (tOp r ta tb)):=by
 intro ac s σ H Q I h;refine wpAny_isTrue_Compare1 (thn (ha ac s σ H _ I h) λv s1 ⟨x,H1,I1,r1,q1⟩=>thn (hb ac s1 σ H1 _ I1 q1) λu s2 ⟨y,H2,I2,r2,q2⟩=>
  thn (ho ac s2 σ H2 x y v u _ I2 r1 r2 q2) λc s3 ⟨z,H3,I3,r3,k,e,q3⟩=>?_) hm
 subst e;cases r3;exact wpAny_truthy_bool ⟨H3,I3,q3⟩
theorem FK:(sizeLine:Nat)<2^63:=by rw[sizeLine_eq];decide
theorem xK{x:V}{us:List Value}(r:Vals [x] us):∃u,us=[u]/\RelV x u:=by
 cases r with
 | cons r1 r2=>cases r2;exact⟨_,rfl,r1⟩
theorem YH{x y:V}{us:List Value}(r:Vals [x,y] us):∃u w',us=[u,w']/\RelV x u/\RelV y w':=by
 cases r with
 | cons r1 r2=>
  cases r2 with
  | cons r3 r4=>cases r4;exact⟨_,_,rfl,r1,r3⟩
theorem UX:CallR X (.builtin "abs") (λxs H Q=>∃i,xs=[.int i]/\Q (.int (if i<0 then -i else i)) H):=by
 intro ac s σ H xs us Q I r h;obtain⟨i,rfl,q⟩:=h;obtain⟨u,rfl,t,rfl⟩:=xK r;exact call_abs_int λu tk=>⟨.int (if i<0 then -i else i),H,I.tok _,⟨_,rfl⟩,q⟩
theorem EC:CallR X (.type "int") (λxs H Q=>(∃i,xs=[.int i]/\Q (.int i) H)∨∃k,xs=[.bl k]/\Q (.int (if k then 1 else 0)) H):=by
 intro ac s σ H xs us Q I r h;rcases h with⟨i,rfl,q⟩ | ⟨k,rfl,q⟩
 ·obtain⟨u,rfl,t,rfl⟩:=xK r;exact call_int_int ⟨.int i,H,I,⟨_,rfl⟩,q⟩
 ·obtain⟨u,rfl,r1⟩:=xK r;cases r1;exact call_int_bool ⟨.int (if k then 1 else 0),H,I.tok _,⟨_,rfl⟩,q⟩
end
structure ObjM(h:Heap)(x dx C:Addr)(mA:Str->Option Value):Prop where
 obj:h.get? x=some (PySem.W.instObj C dx)
 ns:h.Ns1 dx mA
 ne:dx≠x
section
variable{prog:Program}{w:World}{A:Around}{E:Value->Shared->Prop}{s:Shared}{K:tX}{x dx C f:Addr}{mA:Str->Option Value}{name:Str}{v:Value}
end
theorem RelO.some_of{v:V}{o:Option Value}(r:RelO (some v) o):∃u,o=some u/\RelV v u:=by
 cases o with
 | none=>exact(show False from r).elim
 | some u=>exact⟨u,rfl,r⟩
section
variable{P:Program}{w:World}{H H':Hp}{h h':Heap}{a C dx:Addr}{fs fs':List (Str×V)}
end
structure Cls(K:tX)(C:Addr):Prop where
 pg:PySem.W.plainGet K C Str.empty=true
 hd:PySem.W.hasDictIn K C=true
 po:PySem.W.plainOver K C=true
 sa:PySem.W.findIn K (.ref C) "__setattr__" = some (some (.builtin "object.__setattr__"))
structure Con(K:tX)(C:Addr)(f:Str)(v:V)(u:Value):Prop where
 at_:PySem.W.findIn K (.ref C) f=some (some u)
 rel:RelV v u
 get:PySem.W.specialIn K u "__get__" = some none
 cp:PySem.W.copiedNames.contains f=false
structure Meth(K:tX)(C:Addr)(m:Str)(f:Addr):Prop where
 at_:PySem.W.findIn K (.ref C) m=some (some (.ref f))
 fn:PySem.W.isFn K (.ref f)=true
 kp:PySem.W.keepIn K (.ref f)=true
section
variable{X:Cx}{ac:List (Addr×Obj)}{σ:St}{H:Hp}{s:Shared}{a C dx:Addr}{fs:List (Str×V)}{f:Str}{v:V}{A:Around}{E:Value->Shared->Prop}
end
section
variable{X:Cx}{o e value:Expr}{f:Str}{pos pos' tpos:Pos}{ta tv:TE}
end
section
variable{X:Cx}{ac:List (Addr×Obj)}{σ:St}{H:Hp}{s:Shared}{A:Around}{E:Value->Shared->Prop}{Q:Value->Shared->Prop}{c:Value}{b:Bool}
inductive TyOf(K:tX)(H:Hp):V->Value->Prop where
 | non:TyOf K H .non (.type "NoneType")
 | bl (x:Bool):TyOf K H (.bl x) (.type "bool")
 | int (i:Int):TyOf K H (.int i) (.type "int")
 | str (x:Str):TyOf K H (.str x) (.type "str")
 | flt (x:UInt64):TyOf K H (.flt x) (.type "float")
 | lst {a:Addr} {xs:List V} (e:H a=some (.lst xs)):TyOf K H (.ref a) (.type "list")
 | frz {a:Addr} {o:Obj} {xs:List V} (e:H a=some (.frz o (.lst xs))):TyOf K H (.ref a) (.type "list")
 | tup {a:Addr} {xs:List V} (e:H a=some (.tup xs)):TyOf K H (.ref a) (.type "tuple")
 | dK {a:Addr} {ag:List (Key×V)} (e:H a=some (.dK ag)):TyOf K H (.ref a) (.type "dict")
 | dT {a:Addr} {ag:List (List Key×V)} (e:H a=some (.dT ag)):TyOf K H (.ref a) (.type "dict")
 | ins {a C dx:Addr} {fs:List (Str×V)} (e:H a=some (.ins C dx fs)) (cl:Cls K C) (ha:PySem.W.findIn K (.ref C) "__class__" = some (some (.builtin "object.__class__")))
   (hn:PySem.W.specialIn K (.builtin "object.__class__") "__get__" = some (some (.builtin "getset_descriptor.__get__"))) (htk:PySem.W.takesIn K (.builtin "object.__class__")=some true)
   (hm:PySem.W.mroIn K C (.type "object")=some true):TyOf K H (.ref a) (.ref C)
end
structure Room(k:Nat)(A:Around):Prop where
 hd:A.handled=none
 dp:A.depth+3*k+5<recursionLimit
 un:A.units+16*k+200<cLine
theorem Room.mono{j k:Nat}{A:Around}(r:Room k A)(h:j<=k):Room j A:=⟨r.hd,by have:=r.dp;omega,by have:=r.un;omega⟩
theorem Room.deeper{k:Nat}{A:Around}(r:Room (k+1) A)(env:Env):Room k (A.deeper env):=
 ⟨r.hd,by have:=r.dp;show A.depth+1+3*k+5<_;omega,by have:=r.un;show A.units+3+16*k+200<_;omega⟩
theorem KM{A:Around}{C:Addr}{us:List Value}{kw:List (Str×Value)} :(A.under (.builtin "type.__call__" ⟨.ref C::us,kw⟩)).depth=A.depth+1:=by
 first | rfl | simp [Around.under,Code.weight,Code.isCreation,Code.isGuard,Code.isCaller,Code.frames,Code.isFrame,guardIds]
theorem KL{A:Around}{C:Addr}{us:List Value}{kw:List (Str×Value)} :(A.under (.builtin "type.__call__" ⟨.ref C::us,kw⟩)).units=A.units+1:=by
 first | rfl | simp [Around.under,Code.cUnits,Code.frames,Code.isFrame]
theorem Room.make{k:Nat}{A:Around}(r:Room (k+1) A)(C:Addr)(us:List Value)(kw:List (Str×Value)):Room k (A.under (.builtin "type.__call__" ⟨.ref C::us,kw⟩)):=
 ⟨r.hd,by have:=r.dp;rw[KM];omega,by have:=r.un;rw[KL];omega⟩
theorem Room.depth{k:Nat}{A:Around}(r:Room k A):A.depth<recursionLimit:=by have:=r.dp;omega
theorem Room.units{k:Nat}{A:Around}(r:Room k A):A.units+64<cLine:=by have:=r.un;omega
theorem Room.units0{k:Nat}{A:Around}(r:Room k A):A.units<cLine:=by have:=r.un;omega
def tNil:TA:=λ_ H Q=>Q [] H
def qX(ta:TE)(tr:TA):TA:=fun σ H Q=>ta σ H λx H1=>tr σ H1 λxs H2=>Q (x::xs) H2
section
variable{X:Cx}{e:Expr}{es:List Expr}{te:TE}{t:TA}{pos:Pos}
theorem jC:PA X [] tNil:=λ_ _ _ _ H Q I h=>Calls.spliced_nil ⟨[],H,I,.nil,h⟩
theorem jA(ha:PE X e te)(hr:PA X es t)(hs:starEach (e::es) X.env=(false,eval e X.env)::starEach es X.env:=by rfl):PA X (e::es) (qX te t):=by
 intro pos ac s σ H Q I h;rw[hs];show wpAny _ _ (spliced ((false,eval e X.env)::backTo pos (starEach es X.env))) _ _ s;refine Calls.spliced_cons (thn (ha ac s σ H _ I h) λu s1 ⟨x,H1,I1,r1,q1⟩=>?_);exact thn (hr pos ac s1 σ H1 _ I1 q1) λus s2 ⟨xs,H2,I2,r2,q2⟩=>⟨x::xs,H2,I2,.cons r1 r2,q2⟩
def tTup(t:TA):TE:=fun σ H Q=>t σ H λxs H1=>xs.length<=sizeLine/\∀p,H1 p=none->Q (.ref p) (upd H1 p (.tup xs))
theorem ZP{x1}(h:PA X es t):PE X (.Tuple es x1 pos) (tTup t):=by
 intro ac s σ H Q I hq;refine wpAny_Tuple_spliced (thn (h pos ac s σ H _ I hq) λus s1 ⟨xs,H1,I1,r,z,q⟩=>⟨by rw[<-r.length];exact z, ?_⟩);have hf:H1 s1.heap.objs.size=none:=I1.hok.fresh uV ;refine⟨.ref s1.heap.objs.size,upd H1 s1.heap.objs.size (.tup xs),I1.laid (t':=s1.toks) (λb u e=>gK _ e) uV ?_,rfl,q _ hf⟩;exact⟨z,us,r,⟨_,gZ _ rfl,rfl,_,rfl⟩,.of (gZ _ rfl) rfl⟩
end
abbrev Sp:=List V->Hp->VK->XK->Prop
abbrev CXT:=List Env->Hp->Shared->XK->Value->Shared->Prop
structure Env0(P:Program)(w:World)(K:tX)(mg:Str->Option Value)(base:Heap)(A:Around)(outer:List Env)(s:Shared)(H:Hp):Prop where
 frames:A.frames=some outer
 mod:Mod K mg base
 bs:∀b o,base.get? b=some o->s.heap.get? b=some o/\H b=none
 bsz:base.objs.size<=s.heap.objs.size
 funs:s.heap.FunFrames base outer
 frf:∀b∈frs outer,H b=none
 hok:HOk P w H s.heap
 bare:AllBare s.gens
def CE(outer:List Env)(P:Program)(w:World)(H:Hp)(s:Shared)(Q:VK)(u:Value)(s':Shared):Prop:=
 ∃v H',s'.os=s.os/\AllBare s'.gens/\Un (frs outer) [] H H' s.heap s'.heap/\HOk P w H' s'.heap/\RelV v u/\Q v H'
def CR(CX:CXT)(outer:List Env)(P:Program)(w:World)(H:Hp)(s:Shared)(Q:VK)(E:XK)(r:Result)(s':Shared):Prop:=
 match r with
 | .ok (.ret u)=>CE outer P w H s Q u s'
 | .ok _=>False
 | .error e=>CX outer H s E e s'
structure FnOk(P:Program)(w:World)(K:tX)(mg:Str->Option Value)(base:Heap)(CX:CXT)(k:Nat)(f:Addr)(fd:FuncData)(ps:List Str)(sp:Sp):Prop where
 len:∀vs H Q E,sp vs H Q E->vs.length=ps.length
 run:∀(A:Around) (outer:List Env) (s:Shared) (H:Hp) (args:Args) (us:List Value) (vs:List V) (Q:VK) (E:XK),Room k A->Env0 P w K mg base A outer s H->BindsTo s fd args (ps.zip us)->Vals vs us->sp vs H Q E->
  codeAny (model P w) A (.call (.ref f) args) (CR CX outer P w H s Q E) s
theorem Env0.make{P:Program}{w:World}{K:tX}{mg:Str->Option Value}{base:Heap}{A:Around}{outer:List Env}{s:Shared}{H:Hp}(e:Env0 P w K mg base A outer s H)(C:Addr)(us:List Value)(kw:List (Str×Value)) :
  Env0 P w K mg base (A.under (.builtin "type.__call__" ⟨.ref C::us,kw⟩)) outer s H:=⟨by first | exact e.frames | (simpa [Around.under,Code.envs,Code.isFrame,pushEnvs]using e.frames),e.mod,e.bs,e.bsz,e.funs,e.frf,e.hok,e.bare⟩
section
variable{X:Cx}{ac:List (Addr×Obj)}{σ:St}{H:Hp}{s s':Shared}
theorem Inv.env0(I:Inv X ac σ H s):Env0 X.prog X.w X.K X.mg X.base X.A X.stack s H:=
 ⟨I.ok.frames,I.ok.mod,I.bs,nY I.ok.bsz I.sz,I.stack,I.stkFree,I.hok,I.bare⟩
theorem Inv.after{Q:VK}{u:Value}(I:Inv X ac σ H s)(h:CE X.stack X.prog X.w H s Q u s'):EP X ac σ Q u s':=by
 obtain⟨v,H',os,bare,un,hok,r,q⟩:=h;obtain⟨hh,g,d,t,os'⟩:=s';obtain rfl:os'=s.os:=os;exact⟨v,H',I.call (h':=hh) (g':=g) (d':=d) (t':=t) (ch:=[]) un hok bare (λb z=>absurd z (by simp)),r,q⟩
end
def LH(sp:Sp)(dvs:List V)(E:XK)(t:TA):TE:=fun σ H Q=>t σ H λvs H1=>sp (vs++dvs) H1 Q E
def Binds(K:tX)(fd:FuncData)(ps:List Str)(ds:List Value):Prop:=
 ∀(s:Shared) (us:List Value),K.In s.heap->(us++ds).length=ps.length->BindsTo s fd ⟨us,[]⟩ (ps.zip (us++ds))
theorem Binds.all{K:tX}{fd:FuncData}{ps:List Str}(h:∀us:List Value,us.length=ps.length->bindArgs fd ⟨us,[]⟩=pure (ps.zip us)):Binds K fd ps []:=λs us _ hl=>by
 rw[List.append_nil]at hl ⊢;exact .of_eq (h us hl)
def Passes(CX:CXT)(X:Cx)(E:XK):Prop:=∀(ac:List (Addr×Obj)) (σ:St) (H:Hp) (s:Shared) (e:Value) (s':Shared),Inv X ac σ H s->CX X.stack H s E e s'->X.xe e s'
section
variable{X:Cx}{CX:CXT}{k:Nat}{f C:Addr}{fd:FuncData}{ps:List Str}{sp:Sp}{dvs:List V}{ds:List Value}{E:XK}{x m:Str}{p pos apos:Pos}{e o:Expr}{es:List Expr}{ta:TE}{t:TA}
theorem JS{ac:List (Addr×Obj)}{σ:St}{H:Hp}{s:Shared}{Q:VK}{us:List Value}{vs:List V}(F:FnOk X.prog X.w X.K X.mg X.base CX k f fd ps sp)(hr:Room k X.A)(hb:Binds X.K fd ps ds)(hd:Vals dvs ds)(hx:Passes CX X E)
  (I:Inv X ac σ H s) (r:Vals vs us) (h:sp (vs++dvs) H Q E):wpAny (model X.prog X.w) X.A (call (.ref f) us) (EP X ac σ Q) X.xe s:=by
 have r2:Vals (vs++dvs) (us++ds):=r.append hd;have hl:(us++ds).length=ps.length:=by rw[<-r2.length];exact F.len _ _ _ _ h
 refine wpAny_call (codeAny_mono (F.run X.A X.stack s H ⟨us,[]⟩ (us++ds) (vs++dvs) Q E hr I.env0 (hb s us I.kIn hl) r2 h) λr s' hq=>?_);cases r with
 | error e=>exact hx ac σ H s e s' I hq
 | ok fl=>
  cases fl with
  | ret u=>exact I.after hq
  | next=>exact False.elim hq
  | brk=>exact False.elim hq
  | cont=>exact False.elim hq
theorem jG(F:FnOk X.prog X.w X.K X.mg X.base CX k f fd ps sp)(hr:Room k X.A)(hg:Gl X x)(hm:X.mg x=some (.ref f))(hk:PySem.W.keepIn X.K (.ref f)=true)(hb:Binds X.K fd ps ds)(hd:Vals dvs ds)(hx:Passes CX X E)
  (ha:PA X (e::es) t) (hdb:(x==("__debug__" :Str))=false:=by decide) (he:starEach (e::es) X.env=(false,eval e X.env)::starEach es X.env:=by rfl) (hpl:(backTo pos (starEach es X.env)).any (·.1)=false:=by rfl) :
  PE X (.Call (.Name x p) (e::es) [] pos) (LH sp dvs E t):=by
 intro ac s σ H Q I h;refine wpAny_Call_Name_kw (wT I hg hm ?_ hdb);refine PySem.W.callWith_K (h₀:=X.base) I.ok.mod.kin hk (thn (ha pos ac s σ H _ I h) λus s1 ⟨vs,H1,I1,r,q⟩=>⟨I1.kIn, ?_⟩) he hpl;exact JS F hr hb hd hx I1 r q
structure Mk(K:tX)(C f:Addr):Prop where
 makes:PySem.W.makesIn K C=true
 init:PySem.W.findIn K (.ref C) "__init__" = some (some (.ref f))
 fn:PySem.W.isFn K (.ref f)=true
 kp:PySem.W.keepIn K (.ref C)=true
end
def PK(X:Cx)(kws:List Keyword)(t:TA):Prop:=
 ∀(pos:Pos) (ac:List (Addr×Obj)) (s:Shared) (σ:St) (H:Hp) (Q:List V->Hp->Prop),Inv X ac σ H s->t σ H Q->wpAny (model X.prog X.w) X.A (evalAll ((backToKw pos (keywordEach kws X.env)).map (·.2))) (AP X ac σ Q) X.xe s
section
variable{X:Cx}{CX:CXT}{k:Nat}{f C:Addr}{fd:FuncData}{ps ks:List Str}{sp:Sp}{E:XK}{x m:Str}{p pos apos kpos:Pos}{e o:Expr}{es:List Expr}{kws:List Keyword}{te ta:TE}{t tk:TA}{nm:Option Str}
theorem ZM:PK X [] tNil:=λ_ _ _ _ H Q I h=>wpAny_evalAll_nil ⟨[],H,I,.nil,h⟩
theorem VU(ha:PE X e te)(hr:PK X kws t):PK X (⟨nm,e,kpos⟩::kws) (qX te t):=by
 intro pos ac s σ H Q I h;show wpAny _ _ (evalAll ((do let v<-eval e X.env;standAt pos;pure v)::(backToKw pos (keywordEach kws X.env)).map (·.2))) _ _ s;refine wpAny_evalAll_cons (tS (thn (ha ac s σ H _ I h) λu s1 ⟨x,H1,I1,r1,q1⟩=>tS (wpAny_standAt (tT ?_))));exact thn (hr pos ac s1 σ H1 _ I1 q1) λus s2 ⟨xs,H2,I2,r2,q2⟩=>⟨x::xs,H2,I2,.cons r1 r2,q2⟩
structure KBinds(K:tX)(fd:FuncData)(ps ks:List Str)(g:List Value->List Value->List Value)(gV:List V->List V->List V):Prop where
 to:∀(s:Shared) (us ws:List Value),K.In s.heap->(g us ws).length=ps.length->BindsTo s fd ⟨us,ks.zip ws⟩ (ps.zip (g us ws))
 rel:∀{vs:List V} {us:List Value} {zs:List V} {ws:List Value},Vals vs us->Vals zs ws->Vals (gV vs zs) (g us ws)
variable{g:List Value->List Value->List Value}{gV:List V->List V->List V}
end
structure FnScope(N P:List Str)(sc:Scope):Prop where
 kind:sc.kind=.function
 co:sc.isCoroutine=false
 gen:sc.isGenerator=false
 nd:N.Nodup
 pre:N.take P.length=P
 par:∀x∈P,sc.names.lookup x=some .local∨sc.names.lookup x=some .cell
 nofree:∀y∈sc.names,y.2≠.free
theorem ED{kindOf:Str->Option NameKind}{x:Str} :∀{binds:List (Str×Value)} {m:Str->Option Value},(∀v,(x,v)∉binds)->bindL kindOf binds m x=m x
 | [],_,_=>rfl
 | (n,v)::r,m,h=>by
  unfold bindL;rw[ED λw hw=>h w (gT _ hw)];split
  ·have:x≠n:=by rintro rfl;exact h v mF
   simp [this]
  ·rfl
theorem EG{kindOf:Str->Option NameKind}{x:Str} :∀{binds:List (Str×Value)} {m:Str->Option Value},(∀v,(x,v)∉binds)->bindC kindOf binds m x=m x
 | [],_,_=>rfl
 | (n,v)::r,m,h=>by
  unfold bindC;rw[EG λw hw=>h w (gT _ hw)];split
  ·rfl
  ·have:x≠n:=by rintro rfl;exact h v mF
   simp [this]
theorem EF{kindOf:Str->Option NameKind}{x:Str}{v:Value} :∀{P:List Str} {vs:List Value} {i:Nat} {m:Str->Option Value},P.Nodup->P[i]? = some x->vs[i]? = some v->kindOf x=some .local->
  bindL kindOf (P.zip vs) m x=some v
 | [],_,_,_,_,h,_,_=>by simp at h
 | _::_,[],_,_,_,_,h,_=>by simp at h
 | p::P,w::vs,0,m,nd,h1,h2,hk=>by
  simp at h1 h2;subst h1;subst h2;show bindL kindOf ((p,w)::P.zip vs) m p=_;unfold bindL;rw[ED λv hv=>(List.nodup_cons.mp nd).1 (List.of_mem_zip hv).1,tW hk];simp
 | p::P,w::vs,i+1,m,nd,h1,h2,hk=>by
  show bindL kindOf ((p,w)::P.zip vs) m x=_;unfold bindL;exact EF (i:=i) (List.nodup_cons.mp nd).2 (by simpa using h1) (by simpa using h2) hk
theorem EH{kindOf:Str->Option NameKind}{x:Str}{v:Value} :∀{P:List Str} {vs:List Value} {i:Nat} {m:Str->Option Value},P.Nodup->P[i]? = some x->vs[i]? = some v->kindOf x≠some .local->
  bindC kindOf (P.zip vs) m x=some v
 | [],_,_,_,_,h,_,_=>by simp at h
 | _::_,[],_,_,_,_,h,_=>by simp at h
 | p::P,w::vs,0,m,nd,h1,h2,hk=>by
  simp at h1 h2;subst h1;subst h2;show bindC kindOf ((p,w)::P.zip vs) m p=_;unfold bindC;rw[EG λv hv=>(List.nodup_cons.mp nd).1 (List.of_mem_zip hv).1,tV hk];simp
 | p::P,w::vs,i+1,m,nd,h1,h2,hk=>by
  show bindC kindOf ((p,w)::P.zip vs) m x=_;unfold bindC;exact EH (i:=i) (List.nodup_cons.mp nd).2 (by simpa using h1) (by simpa using h2) hk
def start(N:List Str)(vs:List V):St:=vs.map some++List.replicate (N.length-vs.length) none
def xO(CX:CXT)(P:Program)(w:World)(K:tX)(mg:Str->Option Value)(base:Heap)(N:List Str)(qual:Str)(scope:Scope)(f:Addr)(cd:Value)(A:Around)(outer:List Env)(s:Shared)(H:Hp)(E:XK):Cx where
 prog:=P
 w:=w
 K:=K
 mg:=mg
 base:=base
 A:=A.deeper (envOfC qual scope s.heap.objs.size f cd)
 N:=N
 s₀:=s
 H₀:=H
 env:=envOfC qual scope s.heap.objs.size f cd
 outer:=outer
 stack:=envOfC qual scope s.heap.objs.size f cd::outer
 ex:=[]
 calm:=true
 fn:=λ_=>true
 pn:=[]
 xe:=λe s'=>wpAny (model P w) (A.deeper (envOfC qual scope s.heap.objs.size f cd)) (leaving (envOfC qual scope s.heap.objs.size f cd) e) (λ_ s''=>CX outer H s E e s'') (λe' s''=>CX outer H s E e' s'') s'
theorem IU{sc:Scope}{n:Nat}{x:Str}(h:sc.names.lookup x=some .cell):∃c,(cellsFrom n sc.names []).lookup x=some c:=by
 have q:=PySem.W.cellsFrom_some sc.names n [] (.inl h);exact Option.isSome_iff_exists.mp q
theorem PH{CX:CXT}{P:Program}{w:World}{K:tX}{mg:Str->Option Value}{base:Heap}{N ps:List Str}{qual:Str}{scope:Scope}{f:Addr}{cd:Value}{A:Around}{outer:List Env}{s s1:Shared}{H:Hp}{E:XK}{us:List Value}{vs:List V}
  (S:FnScope N ps scope) (hd:A.handled=none) (e0:Env0 P w K mg base A outer s H) (hl:vs.length=ps.length) (r:Vals vs us)
  (x:InCallC s s.heap.objs.size (bindL (envOfC qual scope s.heap.objs.size f cd).kindOf (ps.zip us) λ_=>none) (cellsFrom (s.heap.objs.size+1) scope.names []) (bindC (envOfC qual scope s.heap.objs.size f cd).kindOf (ps.zip us) λ_=>none) s1) :
  Inv (xO CX P w K mg base N qual scope f cd A outer s H E) [] (start N vs) H s1:=by
 have hpl:ps.length<=N.length:=by have:=congrArg List.length S.pre;rw[mQ]at this;omega
 obtain⟨h1,tk,rfl,hk⟩:=x.done;have noA:∀b:Addr,b∉(xO CX P w K mg base N qual scope f cd A outer s H E).ex:=λb z=>absurd (show b∈([]:List Addr)from z) (by simp);refine⟨⟨e0.mod,S.kind,rfl,rfl,tL _,λy z c h1 h2=>?_,λy hy=>?_,λy c _ h=>?_,λ_=>hd,Around.frames_deeper e0.frames,.inr ⟨rfl,rfl⟩,λb z=>absurd z (noA b),e0.bs,e0.bsz,λb _ _=>noA b,λb z=>absurd z (noA b),e0.funs,e0.frf⟩,
  rfl,e0.bare,Un.kept hk,⟨_,x.toInCall.ns,λi y v h1 h2 h3=>?_⟩,λy c h=>⟨_,x.cell y c h⟩,e0.hok.fresh uV,λy c h=>?_,λp hp=>absurd (show p∈([]:List (Addr×Obj))from hp) (by simp),e0.hok.kept hk, ?_⟩
 ·exact name_of_addr x.apart (PySem.mem_of_lookup h1) (PySem.mem_of_lookup h2)
 ·have hy:scope.names.lookup y=some .cell∨scope.names.lookup y=some .free:=hy;rcases hy with hy | hy
  ·exact IU hy
  ·exact absurd rfl (S.nofree _ (PySem.mem_of_lookup hy))
 ·exact Nat.le_of_lt (x.above y c (PySem.mem_of_lookup h))
 ·have hi:i<vs.length:=by
   unfold start at h2;by_cases hi:i<vs.length
   ·exact hi
   ·rw[gC (by simpa using hi)]at h2;rw[List.getElem?_replicate]at h2;split at h2<;>cases h2
  have ha:vs[i]? = some v:=by
   unfold start at h2;rw[gF (by simpa using hi),mH]at h2;cases e:vs[i]? with
   | none=>rw[e]at h2;cases h2
   | some a=>rw[e]at h2;cases h2;rfl
  obtain⟨u,hu,rv⟩:=r.get ha;have hp:ps[i]? = some y:=by
   rw[<-S.pre,gH (by omega)];exact h1
  have ndP:ps.Nodup:=by rw[<-S.pre];exact S.nd.sublist (List.take_sublist _ _)
  refine⟨u,rv, ?_⟩;rcases S.par y (gS hp)with k | k
  ·exact .inl ⟨k,EF ndP hp hu k⟩
  ·obtain⟨c,e⟩:=IU (n:=s.heap.objs.size+1) k;refine .inr ⟨.inl k,c,e, ?_⟩;have q:=x.cell y c e;rw[EH ndP hp hu (by show scope.names.lookup y≠_;rw[k];decide)]at q;exact q
 ·exact e0.hok.fresh (Nat.le_of_lt (x.above y c (PySem.mem_of_lookup h)))
 ·unfold start;show _=N.length;rw[hV,mY,gO];omega
theorem uU{CX:CXT}{P:Program}{w:World}{K:tX}{mg:Str->Option Value}{base:Heap}{k:Nat}{f:Addr}{name qual:Str}{params:Arguments}{body:List Stmt}{scope:Scope}{dV kV doc pm cdv ct oc:Value}{an od:Option Addr}
  {osl:Array (Option Value)} {N ps:List Str} {sp:Sp} (lk:K.lookup f=some ⟨oc,od,.func (PySem.W.fnOf name qual params body scope dV kV doc pm an cdv ct),osl⟩) (hcd:PySem.W.codeIn K cdv qual=true) (S:FnScope N ps scope)
  (len:∀vs H Q E,sp vs H Q E->vs.length=ps.length)
  (hbody:∀(A:Around) (outer:List Env) (s:Shared) (H:Hp) (vs:List V) (Q:VK) (E:XK),Room k (A.deeper (envOfC qual scope s.heap.objs.size f cdv))->sp vs H Q E->
   ∃t,PSs (xO CX P w K mg base N qual scope f cdv A outer s H E) body t/\t { nx:=λ_ H'=>Q .non H',rt:=Q } (start N vs) H) :
  FnOk P w K mg base CX (k+1) f (PySem.W.fnOf name qual params body scope dV kV doc pm an cdv ct) ps sp:=by
 refine⟨len,λA outer s H args us vs Q E hr e0 hb r hsp=>?_⟩;have hl:=len _ _ _ _ hsp;have KX:K.In s.heap:=e0.mod.kin.keeps λb o e=>(e0.bs b o e).1;have lim:s.heap.NoLimit:=e0.mod.nolimit.keeps λb o e=>(e0.bs b o e).1;have hkind:∀y∈ps.zip us,scope.names.lookup y.1=some .local∨(scope.names.lookup y.1=some .cell/\((cellsFrom (s.heap.objs.size+1) scope.names []).lookup y.1).isSome=true):=λ⟨n,v⟩ hy=>by
  rcases S.par n (List.of_mem_zip hy).1 with q | q
  ·exact .inl q
  ·exact .inr ⟨q,PySem.W.cellsFrom_some _ _ _ (.inl q)⟩
 refine codeAny_call_function hr.depth (KX _ _ lk) rfl S.co S.gen rfl (PySem.W.codeRec_of KX hcd) (hb _ _ _ _ ?_);refine wpAny_newFunctionEnv_cells S.kind hkind λenv he s1 x=>?_;subst he;refine⟨lim.keeps x.toInCall.keep,codeAny_func ?_⟩;obtain⟨t,ht,hq⟩:=hbody A outer s H vs Q E (hr.deeper _) hsp;have I:Inv (xO CX P w K mg base N qual scope f cdv A outer s H E) [] (start N vs) H s1:=PH S hr.hd e0 hl r x;refine tU (ht [] s1 (start N vs) H _ I hq) (λfl s' hs=>?_) λe s' hs=>hs;have fin:∀{σ':St} {H':Hp} {v:V} {u:Value},Inv (xO CX P w K mg base N qual scope f cdv A outer s H E) [] σ' H' s'->RelV v u->Q v H'->CE outer P w H s Q u s':=
  fun {σ' H' v u} J rv q=>⟨v,H',J.os,J.bare,J.base,J.hok,rv,q⟩
 cases fl with
 | ret u=>
  obtain⟨v,σ',H',J,rv,q⟩:=hs;exact fin J rv q
 | next=>
  obtain⟨σ',H',J,q⟩:=hs;exact fin (v:=V.non) (u:=Value.none) J rfl q
 | brk=>
  obtain⟨_,_,_,q⟩:=hs;exact False.elim q
 | cont=>
  obtain⟨_,_,_,q⟩:=hs;exact False.elim q
section
variable{X:Cx}{x:Str}{p pos:Pos}{e:Expr}{es:List Expr}{t:TA}{id T:String}{r:List V->Hp->VK->Prop}
def tCB(r:List V->Hp->VK->Prop)(t:TA):TE:=fun σ H Q=>t σ H λvs H1=>r vs H1 Q
theorem qC(hc:CallR X (.builtin id) r)(hg:Gl X x)(hm:X.mg x=none)(hv:bootBuiltins x=some (.builtin id))(ha:PA X (e::es) t)(hn:x≠"__name__":=by decide)(hdb:(x==("__debug__" :Str))=false:=by decide)
  (he:starEach (e::es) X.env=(false,eval e X.env)::starEach es X.env:=by rfl) (hpl:(backTo pos (starEach es X.env)).any (·.1)=false:=by rfl):PE X (.Call (.Name x p) (e::es) [] pos) (tCB r t):=by
 intro ac s σ H Q I h;refine wpAny_Call_Name_kw (yA I hg hm hv ?_ hn hdb);exact PyProof.Rows.callWith_builtin1 (thn (ha pos ac s σ H _ I h) λus s1 ⟨vs,H1,I1,r1,q1⟩=>hc ac s1 σ H1 vs us Q I1 r1 q1) he hpl
theorem qN(hc:CallR X (.type T) r)(hg:Gl X x)(hm:X.mg x=none)(hv:bootBuiltins x=some (.type T))(ha:PA X (e::es) t)(hn:x≠"__name__":=by decide)(hdb:(x==("__debug__" :Str))=false:=by decide)
  (he:starEach (e::es) X.env=(false,eval e X.env)::starEach es X.env:=by rfl) (hpl:(backTo pos (starEach es X.env)).any (·.1)=false:=by rfl):PE X (.Call (.Name x p) (e::es) [] pos) (tCB r t):=by
 intro ac s σ H Q I h;refine wpAny_Call_Name_kw (yA I hg hm hv ?_ hn hdb);exact PyProof.Rows.callWith_type1 (thn (ha pos ac s σ H _ I h) λus s1 ⟨vs,H1,I1,r1,q1⟩=>hc ac s1 σ H1 vs us Q I1 r1 q1) he hpl
end
end L2
namespace HT
open PySem PyProof.Rows
section
open PySem.SeqAt
open PySem.AutoSeq1 (wpAny_loadPart')
open PySem.MeetsSeq PySem.MeetsSeq2 PySem.MeetsSeq3
end
section
variable{prog:Program}{w:World}{A:Around}{E:Value->Shared->Prop}{s:Shared}
def sIx(n d:Nat):Option Int->Nat
 | none=>d
 | some v=>if v<0 then(v+(n:Int)).toNat else min v.toNat n
theorem sIx_none(n d:Nat):sIx n d none=d:=rfl
theorem sIx_nat(n d k:Nat):sIx n d (some (k:Int))=min k n:=by
 show(if (k:Int)<0 then((k:Int)+(n:Int)).toNat else min (k:Int).toNat n)=min k n;rw[tV (by omega),mP]
end
end HT
namespace L2
open PySem PySem.Spec PyProof.Rows
abbrev TO:=St->Hp->(Option Int->Hp->Prop)->Prop
def PO(X:Cx)(e:Option Expr)(t:TO):Prop:=
 ∀(ac:List (Addr×Obj)) (s:Shared) (σ:St) (H:Hp) (Q:Option Int->Hp->Prop),Inv X ac σ H s->t σ H Q->
  wpAny (model X.prog X.w) X.A (evalPart e X.env) (λu s'=>∃o H',Inv X ac σ H' s'/\IsPart u o/\Q o H') X.xe s
def tNoPart:TO:=λ_ H Q=>Q none H
def tPart(t:TE):TO:=fun σ H Q=>t σ H λx H1=>∃i,x=.int i/\Q (some i) H1
theorem yQ{ns:List Int} :∀{us:List Value},Vals (ns.map V.int) us->IntsAre us ns:=by
 induction ns with
 | nil=>intro us r;rw[List.map_nil]at r;cases r;exact .nil
 | cons n ns ih=>
  intro us r;rw[nO]at r;cases r with
  | cons r1 r2=>
   obtain⟨t,e⟩:=r1;subst e;exact .cons n t (ih r2)
section
variable{X:Cx}{e:Expr}{te:TE}{lo hi:Option Expr}{tl th:TO}{pos p2:Pos}
theorem vW:PO X none tNoPart:=by
 intro ac s σ H Q I h;rw[evalPart_none];exact tT ⟨none,H,I,.none,h⟩
theorem qG(h:PE X e te):PO X (some e) (tPart te):=by
 intro ac s σ H Q I hw;rw[evalPart_some];refine thn (h ac s σ H _ I hw) λu s1 ⟨x,H1,I1,r1,q1⟩=>?_;obtain⟨i,rfl,q⟩:=q1;obtain⟨t,rfl⟩:=r1;exact⟨some i,H1,I1,.int i t,q⟩
def SlR(X:Cx)(r:V->Option Int->Option Int->Hp->VK->Prop):Prop:=
 ∀(ac:List (Addr×Obj)) (s:Shared) (σ:St) (H:Hp) (x:V) (v vl vu:Value) (lo hi:Option Int) (sl:Addr) (Q:VK),Inv X ac σ H s->RelV x v->s.heap.IsSliceOf sl vl vu .none->IsPart vl lo->IsPart vu hi->r x lo hi H Q->
  ∃T id,typeLookup (.type T) "__getitem__" = pure (some (.builtin id))/\s.TypeIs v T/\wpAny (model X.prog X.w) X.A (getItem v (.ref sl)) (EP X ac σ Q) X.xe s
def tSl(r:V->Option Int->Option Int->Hp->VK->Prop)(te:TE)(tl th:TO):TE:=fun σ H Q=>te σ H λx H1=>tl σ H1 λl H2=>th σ H2 λu H3=>r x l u H3 Q
theorem qM{r:V->Option Int->Option Int->Hp->VK->Prop}(hr:SlR X r)(he:PE X e te)(hl:PO X lo tl)(hu:PO X hi th):PE X (.Subscript e (.Slice lo hi none p2) pos) (tSl r te tl th):=by
 intro ac s σ H Q I h;refine Subscript_ (thn (he ac s σ H _ I h) λv s1 ⟨x,H1,I1,r1,q1⟩=>?_);refine wpAny_Slice (thn (hl ac s1 σ H1 _ I1 q1) λvl s2 ⟨l,H2,I2,pl,q2⟩=>thn (hu ac s2 σ H2 _ I2 q2) λvu s3 ⟨u,H3,I3,pu,q3⟩=>?_);rw[evalPart_none];refine tT ?_;have I4:Inv X ac σ H3 { s3 with heap:=s3.heap.push { cls:=.type "slice",data:=.fields #[vl,vu,.none] } } :=I3.kept (t':=s3.toks) λb ob q=>gK _ q;obtain⟨T,id,hT,ht,hg⟩:=hr ac { s3 with heap:=s3.heap.push { cls:=.type "slice",data:=.fields #[vl,vu,.none] } } σ H3 x v vl vu l u s3.heap.objs.size Q I4 r1 (Heap.IsSliceOf.new ..) pl pu q3;show wpAny (model X.prog X.w) X.A (subscriptTail e (.Slice lo hi none p2) v (.ref s3.heap.objs.size)) (EP X ac σ Q) X.xe { s3 with heap:=s3.heap.push { cls:=.type "slice",data:=.fields #[vl,vu,.none] } };exact tail_any (ops:=[.ref s3.heap.objs.size,v]) ht hT hg (by with_unfolding_all rfl)
def xJ(xs:List V)(lo hi:Option Int):List V:=(xs.drop (HT.sIx xs.length 0 lo)).take (HT.sIx xs.length xs.length hi-HT.sIx xs.length 0 lo)
theorem IP(xs:List V)(lo hi:Option Int):(xJ xs lo hi).length<=xs.length:=by
 unfold xJ;rw[mQ,List.length_drop];omega
end
def ixN(n:Nat)(i:Int):Option Nat:=if 0<=i then(if i<n then some i.toNat else none)else if -(n:Int)<=i then some (i+n).toNat else none
def atI{α:Type}(xs:List α)(i:Int):Option α:=(ixN xs.length i).bind λj=>xs[j]?
theorem MS{n:Nat}{i:Int}{j:Nat}(h:ixN n i=some j):seqIndex? i n=some j/\j<n/\-(n:Int)<=i/\i<n:=by
 unfold ixN at h;by_cases h0:0<=i
 ·rw[tW h0]at h;by_cases h1:i<n
  ·rw[tW h1]at h;have e:i.toNat=j:=Option.some.inj h;exact⟨by rw[seqIndex_of h0 h1,e],by omega,by omega,h1⟩
  ·rw[tV h1]at h;cases h
 ·rw[tV h0]at h;by_cases h1: -(n:Int)<=i
  ·rw[tW h1]at h;have e:(i+n).toNat=j:=Option.some.inj h;exact⟨by rw[seqIndex_neg (by omega) h1,e],by omega,h1,by omega⟩
  ·rw[tV h1]at h;cases h
theorem NL{α:Type}{xs:List α}{i:Int}{v:α}(h:atI xs i=some v):∃j,seqIndex? i xs.length=some j/\xs[j]? = some v/\j<xs.length/\-(xs.length:Int)<=i/\i<xs.length:=by
 unfold atI at h;cases e:ixN xs.length i with
 | none=>rw[e]at h;cases h
 | some j=>
  rw[e]at h;obtain⟨h1,h2,h3,h4⟩:=MS e;exact⟨j,h1,h,h2,h3,h4⟩
theorem yS{α:Type}{xs:List α}{j:Nat}{v:α}(h:xs[j]? = some v):atI xs (j:Int)=some v:=by
 have hj:j<xs.length:=(gE.mp h).1;have e:ixN xs.length (j:Int)=some j:=by
  unfold ixN;rw[tW (by omega),tW (by omega)];simp
 unfold atI;rw[e];exact h
theorem CG{α:Type}(xs:List α)(v:α):atI (xs++[v]) (-1)=some v:=by
 have hl:(xs++[v]).length=xs.length+1:=by simp
 have e:ixN (xs++[v]).length (-1)=some xs.length:=by
  unfold ixN;rw[hl,tV (by decide),tW (by omega)]
  congr 1
  omega
 unfold atI;rw[e];show(xs++[v])[xs.length]? = some v;simp
def PlainIx(b:Expr):Prop:=∀o i,subscripted b false o i=operate [o,i] (getItem o i)
def IxR(X:Cx)(r:R2):Prop:=
 ∀(value slice:Expr) (ac:List (Addr×Obj)) (s:Shared) (σ:St) (H:Hp) (x y:V) (v u:Value) (Q:VK),Inv X ac σ H s->RelV x v->RelV y u->r x y H Q->
  subscripted slice false v u=operate [v,u] (getItem v u)->wpAny (model X.prog X.w) X.A (subscriptTail value slice v u) (EP X ac σ Q) X.xe s
def MtR(X:Cx)(id:String)(r:V->List V->Hp->VK->Prop):Prop:=
 ∀(ac:List (Addr×Obj)) (s:Shared) (σ:St) (H:Hp) (x:V) (xs:List V) (v:Value) (us:List Value) (Q:VK),Inv X ac σ H s->RelV x v->Vals xs us->r x xs H Q->
  wpAny (model X.prog X.w) X.A (call (.builtin id) (v::us)) (EP X ac σ Q) X.xe s
section
variable{X:Cx}{a b:Expr}{ta tb:TE}{pos:Pos}
theorem jQ{r:R2}(hr:IxR X r)(ha:PE X a ta)(hb:PE X b tb)(hs:PlainIx b):PE X (.Subscript a b pos) (tOp r ta tb):=by
 intro ac s σ H Q I h;exact Subscript_ (binT ha hb I h λv u s2 x y H2 I2 rx ry q=>hr a b ac s2 σ H2 x y v u Q I2 rx ry q (hs _ _))
def AE(K:tX):R2:=λx y H Q=>∃p xs i v,x=.ref p/\y=.int i/\SqL K H p xs/\atI xs i=some v/\Q v H
def rIxT(K:tX):R2:=λx y H Q=>∃p xs i v,x=.ref p/\y=.int i/\SqT K H p xs/\atI xs i=some v/\Q v H
theorem jW:IxR X (AE X.K):=by
 intro value slice ac s σ H x y v u Q I rx ry h hs;obtain⟨p,xs,i,z,rfl,rfl,hq,he,q⟩:=h;cases rx;obtain⟨t,rfl⟩:=ry;obtain⟨its,r,pl,hz⟩:=I.list hq;obtain⟨j,h1,h2,h3,h4,h5⟩:=NL he;obtain⟨w,ew,rw'⟩:=r.get h2;have hl:=r.length;have hn:=FK;have fin:EP X ac σ Q w s:=⟨z,H,I,rw',q⟩;by_cases h0:0<=i
 ·have hj:i.toNat=j:=by
   rw[seqIndex_of h0 h5]at h1;exact Option.some.inj h1
  exact item_listR pl.isList h0 (by omega) (by rw[hj];simpa using ew) fin hs
 ·have hj:(i+(its.toArray.size:Int)).toNat=j:=by
   rw[seqIndex_neg (by omega) h4]at h1;rw[mI,<-hl];exact Option.some.inj h1
  exact subscriptTail_builtinR (x:=w) pl.isList.typeIs slot_list_getitem.lookup
   (wpAny_getItem_list_neg (Q:=λr s'=>r=w/\EP X ac σ Q r s') pl.isList (by omega) (by rw[mI]<;>omega) (by omega) (by rw[hj];simpa using ew) ⟨rfl,fin⟩) hs
theorem kI:IxR X (rIxT X.K):=by
 intro value slice ac s σ H x y v u Q I rx ry h hs;obtain⟨p,xs,i,z,rfl,rfl,hq,he,q⟩:=h;cases rx;obtain⟨t,rfl⟩:=ry;obtain⟨its,r,pl,hz⟩:=I.tuple hq;obtain⟨j,h1,h2,h3,h4,h5⟩:=NL he;obtain⟨w,ew,rw'⟩:=r.get h2;have hl:=r.length;have hn:=FK;have fin:EP X ac σ Q w s:=⟨z,H,I,rw',q⟩;exact subscriptTail_builtinR (x:=w) pl.typeIs slot_tuple_getitem.lookup
  (getItem_tuple (j:=j) (Q:=λr s'=>r=w/\EP X ac σ Q r s') pl (by omega) (by omega) (by rw[mI,<-hl];exact h1) (by simpa using ew) ⟨rfl,fin⟩) hs
theorem KK(its:List Value)(n j:Nat)(u:Value):Obj.mapSeq (·.setIfInBounds j u) { cls:=.type "list",data:=.seq its.toArray n } = { cls:=.type "list",data:=.seq (its.set j u).toArray n } :=by
 simp [Obj.mapSeq]
theorem Inv.lst{ac:List (Addr×Obj)}{σ:St}{H:Hp}{s:Shared}{p:Addr}{xs:List V}(I:Inv X ac σ H s)(h:H p=some (.lst xs)) :
  ∃(its:List Value) (n:Nat),Vals xs its/\s.heap.get? p=some { cls:=.type "list",data:=.seq its.toArray n }/\xs.length<=sizeLine:=by
 obtain⟨z,its,n,r,e⟩:=I.hok p _ h;exact⟨its,n,r,e,z⟩
theorem Inv.lstUpd{ac:List (Addr×Obj)}{σ:St}{H:Hp}{s:Shared}{p:Addr}{xs ys:List V}{its its':List Value}{n n':Nat}{f:Obj->Obj}(I:Inv X ac σ H s)(h:H p=some (.lst xs))
  (ho:s.heap.get? p=some { cls:=.type "list",data:=.seq its.toArray n }) (hf:f { cls:=.type "list",data:=.seq its.toArray n } = { cls:=.type "list",data:=.seq its'.toArray n' }) (r:Vals ys its') (hz:ys.length<=sizeLine) (t:Nat) :
  Inv X ac σ (upd H p (.lst ys)) { s with heap:=s.heap.update p f,toks:=t } :=by
 have e:(s.heap.update p f).get? p=some { cls:=.type "list",data:=.seq its'.toArray n' } :=by
  rw[Heap.get?_update_self f ho (by rw[hf]<;>rfl),hf]
 refine I.write (x:=p) (e:=p) (by rw[h];trivial) (.inl rfl) (λb u hb q=>(Heap.get?_update_other _ _ (Ne.symm hb)).trans q) ⟨_,e⟩ ?_;exact⟨hz,its',n',r,e⟩
def rSetL:V->V->V->Hp->(Hp->Prop)->Prop:=λo i v H Q=>∃p xs k j,o=.ref p/\i=.int k/\H p=some (.lst xs)/\ixN xs.length k=some j/\Q (upd H p (.lst (xs.set j v)))
theorem vZ:PSet X rSetL:=by
 intro ac s σ H o i v ov iv u Q I ro ri rv h;obtain⟨p,xs,k,j,rfl,rfl,hp,hj,q⟩:=h;cases ro;obtain⟨t,rfl⟩:=ri;obtain⟨its,n,r,ho,hz⟩:=I.lst hp;obtain⟨h1,h2,h3,h4⟩:=MS hj;have hl:=r.length;have hn:=FK;have I':Inv X ac σ (upd H p (.lst (xs.set j v))) { s with heap:=s.heap.update p (Obj.mapSeq (·.setIfInBounds j u)) } :=
  I.lstUpd hp ho (KK its n j u) (r.set rv j) (by rw[List.length_set];exact hz) s.toks
 by_cases h0:0<=k
 ·have hk:k.toNat=j:=by
   rw[seqIndex_of h0 h4]at h1;exact Option.some.inj h1
  exact PySem.W.ki_setAt ho h0 (by omega) (by rw[mI,<-hl];exact h4) (by rw[hk];exact⟨_,I',q⟩)
 ·have hk:(k+(its.toArray.size:Int)).toNat=j:=by
   rw[seqIndex_neg (by omega) h3]at h1;rw[mI,<-hl];exact Option.some.inj h1
  exact PySem.W.ki_setBack ho (by omega) (by rw[mI,<-hl];exact h3) (by omega) (by rw[hk];exact⟨_,I',q⟩)
theorem ET(lo hi:Option Int)(n:Nat):(sliceBounds lo hi none n).1=((HT.sIx n 0 lo:Nat):Int)/\(sliceBounds lo hi none n).2.1=((HT.sIx n n hi:Nat):Int)/\(sliceBounds lo hi none n).2.2=1:=by
 refine⟨?_, ?_,rfl⟩
 ·cases lo with
  | none=>simp [sliceBounds,HT.sIx]
  | some i=>
   simp only[sliceBounds,HT.sIx,Option.getD_none,show(1:Int)>0 by decide,if_true];by_cases h:i<0
   ·simp only[h,if_true]<;>omega
   ·simp only[h,if_false]<;>omega
 ·cases hi with
  | none=>simp [sliceBounds,HT.sIx]
  | some i=>
   simp only[sliceBounds,HT.sIx,Option.getD_none,show(1:Int)>0 by decide,if_true];by_cases h:i<0
   ·simp only[h,if_true]<;>omega
   ·simp only[h,if_false]<;>omega
theorem CI(its:List Value)(lo hi:Option Int):slicePick its.toArray lo hi none=((its.drop (HT.sIx its.length 0 lo)).take (HT.sIx its.length its.length hi-HT.sIx its.length 0 lo)).toArray:=by
 obtain⟨h1,h2,h3⟩:=ET lo hi its.toArray.size;unfold slicePick;rw[h1,h2,h3];simp only[sliceRange_one,pick_run,mI]<;>rfl
def rSlL(K:tX):V->Option Int->Option Int->Hp->VK->Prop:=λx lo hi H Q=>∃a xs,x=.ref a/\SqL K H a xs/\∀p,H p=none->Q (.ref p) (upd H p (.lst (xJ xs lo hi)))
theorem VM:SlR X (rSlL X.K):=by
 intro ac s σ H x v vl vu lo hi sl Q I rx hs pl pu h;obtain⟨a,xs,rfl,hx,q⟩:=h;cases rx;obtain⟨its,r,ht,hz⟩:=I.list hx;have hlen:=r.length;refine⟨"list",_,slot_list_getitem.lookup,ht.isList.typeIs, ?_⟩;refine wpAny_getItem_list_slice ht.isList hs pl pu .none (by simp) ?_ (by rw[mI]<;>omega);rw[CI,<-hlen];refine⟨.ref s.heap.objs.size,_,I.laid (t':=s.toks) (o:=.lst (xJ xs lo hi)) (λb ob q=>gK _ q) uV ?_,rfl,q _ (I.hok.fresh uV)⟩;exact⟨nY (IP xs lo hi) hz,_,0,(r.drop (HT.sIx xs.length 0 lo)).take (HT.sIx xs.length xs.length hi-HT.sIx xs.length 0 lo),gZ _ rfl⟩
def IK:V->Bool
 | .non=>true
 | .bl _=>true
 | .int _=>true
 | .str _=>true
 | _=>false
def eqV:V->V->Bool
 | .non,.non=>true
 | .bl a,.bl b=>a==b
 | .bl a,.int b=>(if a then 1 else 0)==b
 | .int a,.bl b=>a==(if b then 1 else 0)
 | .int a,.int b=>a==b
 | .str a,.str b=>a==b
 | _,_=>false
theorem UG{A:Around}{s:Shared}{y x:V}{u v:Value}(ry:RelV y u)(rx:RelV x v)(fy:IK y=true)(fx:IK x=true):SeqAt.EqAt A s u v (eqV y x):=by
 cases y with
 | non=>
  cases ry;cases x with
  | non=>cases rx;exact SeqAt.EqAt.same _
  | bl b=>cases rx;exact SeqAt.EqAt.none_bool b
  | int b=>obtain⟨t,rfl⟩:=rx;exact SeqAt.EqAt.none_int b t
  | str b=>obtain⟨t,rfl⟩:=rx;exact SeqAt.EqAt.none_str b t
  | _=>exact absurd (show false=true from fx) hZ
 | bl a=>
  cases ry;cases x with
  | non=>cases rx;exact SeqAt.EqAt.bool_none a
  | bl b=>cases rx;exact SeqAt.EqAt.bool_bool a b
  | int b=>obtain⟨t,rfl⟩:=rx;exact SeqAt.EqAt.bool_int a b t
  | str b=>obtain⟨t,rfl⟩:=rx;exact SeqAt.EqAt.bool_str a b t
  | _=>exact absurd (show false=true from fx) hZ
 | int a=>
  obtain⟨t',rfl⟩:=ry;cases x with
  | non=>cases rx;exact SeqAt.EqAt.int_none a t'
  | bl b=>cases rx;exact SeqAt.EqAt.int_bool a t' b
  | int b=>obtain⟨t,rfl⟩:=rx;exact SeqAt.EqAt.int_int a t' b t
  | str b=>obtain⟨t,rfl⟩:=rx;exact SeqAt.EqAt.int_str a t' b t
  | _=>exact absurd (show false=true from fx) hZ
 | str a=>
  obtain⟨t',rfl⟩:=ry;cases x with
  | non=>cases rx;exact SeqAt.EqAt.str_none a t'
  | bl b=>cases rx;exact SeqAt.EqAt.str_bool a t' b
  | int b=>obtain⟨t,rfl⟩:=rx;exact SeqAt.EqAt.str_int a t' b t
  | str b=>obtain⟨t,rfl⟩:=rx;exact SeqAt.EqAt.str_str a t' b t
  | _=>exact absurd (show false=true from fx) hZ
 | _=>exact absurd (show false=true from fy) hZ
theorem qS:CallR X (.builtin "len") (λxs H Q=>∃p ys,xs=[.ref p]/\(SqL X.K H p ys∨SqT X.K H p ys)/\Q (.int ys.length) H):=by
 intro ac s σ H xs us Q I r h;obtain⟨p,ys,rfl,hq,q⟩:=h;obtain⟨u,rfl,rx⟩:=xK r;cases rx;have hn:=FK;rcases hq with hq | hq
 ·obtain⟨its,r',pl,hz⟩:=I.list hq;have hlen:=r'.length;exact Calls.call_len_list pl.isList (by simp only[mI]<;>omega) ⟨.int ys.length,H,I.tok _,⟨s.toks+1,by rw[mI,hlen]⟩,q⟩
 ·obtain⟨its,r',pl,hz⟩:=I.tuple hq;have hlen:=r'.length;exact len_tuple pl (by simp only[mI]<;>omega) ⟨.int ys.length,H,I.tok _,⟨s.toks+1,by rw[mI,hlen]⟩,q⟩
theorem FX:CallR X (.type "list") (λxs H Q=>∃p ys,xs=[.ref p]/\(SqL X.K H p ys∨SqT X.K H p ys)/\∀l,H l=none->Q (.ref l) (upd H l (.lst ys))):=by
 intro ac s σ H xs us Q I r h;obtain⟨p,ys,rfl,hq,q⟩:=h;obtain⟨u,rfl,rx⟩:=xK r;cases rx;have fin:∀(its:List Value),Vals ys its->ys.length<=sizeLine->∀(h':Heap) (c':Nat),(∀b o',s.heap.get? b=some o'->h'.get? b=some o')->
   h'.get? s.heap.objs.size=some { cls:=.type "list",dict:=none,data:=.seq its.toArray c',slots:=#[] }->EP X ac σ Q (.ref s.heap.objs.size) { s with heap:=h' } :=λits r' hz h' c' kp e=>
  ⟨.ref s.heap.objs.size,_,I.laid (t':=s.toks) kp uV (show ObjOk X.prog X.w _ h' _ (.lst ys)from⟨hz,its,c',r',e⟩),rfl,q _ (I.hok.fresh uV)⟩
 rcases hq with hq | hq
 ·obtain⟨its,r',pl,hz⟩:=I.list hq;have hlen:=r'.length;obtain⟨o,ho,hc,n,hd⟩:=pl.isList;exact call_list_seq p (.inl rfl) ho hc hd (λh' c' kp e=>fin its r' hz h' c' kp e) (by simp only[mI]<;>omega)
 ·obtain⟨its,r',pl,hz⟩:=I.tuple hq;have hlen:=r'.length;obtain⟨o,ho,hc,n,hd⟩:=pl;exact call_list_seq p (.inr rfl) ho hc hd (λh' c' kp e=>fin its r' hz h' c' kp e) (by simp only[mI]<;>omega)
theorem vY:CallR X (.type "tuple") (λxs H Q=>∃p ys,xs=[.ref p]/\((SqL X.K H p ys/\∀l,H l=none->Q (.ref l) (upd H l (.tup ys)))∨(SqT X.K H p ys/\Q (.ref p) H))):=by
 intro ac s σ H xs us Q I r h;obtain⟨p,ys,rfl,h⟩:=h;obtain⟨u,rfl,rx⟩:=xK r;cases rx;rcases h with⟨hq,q⟩ | ⟨hq,q⟩
 ·obtain⟨its,r',pl,hz⟩:=I.list hq;have hlen:=r'.length;refine call_tuple_list pl.isList (λh' kp=>?_) (by simp only[mI]<;>omega);have I1:Inv X ac σ H { s with heap:=h' } :=I.kept (t':=s.toks) kp;have I2:Inv X ac σ (upd H h'.objs.size (.tup ys)) { s with heap:=h'.push { cls:=.type "tuple",data:=.seq its.toArray } } :=
   I1.laid (t':=s.toks) (λb o e=>gK _ e) uV (show ObjOk X.prog X.w _ _ _ (.tup ys)from⟨hz,its,r',IsTup.new _ _,.of (gZ _ rfl) rfl⟩)
  exact⟨.ref h'.objs.size,_,I2,rfl,q _ (I1.hok.fresh uV)⟩
 ·obtain⟨its,r',pl,hz⟩:=I.tuple hq;exact call_tuple_same pl ⟨.ref p,H,I,rfl,q⟩
def tyV(K:tX)(T:String)(x:V)(H:Hp):Prop:=match x with
 | .str _=>T="str"
 | .int _=>T="int"
 | .ref p=>(T="list"/\∃xs,SqL K H p xs)∨(T="tuple"/\∃o,K.lookup p=some o/\o.cls=.type "tuple"/\o.dict=none)∨
   (T="dict"/\((∃ag,H p=some (.dK ag))∨∃ag,H p=some (.dT ag)))∨(T="set"/\∃S n,H p=some (.set S n))∨(T="tuple"/\∃xs,H p=some (.tup xs))
 | _=>False
theorem JH{ac:List (Addr×Obj)}{σ:St}{H:Hp}{s:Shared}{T:String}{x:V}{v:Value}(I:Inv X ac σ H s)(r:RelV x v)(ty:tyV X.K T x H) :
  s.TypeIs v T/\∀a,v=.ref a->∃ob,s.heap.get? a=some ob/\ob.dict=none:=by
 cases x with
 | str z=>
  obtain⟨t,rfl⟩:=r;cases (show T="str" from ty);exact⟨typeIs_str s z t,λ_ e=>nomatch e⟩
 | int i=>
  obtain⟨t,rfl⟩:=r;cases (show T="int" from ty);exact⟨typeIs_int s i t,λ_ e=>nomatch e⟩
 | ref p=>
  cases r;rcases ty with⟨rfl,xs,hq⟩ | ⟨rfl,o,hk,hc,hd⟩ | ⟨rfl,hk⟩ | ⟨rfl,S,n,hk⟩ | ⟨rfl,xs,hk⟩
  rotate_left 4
  ·obtain⟨_,its,_,⟨o,h1,h2,_⟩,nd⟩:=(show ObjOk X.prog X.w H s.heap p (.tup xs)from I.hok p _ hk);exact⟨⟨o,h1,h2⟩,λa e=>by cases e;exact⟨o,h1,nd _ h1⟩⟩
  ·obtain⟨its,_,pl,_⟩:=I.list hq;refine⟨pl.isList.typeIs,λa e=>?_⟩;cases e;obtain⟨o,n,e,c,hd,_⟩:=pl;exact⟨o,e,hd⟩
  ·refine⟨⟨o,I.kIn p o hk,hc⟩,λa e=>?_⟩;cases e;exact⟨o,I.kIn _ o hk,hd⟩
  ·have z:∃o,s.heap.get? p=some o/\o.ExactDict:=by
    rcases hk with⟨ag,hk⟩ | ⟨ag,hk⟩
    ·obtain⟨_,_,_,_,o,_,_,e,ex,_⟩:=I.hok p _ hk;exact⟨o,e,ex⟩
    ·obtain⟨_,_,_,_,o,_,_,e,ex,_⟩:=I.hok p _ hk;exact⟨o,e,ex⟩
   obtain⟨o,e,ex⟩:=z;refine⟨⟨o,e,ex.1⟩,λa e2=>?_⟩;cases e2;exact⟨o,e,ex.2.1⟩
  ·obtain⟨o,_,_,_,e,ex,_⟩:=I.hok p _ hk;refine⟨⟨o,e,ex.1⟩,λa e2=>?_⟩;cases e2;exact⟨o,e,ex.2.1⟩
 | _=>exact False.elim ty
def tBM0(K:tX)(T:String)(r:V->List V->Hp->VK->Prop)(to:TE):TE:=fun σ H Q=>to σ H λx H1=>tyV K T x H1/\r x [] H1 Q
def tBM(K:tX)(T:String)(r:V->List V->Hp->VK->Prop)(to:TE)(t:TA):TE:=fun σ H Q=>to σ H λx H1=>tyV K T x H1/\t σ H1 λxs H2=>r x xs H2 Q
variable{o e:Expr}{es:List Expr}{to:TE}{t:TA}{name:Str}{apos cpos:Pos}{T id:String}{r:V->List V->Hp->VK->Prop}
theorem ZQ(pa:PlainAttrs T)(slot:Slot T name id)(hty:typeOf (.builtin id)=pure (.type "method_descriptor"))(hm:MtR X id r)(ho:PE X o to)
  (hbase:attributeBase o name X.env (eval o X.env)=eval o X.env:=by rfl) (hline:(apos.endLine==cpos.line)=true:=by rfl):PE X (.Call (.Attribute o name apos) [] [] cpos) (tBM0 X.K T r to):=by
 intro ac s σ H Q I h;refine wpAny_Call_method0_late hbase hline (thn (ho ac s σ H _ I h) λv s1 ⟨x,H1,I1,r1,ty,q1⟩=>?_);obtain⟨h1,h2⟩:=JH I1 r1 ty;exact⟨T,id,pa,slot,hty,h1,h2,Calls.callWith_builtin rfl (PySem.evalArgs_none (hm ac s1 σ H1 x [] v [] Q I1 r1 .nil q1))⟩
theorem RZ(pa:PlainAttrs T)(slot:Slot T name id)(hty:typeOf (.builtin id)=pure (.type "method_descriptor"))(hm:MtR X id r)(ho:PE X o to)(ha:PA X (e::es) t)
  (hbase:attributeBase o name X.env (eval o X.env)=eval o X.env:=by rfl)
  (hfew:((backTo cpos (starEach (e::es) X.env)).all (λx=>!x.1)&&(backToKw cpos (keywordEach [] X.env)).all (λx=>x.1.isSome)
   &&decide ((e::es).length+([]:List Keyword).length+(if ([]:List Keyword).isEmpty then 0 else 1)<30))=true:=by rfl)
  (hline:(apos.endLine==cpos.line)=true:=by rfl) (hs:starEach (e::es) X.env=(false,eval e X.env)::starEach es X.env:=by rfl) (hplain:(backTo cpos (starEach es X.env)).any (·.1)=false:=by rfl) :
  PE X (.Call (.Attribute o name apos) (e::es) [] cpos) (tBM X.K T r to t):=by
 intro ac s σ H Q I h;refine wpAny_Call_method_late hbase hfew hline rfl (thn (ho ac s σ H _ I h) λv s1 ⟨x,H1,I1,r1,ty,q1⟩=>?_);obtain⟨h1,h2⟩:=JH I1 r1 ty;refine⟨T,id,pa,slot,hty,h1,h2, ?_⟩;have hA:=ha cpos ac s1 σ H1 _ I1 q1;rw[hs]at hA ⊢;refine Calls.callWith_builtin (by show(false||(backTo cpos (starEach es X.env)).any (·.1))=false;rw[hplain]<;>rfl) (Calls.evalArgs_plain ?_);exact thn hA λus s2 ⟨vs,H2,I2,r2,q2⟩=>hm ac s2 σ H2 x vs v us Q I2 r1 r2 q2
end
def MtM(X:Cx)(id:String)(r:V->List V->Hp->VK->Prop):Prop:=
 ∀(ac:List (Addr×Obj)) (s:Shared) (σ:St) (H:Hp) (x:V) (xs:List V) (v:Value) (us:List Value) (Q:VK),Inv X ac σ H s->RelV x v->Vals xs us->r x xs H Q->
  wpAny (model X.prog X.w) X.A (call (.builtin id) (v::us)) (EP X ac σ Q) X.xe s
theorem Vals.one:∀{x:V} {us:List Value},Vals [x] us->∃u,us=[u]/\RelV x u
 | _,_,.cons r .nil=>⟨_,rfl,r⟩
theorem Vals.two:∀{x y:V} {us:List Value},Vals [x,y] us->∃u v,us=[u,v]/\RelV x u/\RelV y v
 | _,_,_,.cons r (.cons q .nil)=>⟨_,_,rfl,r,q⟩
theorem Vals.rep{xs:List V}{us:List Value}(h:Vals xs us):∀k:Nat,Vals (List.replicate k xs).flatten (List.replicate k us).flatten
 | 0=>.nil
 | k+1=>by
  rw[List.replicate_succ,List.replicate_succ,List.flatten_cons,List.flatten_cons];exact Vals.append h (Vals.rep h k)
theorem DX(its:List Value):∀(k:Nat) (acc:List Value),
  List.foldl (λx1 x2=>x1++x2) acc.toArray (List.replicate k its.toArray)=(acc++(List.replicate k its).flatten).toArray
 | 0,acc=>by simp
 | k+1,acc=>by
  have e:acc.toArray++its.toArray=(acc++its).toArray:=by simp
  have e2:(acc++its)++(List.replicate k its).flatten=acc++(List.replicate (k+1) its).flatten:=by
   rw[List.replicate_succ,List.flatten_cons,mK]
  rw[<-e2,<-DX its k (acc++its),<-e,List.replicate_succ,List.foldl_cons]
section
variable{X:Cx}{ac:List (Addr×Obj)}{σ:St}{H:Hp}{s:Shared}{l b:Addr}{xs ys zs:List V}
theorem Inv.lset{its its':List Value}{n:Nat}{f:Array Value->Array Value}{t':Nat}(I:Inv X ac σ H s)(hH:H l=some (.lst xs))
  (e:s.heap.get? l=some { cls:=.type "list",data:=.seq its.toArray n }) (hf:f its.toArray=its'.toArray) (hv:Vals ys its') (hz:ys.length<=sizeLine) :
  Inv X ac σ (upd H l (.lst ys)) { s with heap:=s.heap.update l (Obj.mapSeq f),toks:=t' } :=by
 have q:=PySem.IsL.update e f;rw[hf]at q;refine I.write (x:=l) (e:=l) (by rw[hH];exact trivial) (.inl rfl) (λb' u hb hu=>(Heap.get?_update_other s.heap (Obj.mapSeq f) (Ne.symm hb)).trans hu) ⟨_,q⟩ ?_;exact⟨hz,its',_,hv,q⟩
theorem Inv.lnew{its:List Value}{t':Nat}(I:Inv X ac σ H s)(hv:Vals ys its)(hz:ys.length<=sizeLine) :
  Inv X ac σ (upd H s.heap.objs.size (.lst ys)) { s with heap:=s.heap.push { cls:=.type "list",data:=.seq its.toArray },toks:=t' } :=
 I.laid (λ_ _ q=>gK _ q) uV ⟨hz,its,0,hv,gZ _ rfl⟩
theorem Inv.fresh(I:Inv X ac σ H s):H s.heap.objs.size=none:=I.hok.fresh uV 
theorem Inv.lstM(I:Inv X ac σ H s)(hH:H l=some (.lst xs)):xs.length<=sizeLine/\∃(its:List Value) (n:Nat),Vals xs its/\xs.length=its.length/\s.heap.get? l=some { cls:=.type "list",data:=.seq its.toArray n } :=by
 obtain⟨z,its,n,r,e⟩:=I.hok l _ hH;exact⟨z,its,n,r,r.length,e⟩
theorem HV{n:Nat}(h:n<=sizeLine):Builtin.List.listTooLong n=false:=by
 unfold Builtin.List.listTooLong;exact nA (by omega)
end
section
variable{X:Cx}
def rAppend:V->List V->Hp->VK->Prop:=λx vs H Q=>∃l xs y,x=.ref l/\vs=[y]/\H l=some (.lst xs)/\xs.length<sizeLine/\Q .non (upd H l (.lst (xs++[y])))
theorem vC:MtM X "list.append" rAppend:=by
 intro ac s σ H x vs v us Q I rx rv h;obtain⟨l,xs,y,rfl,rfl,hH,hz,q⟩:=h;cases rx;obtain⟨u,rfl,ru⟩:=rv.one;obtain⟨z,its,n,r,hl,e⟩:=I.lstM hH;refine call_meets F.slot_list_append ⟨_,e,rfl⟩ F.entry_list_append (F.args_list_append_2 _ _) (PySem.list_append l its.toArray n u (by rw[mI];omega)) ⟨e, ?_⟩;refine⟨.non,_,I.lset (its':=its++[u]) hH e (by simp) (r.append (.cons ru .nil)) ?_,rfl,q⟩;rw[hV,gR];omega
def rExtend:V->List V->Hp->VK->Prop:=λx vs H Q=>∃l b xs zs,x=.ref l/\vs=[.ref b]/\H l=some (.lst xs)/\H b=some (.lst zs)/\xs.length+zs.length<=sizeLine/\Q .non (upd H l (.lst (xs++zs)))
theorem mt_extend:MtM X "list.extend" rExtend:=by
 intro ac s σ H x vs v us Q I rx rv h;obtain⟨l,b,xs,zs,rfl,rfl,hH,hB,hz,q⟩:=h;cases rx;obtain⟨u,rfl,ru⟩:=rv.one;cases ru;obtain⟨z,its,n,r,hl,e⟩:=I.lstM hH;obtain⟨z2,its2,n2,r2,hl2,e2⟩:=I.lstM hB;have hsz:its.toArray.size+its2.toArray.size<=sizeLine:=by rw[mI,mI];omega
 have hlong:¬(!its.toArray.isEmpty&&Builtin.List.listTooLong (its.toArray.size+its2.toArray.size))=true:=by
  rw[HV hsz,Bool.and_false];exact hZ
 refine call_meets F.slot_list_extend ⟨_,e,rfl⟩ F.entry_list_extend (F.args_list_extend_2 _ _)
  (AutoSeq1.list_extend_list_list_0 l its.toArray n b its2.toArray n2 hlong (by rw[mI];omega) (by omega)) ⟨e,e2, ?_⟩
 refine⟨.non,_,I.lset (its':=its++its2) hH e (by simp) (r.append r2) ?_,rfl,q⟩;rw[hV];omega
def rCat:R2:=λx y H Q=>∃l b xs zs,x=.ref l/\y=.ref b/\H l=some (.lst xs)/\H b=some (.lst zs)/\xs.length+zs.length<=sizeLine/\∀p,H p=none->Q (.ref p) (upd H p (.lst (xs++zs)))
theorem ZZ:OpR X (binaryOp .Add) rCat:=by
 intro ac s σ H x y v u Q I rx ry h;obtain⟨l,b,xs,zs,rfl,rfl,hH,hB,hz,q⟩:=h;cases rx;cases ry;obtain⟨z,its,n,r,hl,e⟩:=I.lstM hH;obtain⟨z2,its2,n2,r2,hl2,e2⟩:=I.lstM hB;refine PySem.P.add_list e e2 ?_ (by rw[mI,mI];omega);have ea:its.toArray++its2.toArray=(its++its2).toArray:=by simp
 rw[ea];exact⟨.ref _,_,I.lnew (t':=s.toks) (r.append r2) (by rw[hV];omega),rfl,q _ I.fresh⟩
def rRep:R2:=λx y H Q=>∃l k xs,x=.ref l/\y=.int k/\H l=some (.lst xs)/\-(2^63)<=k/\k<2^63/\xs.length*k.toNat<=sizeLine/\
 ∀p,H p=none->Q (.ref p) (upd H p (.lst (List.replicate k.toNat xs).flatten))
theorem XD{α:Type}(xs:List α)(k:Nat):(List.replicate k xs).flatten.length=k*xs.length:=by
 induction k with
 | zero=>simp
 | succ k ih=>rw[List.replicate_succ,List.flatten_cons,hV,ih,Nat.succ_mul,Nat.add_comm]
theorem KD:OpR X (binaryOp .Mult) rRep:=by
 intro ac s σ H x y v u Q I rx ry h;obtain⟨l,k,xs,rfl,rfl,hH,h1,h2,hz,q⟩:=h;cases rx;obtain⟨t,rfl⟩:=ry;obtain⟨z,its,n,r,hl,e⟩:=I.lstM hH;have hlen:its.toArray.size*k.toNat<=sizeLine:=by rw[mI,<-hl];exact hz
 have hcap:¬its.toArray.size*k.toNat>(2^63-1)/8:=by
  have:(sizeLine:Nat)<=(2^63-1)/8:=by decide
  omega
 have hfit:¬(!Builtin.List.listFitsIndex k)=true:=by
  rw[fitsIndex_both h1 h2];exact hZ
 have hlong:¬Builtin.List.listTooLong (its.toArray.size*k.toNat)=true:=by
  rw[HV hlen];exact hZ
 have hnew:List.foldl (λx1 x2=>x1++x2) #[] (List.replicate (if its.toArray.isEmpty=true then 0 else k.toNat) its.toArray)=(List.replicate k.toNat its).flatten.toArray:=by
  have f0:∀m:Nat,List.foldl (λx1 x2=>x1++x2) #[] (List.replicate m its.toArray)=(List.replicate m its).flatten.toArray:=λm=>by
   have:=DX its m [];rw[List.nil_append]at this;exact this
  rw[f0];cases its with
  | nil=>simp
  | cons a r'=>rw[tV (by simp)]
 refine wpAny_binaryOp_repeat_ref (T:="list") (U:="int") (by decide) ⟨_,e,rfl⟩ (λs'=>typeIs_int s' k t) noFill_list_mul F.fills_int_mul F.slot_int_rmul repeat_list F.slot_int_index.lookup
  (call_meets F.slot_int_rmul (typeIs_int s k t) F.entry_int_rmul (F.args_int_rmul_2 _ _) (int___rmul___int_list k t l its.toArray n)
   ⟨e,rfl,⟨_,e,rfl⟩,call_meets F.slot_list_mul ⟨_,e,rfl⟩ F.entry_list_mul (F.args_list_mul_2 _ _) (AutoListH.list___mul___list_int_3 l its.toArray n k t hfit hcap hlong) ⟨e, ?_⟩⟩)
 rw[hnew];exact⟨.ref _,_,I.lnew (t':=s.toks) (r.rep k.toNat) (by rw[XD,Nat.mul_comm];exact hz),rfl,q _ I.fresh⟩
end
section
variable{prog:Program}{w:World}{A:Around}{E:Value->Shared->Prop}{s:Shared}
set_option maxRecDepth 100000 in
end
section
variable{X:Cx}
end
end L2
namespace Att
open PySem PySem.W PySem.Calls PyProof.Rows
theorem AH{P:Params}{h:Heap} :∀(ns:List Int) (vs:List Value),WellAll P h vs (ns.map WData.int)->IntsAre vs ns:=by
 intro ns;induction ns with
 | nil=>
  intro vs w;rw[List.map_nil]at w;cases w;exact .nil
 | cons n ns ih=>
  intro vs w;rw[nO]at w;cases w with
  | cons a b=>
   cases a;exact .cons _ _ (ih _ b)
theorem NY{l:OpenLaw}{n:Nat}(hn:l.most=some n){P:Params}{h:Heap}{args:List WData}{vals:List Value}
  (hpre:l.row.toRowW.claim.pre args=true) (hwl:WellAll P h vals args) :
  ∃a vs ns,vals=[Value.ref a]/\args=[WData.list (ns.map WData.int)]/\h.get? a=some { cls:=.type "list",data:=.seq vs.toArray }/\IntsAre vs ns/\ns.length<=n:=by
 have hsh:WShape.hasAll [] args [.list .int]=true:=(pre_splitW hpre).1;have hc:l.pre.holds [] { args:=args } = true:=(pre_splitW hpre).2;obtain⟨d,r,rfl,h1,h2⟩:=hasAllW_cons hsh;obtain rfl:=hasAllW_nil h2;obtain⟨xs,rfl,h3⟩:=hasW_list h1;obtain⟨ns,rfl⟩:=items_int h3;have hlen:ns.length<=n:=by
  unfold OpenLaw.pre at hc;have h4:(WTm.not (.lt (.lit (.int (n:Int))) (.len (.arg 0)))).holds [] { args:=[.list (ns.map .int)] } = true:=by
   have h4:=(holds_andW hc).1;rw[hn]at h4;exact h4
  have h5:=condW_of h4 (w_not (w_lt w_lit (w_len_list (w_arg rfl))));rw[mY]at h5;refine Nat.le_of_not_lt λq=>?_;have q':(n:Int)<((ns.length:Nat):Int):=by omega
  first
   | (rw[nG q']at h5;exact absurd h5 (by decide))
   | (simp at h5;omega)
 cases hwl with
 | cons w1 w2=>
  cases w2;cases w1 with
  | list ho hall=>exact⟨_,_,ns,rfl,rfl,ho,AH ns _ hall,hlen⟩
theorem OK(l:OpenLaw)(args:List WData):l.row.toRowW.claim.post args (.bool true) args=true:=
 postW_of (r:=l.row.toRowW) (X:=(true==true))
  (show WShape.has [] (.bool true) .bool=true by first | rfl | decide | simp [WShape.has,WShape.arms,WShape.armsAll])
  (show(WTm.eq .res (.lit (.bool true))).value [] { args:=args,res:=some (.bool true),after:=args } = some (.bool (true==true))from w_eq_bool (w_res rfl) w_lit) rfl
theorem attach_call{l:OpenLaw}{n:Nat}{q:Program}{loose:List Str}{XP:(Str->Option Value)->Heap->Prop}{YP:World->Heap->Prop}{d:DefRec}
  (hn:l.most=some n) (hdf:d.params.defaults=[])
  (call:∀(w:World) (s₀ s₁:Shared) (mg mb:Str->Option Value) (fa:Addr) (o:Obj) (pm cd doc:Value) (a:Addr) (vs:List Value) (ns:List Int),
   Ground q loose [] XP w s₀ mg mb s₁.heap->YP w s₁.heap->
   s₁.heap.get? fa=some o->o.data=.func (docDef d.name d.params d.body d.scope pm cd doc)->s₁.heap.CodeRec cd d.name->mg d.name=some (.ref fa)->
   s₁.heap.get? a=some { cls:=.type "list",data:=.seq vs.toArray }->IntsAre vs ns->ns.length<=n->s₁.gens = #[]->
   codeAny (model l.prog w) callerA (.call (.ref fa) ⟨[.ref a],[]⟩) (λr s'=>r=.ok (.ret (.bool true))/\OldK s₁.heap s'.heap/\s'.os=s₁.os/\AllBare s'.gens) s₁) :
  WalkO q loose XP YP l.row.toRowW d [] (λf vs=>PySem.call f vs):=by
 intro w s₀ s₁ mg mb G Y fa o pm cd doc dV kV ho hd hcd hD hmg hg args vals as hpre hlay hrd hwl hlo;obtain rfl:dV=.none:=Dflts.none hD hdf;obtain rfl:kV=.none:=Dflts.noKw hD;obtain⟨a,vs,ns,rfl,rfl,hobj,hints,hlen⟩:=NY hn hpre hwl;refine enter_call (codeAny_mono (call w s₀ s₁ mg mb fa o pm cd doc a vs ns G Y ho (fd_plain hd) hcd hmg hobj hints hlen hg) λr s' hq=>?_);obtain⟨rfl,h2,h3,h4⟩:=hq;exact⟨.inl ⟨.bool true,.bool true,[],rfl,λ_=>rfl,.bool true,OK l _,λ_=>⟨List.Pairwise.nil,λ_ hm=>(nomatch hm)⟩⟩,h2,h3,h4⟩
section
variable{prog:Program}{w:World}{A:Around}{E:Value->Shared->Prop}{s:Shared}{K:Frag}
end
end Att
namespace L2
open PySem PySem.Spec PyProof.Rows
theorem CO:∀{vs:List Value} {ns:List Int},IntsAre vs ns->Vals (ns.map V.int) vs
 | _,_,.nil=>.nil
 | _,_,.cons n t h=>.cons ⟨t,rfl⟩ (CO h)
def Only(H:Hp):Prop:=∀b,H b=none∨∃o xs,H b=some (.frz o (.lst xs))
theorem TH{P:Program}{w:World}{K:tX}{mg mb:Str->Option Value}{CX:CXT}{k:Nat}{fa a:Addr}{fd:FuncData}{x:Str}{sp:Sp}{s₁:Shared}{vs:List Value}{ns:List Int}
  (KX:K.In s₁.heap) (hns:s₁.heap.Ns mainGlobals mg) (hb:s₁.heap.Ns builtinsNs mb) (hbb:∀x:Str,x≠"__name__"->mb x=bootBuiltins x) (hlim:s₁.heap.NoLimit) (hg:s₁.gens = #[])
  (ha:s₁.heap.get? a=some { cls:=.type "list",data:=.seq vs.toArray }) (hi:IntsAre vs ns) (hl:ns.length<=sizeLine) (hr:Room k callerA)
  (F:∀base:Heap,K.In base->base.Ns mainGlobals mg->FnOk P w K mg base CX k fa fd [x] sp) (hbind:∀(s:Shared) (u:Value),BindsTo s fd ⟨[u],[]⟩ [(x,u)])
  (hsp:∀H:Hp,Only H->SqL K H a (ns.map V.int)->sp [.ref a] H (λv _=>v=.bl true) λ_ _ _=>False)
  (hCX:∀H e s',CX [] H s₁ (λ_ _ _=>False) e s'->False) :
  codeAny (model P w) callerA (.call (.ref fa) ⟨[.ref a],[]⟩) (λr s'=>r=.ok (.ret (.bool true))/\OldK s₁.heap s'.heap/\s'.os=s₁.os/\AllBare s'.gens) s₁:=by
 have rv:=CO hi;have lenV:=hi.length;have core:∀H:Hp,Only H->SqL K H a (ns.map V.int)->HOk P w H s₁.heap->(∀b,H b≠none->b=a)->(H a≠none->K.lookup a=none)->
   codeAny (model P w) callerA (.call (.ref fa) ⟨[.ref a],[]⟩) (λr s'=>r=.ok (.ret (.bool true))/\OldK s₁.heap s'.heap/\s'.os=s₁.os/\AllBare s'.gens) s₁:=by
  intro H hO hS hok hA hK;have base_of:∀{b:Addr} {o:Obj},s₁.heap.get? b=some o->H b=none->(FR s₁.heap H).get? b=some o:=λe n=>TN e n;have noA:∀{b:Addr} {o:Obj} {es:Array DictEntry} {ep:Nat},s₁.heap.get? b=some o->o.data=.dict es ep->H b=none:=fun {b o es ep} e d=>by
   cases q:H b with
   | none=>rfl
   | some u=>
    have e':b=a:=hA b (by rw[q];simp);subst e';rw[ha]at e;cases e;have d':Data.seq vs.toArray _=Data.dict es ep:=d;cases d'
  have nsK:∀{b:Addr} {m:Str->Option Value},s₁.heap.Ns b m->(FR s₁.heap H).Ns b m:=fun {b m} ⟨o,es,ep,e,d,r⟩=>⟨o,es,ep,base_of e (noA e d),d,r⟩;have hKb:K.In (FR s₁.heap H):=λb o e=>base_of (KX b o e) (by
   cases q:H b with
   | none=>rfl
   | some u=>
    have e':b=a:=hA b (by rw[q];simp);subst e';rw[hK (by rw[q];simp)]at e;cases e)
  have hM:Mod K mg (FR s₁.heap H):=⟨hKb,nsK hns,⟨mb,nsK hb,hbb⟩,let ⟨mc,h1,h2⟩:=hlim;⟨mc,nsK h1,h2⟩⟩;have e0:Env0 P w K mg (FR s₁.heap H) callerA [] s₁ H:=⟨rfl,hM,λb o e=>WP e,Nat.le_of_eq (PJ _ _),trivial,λb hb=>absurd (show b∈([]:List Addr)from hb) (by simp),hok,.of_eq hg⟩;refine codeAny_mono ((F _ hKb (nsK hns)).run callerA [] s₁ H ⟨[.ref a],[]⟩ [.ref a] [.ref a] _ _ hr e0 (hbind s₁ (.ref a)) (.cons rfl .nil) (hsp H hO hS)) λr s' h=>?_;cases r with
  | error e=>exact(hCX H e s' h).elim
  | ok fl=>
   cases fl with
   | next=>exact False.elim h
   | brk=>exact False.elim h
   | cont=>exact False.elim h
   | ret u=>
    obtain⟨v,H',os,bare,un,hok',r',q⟩:=h;have q':v=.bl true:=q;subst q';obtain rfl:u=Value.bool true:=r';refine⟨rfl,OldK.of_keep λb o e=>?_,os,bare⟩;cases q:H b with
    | none=>exact un.keep b o e q (by intro z;exact absurd (show b∈([]:List Addr)from z) (by simp)) (by simp)
    | some u=>
     rcases hO b with z | ⟨ob,xs,z⟩
     ·rw[q]at z;cases z
     ·have z2:=un.frzs b ob _ z;obtain⟨e1,_⟩:=hok b _ z;obtain⟨e2,_⟩:=hok' b _ z2;rw[e]at e1;cases e1;exact e2
 cases hk:K.lookup a with
 | some o=>
  have e:=KX a o hk;rw[ha]at e;cases e;refine core (λ_=>none) (λ_=>.inl rfl) (.inr ⟨_,vs.toArray,_,hk,rfl,rfl,rfl,by rw[mI,lenV];exact hl,by simpa using rv⟩) (λb u z=>by have z':(none:Option HO)=some u:=z;cases z') (λb z=>absurd rfl z) λz=>absurd rfl z
 | none=>
  refine core (λb=>if b=a then some (.frz { cls:=.type "list",data:=.seq vs.toArray } (.lst (ns.map V.int)))else none) (λb=>?_) (.inl (.inr ⟨{ cls:=.type "list",data:=.seq vs.toArray },tW rfl⟩)) (λb u z=>?_) (λb z=>?_) λ_=>hk
  ·by_cases hb:b=a
   ·exact .inr ⟨_,_,tW hb⟩
   ·exact .inl (tV hb)
  ·by_cases hb:b=a
   ·have z':=(tW hb).symm.trans z;cases z';subst hb;exact⟨ha,by rw[mY];exact hl,vs,_,rv,ha⟩
   ·have z':=(tV hb).symm.trans z;cases z'
  ·by_cases hb:b=a
   ·exact hb
   ·exact absurd (tV hb) z
theorem VD{l:PySem.W.OpenLaw}{n k:Nat}{q:Program}{loose:List Str}{XP:(Str->Option Value)->Heap->Prop}{YP:World->Heap->Prop}{d:DefRec}{K:Params->tX}{CX:World->CXT}{sp:World->Sp}{x:Str}
  (hn:l.most=some n) (hn2:n<=sizeLine) (hdf:d.params.defaults=[]) (hr:Room k callerA)
  (hY:∀(w:World) (h:Heap),YP w h->(K w.params).In h)
  (F:∀(w:World) (mg:Str->Option Value) (fa:Addr) (h:Heap),(K w.params).In h->h.Ns mainGlobals mg->mg d.name=some (.ref fa)->
   ∃fd:FuncData,(∀(s:Shared) (u:Value),BindsTo s fd ⟨[u],[]⟩ [(x,u)])/\
    ∀base:Heap,(K w.params).In base->base.Ns mainGlobals mg->FnOk l.prog w (K w.params) mg base (CX w) k fa fd [x] (sp w))
  (hsp:∀(w:World) (H:Hp) (a:Addr) (ns:List Int),ns.length<=n->Only H->SqL (K w.params) H a (ns.map V.int)->sp w [.ref a] H (λv _=>v=.bl true) λ_ _ _=>False)
  (hCX:∀(w:World) (H:Hp) (s:Shared) (e:Value) (s':Shared),CX w [] H s (λ_ _ _=>False) e s'->False) :
  PySem.W.WalkO q loose XP YP l.row.toRowW d [] (λf vs=>PySem.call f vs):=by
 refine Att.attach_call hn hdf λw s₀ s₁ mg mb fa o pm cd doc a vs ns G Y ho hd hcd hmg hobj hints hlen hg=>?_;have KX:=hY w _ Y;obtain⟨fd,hb,hF⟩:=F w mg fa _ KX G.T.g hmg;exact TH KX G.T.g G.T.b G.T.builtins G.T.nolimit hg hobj hints (nY hlen hn2) hr hF hb (λH hO hS=>hsp w H a ns hlen hO hS) λH e s'=>hCX w H s₁ e s'
abbrev CX0:CXT:=λ_ _ _ _ _ _=>False
abbrev E0:XK:=λ_ _ _=>False
theorem jR{X:Cx} :Passes CX0 X E0:=λ_ _ _ _ _ _ _ h=>h.elim
structure Fun(K:tX)(x qual:Str)(st:Stmt)(f:Addr)(fd:FuncData):Prop where
 ex:∃(oc:Value) (od:Option Addr) (kV doc pm:Value) (an:Option Addr) (cdv ct:Value) (osl:Array (Option Value)),
  fd=PySem.W.fnOf x qual (vQ st) (vG st) (jL st) .none kV doc pm an cdv ct/\K.lookup f=some ⟨oc,od,.func fd,osl⟩/\PySem.W.codeIn K cdv qual=true
 kp:PySem.W.keepIn K (.ref f)=true
section
variable{P:Program}{w:World}{K:tX}{mg:Str->Option Value}{base:Heap}
theorem Fun.ok{x qual:Str}{st:Stmt}{f:Addr}{fd:FuncData}{N ps:List Str}{k:Nat}{sp:Sp}(F:Fun K x qual st f fd)(S:FnScope N ps (jL st))(len:∀vs H Q E,sp vs H Q E->vs.length=ps.length)
  (hbody:∀(cdv:Value) (A:Around) (outer:List Env) (s:Shared) (H:Hp) (vs:List V) (Q:VK) (E:XK),Room k (A.deeper (envOfC qual (jL st) s.heap.objs.size f cdv))->sp vs H Q E->
   ∃t,PSs (xO CX0 P w K mg base N qual (jL st) f cdv A outer s H E).nox (vG st) t/\t { nx:=λ_ H'=>Q .non H',rt:=Q } (start N vs) H):FnOk P w K mg base CX0 (k+1) f fd ps sp:=by
 obtain⟨oc,od,kV,doc,pm,an,cdv,ct,osl,rfl,lk,hcd⟩:=F.ex;refine uU lk hcd S len λA outer s H vs Q E hr hsp=>?_;obtain⟨t,h,q⟩:=hbody cdv A outer s H vs Q E hr hsp;exact⟨t,h.nox,q⟩
theorem Fun.binds{x qual:Str}{st:Stmt}{f:Addr}{fd:FuncData}{ps:List Str}(F:Fun K x qual st f fd)
  (h:∀(kV doc pm:Value) (an:Option Addr) (cdv ct:Value) (us:List Value),us.length=ps.length->bindArgs (PySem.W.fnOf x qual (vQ st) (vG st) (jL st) .none kV doc pm an cdv ct) ⟨us,[]⟩=pure (ps.zip us)):Binds K fd ps []:=by
 obtain⟨oc,od,kV,doc,pm,an,cdv,ct,osl,rfl,lk,hcd⟩:=F.ex;exact .all (h kV doc pm an cdv ct)
theorem KR{x qual:Str}{st:Stmt}{f:Addr}{oc:Value}{od an:Option Addr}{osl:Array (Option Value)}{kV doc pm cdv ct:Value}(l:K.lookup f=some ⟨oc,od,.func (PySem.W.fnOf x qual (vQ st) (vG st) (jL st) .none kV doc pm an cdv ct),osl⟩)
  (c:PySem.W.codeIn K cdv qual=true) (k:PySem.W.keepIn K (.ref f)=true):Fun K x qual st f (PySem.W.fnOf x qual (vQ st) (vG st) (jL st) .none kV doc pm an cdv ct):=⟨⟨oc,od,kV,doc,pm,an,cdv,ct,osl,rfl,l,c⟩,k⟩
end
section
variable{X:Cx}
theorem pv(i:Nat){x:Str}{pos:Pos}(hN:X.N[i]? = some x:=by rfl)(hv:Vis X.env.scope x:=by first | exact Or.inl rfl | exact Or.inr (Or.inl rfl) | exact Or.inr (Or.inr rfl))(hd:(x==("__debug__" :Str))=false:=by decide)
  (hcd:(x==("__classdict__" :Str))=false:=by decide):PE X (.Name x pos) (kK i):=ZO hN hv hd hcd
end
theorem AF{A B:Prop}(h:B):if false=true then A else B:=by
 rw[tV hZ];exact h
theorem FP{A B:Prop}(h:A):if true=true then A else B:=by
 rw[tW rfl];exact h
theorem AG{c A B:Prop} [Decidable c](h1:c->A)(h2:¬c->B):if c then A else B:=by
 by_cases h:c
 ·rw[tW h];exact h1 h
 ·rw[tV h];exact h2 h
def Same(H H':Hp):Prop:=∀b o,H b=some o->H' b=some o
theorem Same.refl(H:Hp):Same H H:=λ_ _ h=>h
theorem Same.trans{H H1 H2:Hp}(a:Same H H1)(b:Same H1 H2):Same H H2:=λc o h=>b c o (a c o h)
theorem Same.free{H H':Hp}(e:Same H H'){l:Addr}(h:H' l=Option.none):H l=Option.none:=by
 cases q:H l with
 | none=>rfl
 | some o=>
  rw[e l o q]at h;cases h
end L2
namespace LwM
theorem vB{a b c:Int}(h:Int.gcd a b=1)(d:c∣b):Int.gcd a c=1:=by
 have:=Int.gcd_dvd_gcd_of_dvd_right a d;rw[h]at this;exact Nat.eq_one_of_dvd_one this
theorem yU{a b c:Int}(h:Int.gcd a b=1)(d:c∣a):Int.gcd c b=1:=by
 rw[Int.gcd_comm]at h ⊢;exact vB h d
theorem YC{t b o u:Int}(hb:0<b)(hu:0<u)(g1:Int.gcd t b=1)(g2:Int.gcd o u=1) :
  (t*(u/(Int.gcd b u:Int))+o*(b/(Int.gcd b u:Int)))/(Int.gcd (t*(u/(Int.gcd b u:Int))+o*(b/(Int.gcd b u:Int))) (Int.gcd b u):Int)=(t*u+o*b)/(Int.gcd (t*u+o*b) (b*u):Int)/\
  (b/(Int.gcd b u:Int))*(u/(Int.gcd (t*(u/(Int.gcd b u:Int))+o*(b/(Int.gcd b u:Int))) (Int.gcd b u):Int))=(b*u)/(Int.gcd (t*u+o*b) (b*u):Int):=by
 have sp:0<Int.gcd b u:=Int.gcd_pos_of_ne_zero_left _ (by omega);have c1:Int.gcd (b/(Int.gcd b u:Int)) (u/(Int.gcd b u:Int))=1:=Int.gcd_ediv_gcd_ediv_gcd sp;have d1:(Int.gcd b u:Int)∣b:=mV ..;have d2:(Int.gcd b u:Int)∣u:=mO ..;have e1:(Int.gcd b u:Int)*(b/(Int.gcd b u:Int))=b:=Int.mul_ediv_cancel' d1;have e2:(Int.gcd b u:Int)*(u/(Int.gcd b u:Int))=u:=Int.mul_ediv_cancel' d2;have sp':(0:Int)<(Int.gcd b u:Int):=by omega
 generalize hs:(Int.gcd b u:Int)=s at *;generalize hb':b/s=b' at *;generalize hu':u/s=u' at *;generalize hT:t*u'+o*b'=T at *;have v1:b'∣b:=⟨s,by rw[tK];exact e1.symm⟩;have v2:u'∣u:=⟨s,by rw[tK];exact e2.symm⟩;have x1:t*u+o*b=s*T:=by
  rw[<-hT,Int.mul_add,<-nT,<-nT,tK s t,tK s o,nT,nT,e1,e2]
 have x2:b*u=s*(b'*u):=by rw[<-nT,e1]
 have x3:b'*u=s*b'*u':=by rw[tK s b',nT,e2]
 have y1:Int.gcd T b'=1:=by
  rw[<-hT,Int.gcd_add_mul_right_left,Int.gcd_mul_right_left_of_gcd_eq_one (vB g1 v1),Int.gcd_comm];exact c1
 have y2:Int.gcd T u'=1:=by
  rw[<-hT,Int.add_comm,Int.gcd_add_mul_right_left,Int.gcd_mul_right_left_of_gcd_eq_one (vB g2 v2)];exact c1
 have z:Int.gcd T (b'*u)=Int.gcd T s:=by
  rw[x3,Int.gcd_mul_left_right_of_gcd_eq_one y2,Int.gcd_mul_left_right_of_gcd_eq_one y1]
 have g:(Int.gcd (t*u+o*b) (b*u):Int)=s*(Int.gcd T s:Int):=by
  rw[x1,x2,Int.gcd_mul_left,z,Int.natCast_mul,Int.natAbs_of_nonneg (by omega)]
 rw[g];refine⟨?_, ?_⟩
 ·rw[x1,Int.mul_ediv_mul_of_pos _ _ sp']
 ·rw[x2,Int.mul_ediv_mul_of_pos _ _ sp'];exact(Int.mul_ediv_assoc _ (Int.dvd_trans (mO ..) d2)).symm
theorem WX{t b o u:Int}(hb:0<b)(hu:0<u)(g1:Int.gcd t b=1)(g2:Int.gcd o u=1) :
  (t/(Int.gcd t u:Int))*(o/(Int.gcd o b:Int))=(t*o)/(Int.gcd (t*o) (b*u):Int)/\
  (b/(Int.gcd o b:Int))*(u/(Int.gcd t u:Int))=(b*u)/(Int.gcd (t*o) (b*u):Int):=by
 have fp:0<Int.gcd t u:=Int.gcd_pos_of_ne_zero_right _ (by omega);have sp:0<Int.gcd o b:=Int.gcd_pos_of_ne_zero_right _ (by omega);have c1:=Int.gcd_ediv_gcd_ediv_gcd fp;have c2:=Int.gcd_ediv_gcd_ediv_gcd sp;have e1:(Int.gcd t u:Int)*(t/(Int.gcd t u:Int))=t:=Int.mul_ediv_cancel' (mV ..);have e2:(Int.gcd t u:Int)*(u/(Int.gcd t u:Int))=u:=Int.mul_ediv_cancel' (mO ..);have e3:(Int.gcd o b:Int)*(o/(Int.gcd o b:Int))=o:=Int.mul_ediv_cancel' (mV ..);have e4:(Int.gcd o b:Int)*(b/(Int.gcd o b:Int))=b:=Int.mul_ediv_cancel' (mO ..);have fp':(0:Int)<(Int.gcd t u:Int):=by omega
 have sp':(0:Int)<(Int.gcd o b:Int):=by omega
 generalize (Int.gcd t u:Int)=f at *;generalize (Int.gcd o b:Int)=s at *;generalize t/f=t' at *;generalize u/f=u' at *;generalize o/s=o' at *;generalize b/s=b' at *;have v1:t'∣t:=⟨f,by rw[tK];exact e1.symm⟩;have v2:u'∣u:=⟨f,by rw[tK];exact e2.symm⟩;have v3:o'∣o:=⟨s,by rw[tK];exact e3.symm⟩;have v4:b'∣b:=⟨s,by rw[tK];exact e4.symm⟩;have x1:t*o=(f*s)*(t'*o'):=by
  rw[<-e1,<-e3];simp only[nT,Int.mul_left_comm,tK]
 have x2:b*u=(f*s)*(b'*u'):=by
  rw[<-e2,<-e4];simp only[nT,Int.mul_left_comm,tK]
 have n1:Int.gcd (t'*o') b'=1:=by
  rw[Int.gcd_mul_right_left_of_gcd_eq_one (yU (vB g1 v4) v1)];exact c2
 have n2:Int.gcd (t'*o') u'=1:=by
  rw[Int.gcd_mul_right_left_of_gcd_eq_one c1];exact yU (vB g2 v2) v3
 have n3:Int.gcd (t'*o') (b'*u')=1:=by
  rw[Int.gcd_mul_right_right_of_gcd_eq_one n1];exact n2
 have fs:(0:Int)<f*s:=tN fp' sp';have g:(Int.gcd (t*o) (b*u):Int)=f*s:=by
  rw[x1,x2,Int.gcd_mul_left,n3,Nat.mul_one,Int.natAbs_of_nonneg (by omega)]
 rw[g,x1,x2,Int.mul_ediv_cancel_left _ (by omega),Int.mul_ediv_cancel_left _ (by omega)];exact⟨rfl,rfl⟩
theorem IG(a b:Int):Int.gcd b (a%b)=Int.gcd a b:=by
 rw[Int.emod_def,tK b,Int.gcd_sub_mul_right_right,Int.gcd_comm]
theorem qR(a b:Int)(h:0<b):(1:Int)<=(Int.gcd a b:Int):=by
 have:0<Int.gcd a b:=Int.gcd_pos_of_ne_zero_right _ (by omega);omega
theorem TR(a b:Int)(h:0<b):(Int.gcd a b:Int)<=b:=Int.le_of_dvd h (mO a b)
theorem BZ(t g:Int)(h:1<=g):(t/g).natAbs<=t.natAbs:=by
 rcases Int.lt_or_le t 0 with n | n
 ·have h1:t/g<0:=Int.ediv_neg_of_neg_of_pos n (by omega);have h2:t<=t/g:=by
   rw[Int.le_ediv_iff_mul_le (by omega)];have:=Int.mul_le_mul_of_nonpos_left (a:=t) (b:=g) (c:=1) (by omega) h;omega
  omega
 ·have h1:0<=t/g:=Int.ediv_nonneg n (by omega);have h2:t/g<=t:=Int.ediv_le_self g n;omega
theorem log2_lt{n:Nat}{k:Nat}(hk:0<k)(h:n<2^k):n.log2<k:=by
 by_cases e:n=0
 ·subst e;simpa using hk
 ·exact(Nat.log2_lt e).mpr h
end LwM
namespace Lw
open PySem PySem.Spec PyProof.Rows L2
inductive Kd where
 | non | bl | int | str | lst | tup
 deriving DecidableEq
inductive KdOf(H:Hp):V->Kd->Prop where
 | non:KdOf H .non .non
 | bl (b:Bool):KdOf H (.bl b) .bl
 | int (i:Int):KdOf H (.int i) .int
 | str (x:Str):KdOf H (.str x) .str
 | lst {a:Addr} {xs:List V} (e:H a=some (.lst xs)):KdOf H (.ref a) .lst
 | tup {a:Addr} {xs:List V} (e:H a=some (.tup xs)):KdOf H (.ref a) .tup
section
variable{X:Cx}
theorem wU:∀{vs:List Value} {ns:List Int} {j:Nat} (_:IntsAre vs ns) (h:j<vs.length),∃n t,ns[j]? = some n/\vs[j]=.int n t
 | _,_,_,.nil,h=>absurd h (Nat.not_lt_zero _)
 | _,_,0,.cons n t _,_=>⟨n,t,rfl,rfl⟩
 | _,_,j+1,.cons _ _ r,h=>by
  obtain⟨n,t,e1,e2⟩:=wU (j:=j) r (by simpa using h);exact⟨n,t,by simpa using e1,by simpa using e2⟩
theorem zJ:∀{vs:List Value} {ns:List Int},IntsAre vs ns->vs.length=ns.length
 | _,_,.nil=>rfl
 | _,_,.cons _ _ r=>by simp [zJ r]
def CDivL(_ j:Int):Prop:=0<j/\j.natAbs<2^8000
theorem qO:OpR X (binaryOp .FloorDiv) (rI CDivL λi j=>.int (i/j)):=opI λi j _ _ _ _ _ hc q=>by
 refine floordiv_int (by have:=hc.1;omega) ?_ (.inl (PyProof.noPylong_of_log2 (mB (LwM.log2_lt (by decide) hc.2) (by decide))));rw[Int.fdiv_eq_ediv_of_nonneg _ (Int.le_of_lt hc.1)];exact q
def CMulL(i j:Int):Prop:=i.natAbs<2^100000/\j.natAbs<2^100000
theorem qH:OpR X (binaryOp .Mult) (rI CMulL λi j=>.int (i*j)):=opI λ_ _ _ _ _ _ _ hc q=>mul_int q (IntMulOk.of_bits (nY (PySem.intBits_le_iff.mpr hc.1) (by decide)) (nY (PySem.intBits_le_iff.mpr hc.2) (by decide)))
end
theorem vS{c:Bool}{A B:Prop}(h:c=true)(a:A):if c=true then A else B:=by
 rw[tW h];exact a
theorem vF{c:Bool}{A B:Prop}(h:c=false)(b:B):if c=true then A else B:=by
 subst h;exact AF b
def But(p:Addr)(H H':Hp):Prop:=∀c o,H c=some o->c≠p->H' c=some o
theorem But.refl(p:Addr)(H:Hp):But p H H:=λ_ _ h _=>h
theorem But.trans{p:Addr}{H H1 H2:Hp}(a:But p H H1)(b:But p H1 H2):But p H H2:=λc o h n=>b c o (a c o h n) n
theorem But.upd(p:Addr)(H:Hp)(o:HO):But p H (upd H p o):=λc _ h n=>by
 rw[jH n];exact h
theorem But.of{p:Addr}{H H':Hp}(s:Same H H'):But p H H':=λc o h _=>s c o h
theorem kF{H:Hp}{p:Addr}(o:HO)(n:H p=none):Same H (upd H p o):=λb q e=>by
 rw[jH (jX e n)];exact e
theorem fresh{H:Hp}{o:HO}{Q:VK}(h:∀p H',H p=none->Same H H'->H' p=some o->Q (.ref p) H'):∀p,H p=none->Q (.ref p) (upd H p o):=
 λp n=>h p _ n (kF o n) jF
def New(H:Hp)(o:HO)(Q:VK):Prop:=∀p H',H p=none->Same H H'->H' p=some o->Q (.ref p) H'
theorem New.at{H:Hp}{o:HO}{Q:VK}(h:New H o Q){p:Addr}(n:H p=none):Q (.ref p) (upd H p o):=h p _ n (kF o n) jF
section
variable{X:Cx}{es:List Expr}{t:TA}{pos:Pos}
def tTupF(t:TA):TE:=fun σ H Q=>t σ H λxs H1=>xs.length<=sizeLine/\New H1 (.tup xs) Q
def CS(t:TA):TE:=fun σ H Q=>t σ H λxs H1=>xs.length<=sizeLine/\New H1 (.lst xs) Q
theorem jV{x1}(h:PA X es t):PE X (.Tuple es x1 pos) (tTupF t):=by
 intro ac s σ H Q I hq;refine wpAny_Tuple_spliced (thn (h pos ac s σ H _ I hq) λus s1 ⟨xs,H1,I1,r,z,q⟩=>⟨by rw[<-r.length];exact z, ?_⟩);have hf:H1 s1.heap.objs.size=none:=I1.hok.fresh uV ;refine⟨.ref s1.heap.objs.size,upd H1 s1.heap.objs.size (.tup xs),I1.laid (t':=s1.toks) (λb u e=>gK _ e) uV ?_,rfl,q.at hf⟩;exact⟨z,us,r,⟨_,gZ _ rfl,rfl,_,rfl⟩,.of (gZ _ rfl) rfl⟩
theorem kM(h:PA X es t):PE X (.List es pos) (CS t):=by
 intro ac s σ H Q I hq;refine wpAny_List_spliced (thn (h pos ac s σ H _ I hq) λus s1 ⟨xs,H1,I1,r,z,q⟩=>⟨by rw[<-r.length];exact z, ?_⟩);have hf:H1 s1.heap.objs.size=none:=I1.hok.fresh uV ;refine⟨.ref s1.heap.objs.size,upd H1 s1.heap.objs.size (.lst xs),I1.laid (t':=s1.toks) (λb u e=>gK _ e) uV ?_,rfl,q.at hf⟩;exact⟨z,us,0,r,gZ _ rfl⟩
theorem ZS{f:Value->Value->Sem Value}{r r':R2}(h:OpR X f r)(i:∀x y H Q,r' x y H Q->r x y H Q):OpR X f r':=
 λac s σ H x y v u Q I rx ry q=>h ac s σ H x y v u Q I rx ry (i x y H Q q)
theorem UV{f:Value}{r r':List V->Hp->VK->Prop}(h:CallR X f r)(i:∀xs H Q,r' xs H Q->r xs H Q):CallR X f r':=
 λac s σ H xs us Q I rv q=>h ac s σ H xs us Q I rv (i xs H Q q)
theorem ZE{r r':V->Option Int->Option Int->Hp->VK->Prop}(h:SlR X r)(i:∀x a b H Q,r' x a b H Q->r x a b H Q):SlR X r':=
 λac s σ H x v vl vu lo hi sl Q I rx hs pl pu q=>h ac s σ H x v vl vu lo hi sl Q I rx hs pl pu (i x lo hi H Q q)
def ZI(K:tX):List V->Hp->VK->Prop:=λxs H Q=>∃p ys,xs=[.ref p]/\(SqL K H p ys∨SqT K H p ys)/\New H (.lst ys) Q
theorem CF:CallR X (.type "list") (ZI X.K):=UV FX λxs H Q ⟨p,ys,e,h,q⟩=>⟨p,ys,e,h,λl n=>q.at n⟩
def rCatF:R2:=λx y H Q=>∃l b xs zs,x=.ref l/\y=.ref b/\H l=some (.lst xs)/\H b=some (.lst zs)/\xs.length+zs.length<=sizeLine/\New H (.lst (xs++zs)) Q
theorem qY:OpR X (binaryOp .Add) rCatF:=ZS ZZ λx y H Q ⟨l,b,xs,zs,e1,e2,h1,h2,h3,q⟩=>⟨l,b,xs,zs,e1,e2,h1,h2,h3,λp n=>q.at n⟩
def RO(K:tX):V->Option Int->Option Int->Hp->VK->Prop:=λx lo hi H Q=>∃a xs,x=.ref a/\SqL K H a xs/\New H (.lst (xJ xs lo hi)) Q
theorem qK:SlR X (RO X.K):=ZE VM λx a b H Q ⟨p,xs,e,h1,q⟩=>⟨p,xs,e,h1,λp n=>q.at n⟩
end
section
variable{prog:Program}{w:World}{A:Around}{R:Result->Shared->Prop}{s:Shared}
theorem yR{elt target iter:Expr}{scope:Scope}{pos:Pos}{it acc:Value}{env:Env}(I:Nat->Shared->Prop)
  (turn:∀n s,I n s->wpAny (model prog w) A (pyNext it) (λr s₁=>match r with
   | none=>R (.ok .next) s₁
   | some v=>wpAny (model prog w) A (letOwnedTupleGo target it v) (λ_ s₁'=>wpAny (model prog w) A (assign target env v) (λ_ s₂=>wpAny (model prog w) A (eval elt env) (λx s₃=>
     wpAny (model prog w) A (call (.builtin "list.append") [acc,x]) (λ_ s₄=>∃m,m<n/\I m s₄) (notedBy (model prog w) A env λe s'=>R (.error e) s') s₃)
     (notedBy (model prog w) A env λe s'=>R (.error e) s') s₂) (notedBy (model prog w) A env λe s'=>R (.error e) s') s₁') (notedBy (model prog w) A env λe s'=>R (.error e) s') s₁) (notedBy (model prog w) A env λe s'=>R (.error e) s') s)
  (n:Nat) (h:I n s) :
  codeAny (model prog w) A (.compLoop (.ListComp elt [⟨target,iter,[],0⟩] scope pos) 0 it acc env) R s:=by
 refine codeAny_loop rfl I (λn s hI=>?_) n h;show wpAny _ _ ((compTurn (.ListComp elt [⟨target,iter,[],0⟩] scope pos) 0 it acc env).onRaise (λx=>do noteFrame x env;theTreesLotGoes x)) _ _ s;refine wpAny_noted ?_;rw[compTurn_list1];refine tS (wpAny_standAt (tS (tU (turn n s hI) (λr s₁ h₁=>?_) λ_ _ h'=>h')));cases r with
 | none=>exact tT h₁
 | some v=>
  refine tS (tU h₁ (λ_ s₁' h₁'=>?_) λ_ _ h'=>h');exact tS (tU h₁' (λ_ s₂ h₂=>tS (tS (tU h₂ (λx s₃ h₃=>tS (tU h₃
   (λ_ s₄ h₄=>tT (tT ⟨rfl,h₄⟩)) λ_ _ h'=>h')) λ_ _ h'=>h'))) λ_ _ h'=>h')
end
def kO(X:Cx)(N:List Str)(scope:Scope)(C:Addr)(fp:List Addr)(s2:Shared)(H2:Hp):Cx:=
 { X with N:=N,s₀:=s2,H₀:=H2,env:=compEnv scope C X.env,outer:=X.stack,stack:=X.stack,ex:=fp,fn:=λ_=>true,pn:=[],xe:=λ_ _=>False }
def CompGo(n:Nat)(J:It)(g:TG)(te:TE)(Q:VK)(p:Addr)(H':Hp):Prop:=
 ∃W:Nat->Nat->List V->Hp->Prop,(∃m,W 0 m [] H')/\∀i m ys H2,W i m ys H2->H2 p=some (.lst ys)/\ys.length<sizeLine/\
  ((J.stop i H2/\Q (.ref p) H2)∨(J.go i H2/\∀x H3,J.yld i H2 x H3->g x (List.replicate n none) H3 fun σ4 H4=>te σ4 H4 λy H5=>H5 p=some (.lst ys)/\∃m',m'<m/\W (i+1) m' (ys++[y]) (upd H5 p (.lst (ys++[y])))))
def YI(n:Nat)(wi:TI)(g:TG)(te:TE):TE:=fun σ H Q=>wi σ H λJ H1=>∀p H',H1 p=none->Same H1 H'->H' p=some (.lst [])->CompGo n J g te Q p H'
section
variable{X:Cx}
theorem EA{ac:List (Addr×Obj)}{σ:L2.St}{H1:Hp}{s2:Shared}{N:List Str}{scope:Scope}{C:Addr}{fp:List Addr}(I:Inv X ac σ H1 s2)(hk:scope.kind=.function)
  (hn:∀x,scope.names.lookup x≠some .cell/\scope.names.lookup x≠some .free) (hC:s2.heap.objs.size<=C) (hf:∀b∈fp,FpOk X ac H1 b) (hlt:∀b∈fp,b<s2.heap.objs.size):(kO X N scope C fp s2 H1).Ok where
 mod:=I.ok.mod
 kind:=hk
 glob:=I.ok.glob
 blt:=I.ok.blt
 above:=hC
 inj:=λx y c h=>nomatch h
 has:=λx h=>h.elim (λz=>absurd z (hn x).1) (λz=>absurd z (hn x).2)
 cab:=λx c _ h=>nomatch h
 hd:=I.ok.hd
 frames:=I.ok.frames
 stk:=.inl rfl
 exf:=λb hb=>⟨nZ (mB (hlt b hb) hC),λx c h=>nomatch h⟩
 bs:=I.bs
 bsz:=nY I.ok.bsz I.sz
 noex:=λb o e hb=>by
  rcases(hf b hb).2.2.2.1 with z | z
  ·exact I.ok.noex b o e z
  ·exact absurd (mB (nX e) (nY I.ok.bsz z)) (nQ _)
 exfs:=λb hb z=>(nP.mp (I.stkSub b z)).elim (hf b hb).2.1 (hf b hb).2.2.1
 funs:=I.stack
 frf:=I.stkFree
theorem VV{N:List Str}{elt target iter:Expr}{scope:Scope}{pos:Pos}{wi:TI}{g:TG}{te:TE}(hc:X.calm=true)
  (hk:scope.kind=.function) (hn:∀x,scope.names.lookup x≠some .cell/\scope.names.lookup x≠some .free) (hfree:∀x∈scope.names,x.2≠.free) (hcell:∀x∈scope.names,x.2≠.cell) (hnames:∀x∈scope.names,x.2=.local->scope.names.lookup x.1=some .local)
  (hi:PI X target iter wi) (hg:∀C fp s2 H2,PG (kO X N scope C fp s2 H2) target g) (he:∀C fp s2 H2,PE (kO X N scope C fp s2 H2) elt te)
  (hs:∀x,foldedSetIterable iter X.env x=pure x:=by intro _;rfl):PE X (.ListComp elt [⟨target,iter,[],0⟩] scope pos) (YI N.length wi g te):=by
 intro ac s σ H Q I h;refine wpAny_ListComp hfree hk hnames (thn (hi ac s σ H _ I h) λv s1 h1=>thn h1 λitv s2 h2=>?_) hs;obtain⟨it,fp,tn,J,H1,e,I2,T,st2,f2,hR⟩:=h2;subst e;have hlt:∀b∈fp,b<s2.heap.objs.size:=λb hb=>by
  obtain⟨o,ho,_⟩:=T.obj 0 _ st2 b hb;exact nX ho
 refine wpAny_newObj_type (wpAny_newFunctionEnv hcell (by intro y hy;simp at hy) (λh₁ hns₁ hsb₁=>?_) hk);dsimp only at hns₁ hsb₁ ⊢;generalize hHH:s2.heap.push { cls:=.type "list",dict:=none,data:=.seq ([]:List Value).toArray } = HH at hns₁ hsb₁ ⊢;have hCe:HH.objs.size=s2.heap.objs.size+1:=by rw[<-hHH,nN]
 have hDC:s2.heap.objs.size≠HH.objs.size:=by rw[hCe];exact nZ (mW _)
 have hCle:s2.heap.objs.size<=HH.objs.size:=by rw[hCe];exact Nat.le_succ _
 have old:∀b o,s2.heap.get? b=some o->h₁.get? b=some o:=λb o e=>hsb₁.extBut b o (by rw[hCe];exact nZ (Nat.lt_succ_of_lt (nX e))) (gK _ (hHH▸gK _ e));have hD:h₁.get? s2.heap.objs.size=some { cls:=.type "list",dict:=none,data:=.seq ([]:List Value).toArray } :=hsb₁.extBut _ _ hDC (gK _ (hHH▸gZ _ rfl));have nD:H1 s2.heap.objs.size=none:=I2.hok.fresh uV ;obtain⟨W,⟨m0,w0⟩,turn⟩:=hR s2.heap.objs.size _ nD (kF (.lst []) nD) jF;have ok:=EA (N:=N) (C:=HH.objs.size) I2 hk hn hCle f2 hlt;have I4:Inv (kO X N scope HH.objs.size fp s2 H1) [] (List.replicate N.length none) (upd H1 s2.heap.objs.size (.lst [])) { s2 with heap:=h₁,toks:=s2.toks+([]:List (Str×Value)).length } :=by
  refine⟨ok,rfl,I2.bare,Un.laid old uV nD,⟨_,hns₁,λi x v _ e2 _=>?_⟩,(λx c z=>nomatch z), ?_,(λx c z=>nomatch z),(λp hp=>nomatch hp),I2.hok.laid old uV ?_,by rw[gO];rfl⟩
  ·rw[List.getElem?_replicate]at e2;split at e2<;>cases e2
  ·show(upd H1 s2.heap.objs.size (.lst [])) HH.objs.size=none;rw[jH (Ne.symm hDC)];exact I2.hok.fresh hCle
  ·exact⟨by show 0<=sizeLine;decide,[],0,.nil,hD⟩
 have stat:∀{H':Hp},(∀b∈fp,H' b=none)->∀b∈fp,FpOk (kO X N scope HH.objs.size fp s2 H1) [] H' b:=λhn b hb=>
  ⟨hn b hb,(ok.exf b hb).1,ok.exfs b hb,.inl hb,(ok.exf b hb).2,λp hp=>nomatch hp⟩
 have st4:tn 0 h₁:=T.keep _ _ _ st2 λb _ o e=>old b o e;have fr4:∀b∈fp,(upd H1 s2.heap.objs.size (.lst [])) b=none:=λb hb=>by
  rw[jH (nZ (hlt b hb))];exact(f2 b hb).1
 have loop:codeAny (model X.prog X.w) X.A (.compLoop (.ListComp elt [⟨target,iter,[],0⟩] scope pos) 0 (.ref it) (.ref s2.heap.objs.size) (compEnv scope HH.objs.size X.env))
   (λr s'=>∃m,s'.heap.Ns HH.objs.size m/\∀h',Heap.SameBut HH.objs.size s'.heap h'->
      match r with | .ok _=>EP X ac σ Q (.ref s2.heap.objs.size) { s' with heap:=h' } | .error x=>wpAny (model X.prog X.w) X.A (passOn "comprehension.variables-let-go" x (compEnv scope HH.objs.size X.env)) (EP X ac σ Q) X.xe { s' with heap:=h' })
   { s2 with heap:=h₁,toks:=s2.toks+([]:List (Str×Value)).length } :=by
  refine yR (λn s'=>∃i ys H',Inv (kO X N scope HH.objs.size fp s2 H1) [] (List.replicate N.length none) H' s'/\tn i s'.heap/\(∀b∈fp,H' b=none)/\W i n ys H') ?_ m0 ⟨0,[],_,I4,st4,fr4,w0⟩;rintro n s3 ⟨i,ys,H3,I3,st3,fr3,w3⟩;obtain⟨hp3,hz3,hw⟩:=turn i n ys H3 w3;rcases hw with⟨stop,qn⟩ | ⟨go,step⟩
  ·refine thn (T.done (kO X N scope HH.objs.size fp s2 H1) rfl rfl rfl hc i [] s3 _ H3 _ I3 (stat fr3) st3 stop) λr s4 ⟨hr,I5⟩=>?_;subst hr;obtain⟨m,hm,_⟩:=id I5.loc;refine⟨m,hm,λh' sb=>⟨.ref s2.heap.objs.size,H3, ?_,rfl,qn⟩⟩;have k:∀b o,b≠HH.objs.size->s4.heap.get? b=some o->h'.get? b=some o:=λb o hb e=>sb.extBut b o hb e;have nb:∀b o,s2.heap.get? b=some o->b≠HH.objs.size:=λb o e=>by rw[hCe];exact nZ (Nat.lt_succ_of_lt (nX e))
   have U:=I5.base;have fC:H3 HH.objs.size=none:=I5.free;refine I2.call' (ch:=fp) (s':={ s4 with heap:=h' }) I5.os ⟨λb o e n hb hx=>k b o (nb b o e) (U.keep b o e n hb hx),λb o e n hb hx=>?_,U.free,λb o e hx=>?_,U.tups,U.frzs,U.tbls⟩ (λb u e=>?_) I5.bare (λb hb=>⟨(f2 b hb).2.2.2.1,(f2 b hb).2.1,(f2 b hb).2.2.2.2.1,(f2 b hb).2.2.2.2.2⟩)
   ·obtain⟨sl,q⟩:=U.slot b o e n hb hx;exact⟨sl,k b _ (nb b o e) q⟩
   ·obtain⟨o',q⟩:=U.there b o e hx;exact⟨o',k b _ (nb b o e) q⟩
   ·refine(I5.hok b u e).stay (λc v hcc q=>k c v ?_ q) (λ_ q=>q) λ_ _ q=>q;rcases hcc with z | z
    ·rw[z];intro y;rw[y,fC]at e;cases e
    ·intro y;rw[y,fC]at z;cases z
  ·refine tU (T.item (kO X N scope HH.objs.size fp s2 H1) rfl rfl rfl hc i [] s3 _ H3 (λ_ _=>False) I3 (stat fr3) st3 go) (λr s4 ⟨u,hr,h4⟩=>?_) λ_ _ z=>z.elim;subst hr;refine tU h4 (λ_ s5 ⟨x,H5,I5,r5,y5,st5,fr5⟩=>?_) λ_ _ z=>z.elim;have I5':=I5.pinned (stat fr5) (T.obj _ _ st5);refine tU (hg _ _ _ _ _ s5 _ H5 x u _ I5' r5 (step x H5 y5)) (λ_ s6 ⟨σ6,H6,I6,q6⟩=>?_) λ_ _ z=>z.elim;refine tU (he _ _ _ _ _ s6 σ6 H6 _ I6 q6) (λy s7 ⟨yv,H7,I7,r7,q7⟩=>?_) λ_ _ z=>z.elim;obtain⟨e7,m',hm',w7⟩:=q7;refine tU (vC (X:=kO X N scope HH.objs.size fp s2 H1) _ s7 σ6 H7 (.ref s2.heap.objs.size) [yv] (.ref s2.heap.objs.size) [y] (λ_ H8=>H8=upd H7 s2.heap.objs.size (.lst (ys++[yv]))) I7 rfl (.cons r7 .nil) ⟨_,ys,yv,rfl,rfl,e7,hz3,rfl⟩) (λ_ s8 ⟨_,H8,I8,_,q8⟩=>?_) λ_ _ z=>z.elim;subst q8;refine⟨m',hm',i+1,_,_,(I8.unpinned).weak (by rw[gO,I8.len];rfl) (λj v ev=>?_),T.keep _ _ _ st5 λb hb o e=>(I8.pin (b,o) (gN _ (gN _ (jS hb e)))).1,λb hb=>?_,w7⟩
   ·rw[List.getElem?_replicate]at ev;split at ev<;>cases ev
   ·obtain⟨o,e,d⟩:=T.obj _ _ st5 b hb;exact(I8.pin (b,o) (gN _ (gN _ (jS hb e)))).2.1
 exact codeAny_compStart_list loop (T.self _ 0 _ _ _ st4 loop)
end
mutual
inductive DecV(H:Hp):V->PyData->Prop where
 | non:DecV H .non .none
 | bl (b:Bool):DecV H (.bl b) (.bool b)
 | int (i:Int):DecV H (.int i) (.int i)
 | str (x:Str):DecV H (.str x) (.str x)
 | lst {a:Addr} {xs:List V} {ds:List PyData} (e:H a=some (.lst xs)) (h:DecVs H xs ds):DecV H (.ref a) (.list ds)
 | tup {a:Addr} {xs:List V} {ds:List PyData} (e:H a=some (.tup xs)) (h:DecVs H xs ds):DecV H (.ref a) (.tuple ds)
inductive DecVs(H:Hp):List V->List PyData->Prop where
 | nil:DecVs H [] []
 | cons {x:V} {d:PyData} {xs:List V} {ds:List PyData} (h:DecV H x d) (t:DecVs H xs ds):DecVs H (x::xs) (d::ds)
end
section
variable{X:Cx}
theorem RV{N:List Str}{elt target iter:Expr}{scope:Scope}{pos:Pos}{wi:TI}{g:TG}{te:TE}(hc:X.calm=true)
  (hk:scope.kind=.function) (hfree:∀x∈scope.names,x.2≠.free) (hcell:∀x∈scope.names,x.2≠.cell) (hnames:∀x∈scope.names,x.2=.local->scope.names.lookup x.1=some .local)
  (hi:PI X target iter wi) (hg:∀C fp s2 H2,PG (kO X N scope C fp s2 H2) target g) (he:∀C fp s2 H2,PE (kO X N scope C fp s2 H2) elt te)
  (hs:∀x,foldedSetIterable iter X.env x=pure x:=by intro _;rfl):PE X (.ListComp elt [⟨target,iter,[],0⟩] scope pos) (YI N.length wi g te):=
 VV hc hk (λx=>⟨λz=>hcell _ (PySem.mem_of_lookup z) rfl,λz=>hfree _ (PySem.mem_of_lookup z) rfl⟩) hfree hcell hnames hi hg he hs
end
def CompW(xs:List V)(Pv:Nat->List V->Hp->Prop)(i m:Nat)(ys:List V)(H:Hp):Prop:=m=xs.length-i/\i<=xs.length/\ys.length=i/\Pv i ys H
theorem qA{xs:List V}{Pv:Nat->List V->Hp->Prop}{i m:Nat}{ys:List V}{x y:V}{H5:Hp}{p:Addr}(hx:xs[i]? = some x)(hm:m=xs.length-i)(hl:ys.length=i)(e:H5 p=some (.lst ys))(h:Pv (i+1) (ys++[y]) (upd H5 p (.lst (ys++[y])))) :
  H5 p=some (.lst ys)/\∃m',m'<m/\CompW xs Pv (i+1) m' (ys++[y]) (upd H5 p (.lst (ys++[y]))):=by
 have hi:i<xs.length:=(gE.mp hx).1;exact⟨e,xs.length-(i+1),by omega,rfl,by omega,by simp [hl],h⟩
section
end
def jJ(X:Cx)(N:List Str)(scope:Scope)(cl:List (Str×Addr))(C:Addr)(fp:List Addr)(s2:Shared)(H2:Hp):Cx:=
 { X with N:=N,s₀:=s2,H₀:=H2,env:=compEnvC scope cl C X.env,outer:=X.stack,stack:=X.stack,ex:=fp,fn:=λ_=>false,pn:=[],xe:=λ_ _=>False }
def Keep(σ τ:L2.St):Prop:=∀(i:Nat) (v:V),σ[i]? = some (some v)->τ[i]? = some (some v)
theorem uT{x:Option V}{r:L2.St} :Keep (none::r) (x::r):=λi v h=>by
 cases i with
 | zero=>cases h
 | succ j=>exact h
theorem MR{x y:Option V}{r:L2.St} :Keep (none::none::r) (x::y::r):=λi v h=>by
 cases i with
 | zero=>cases h
 | succ j=>cases j with
  | zero=>cases h
  | succ k=>exact h
def CompGoF(σ0:L2.St)(J:It)(g:TG)(te:TE)(Q:VK)(p:Addr)(H':Hp):Prop:=
 ∃W:Nat->Nat->List V->Hp->Prop,(∃m,W 0 m [] H')/\∀i m ys H2,W i m ys H2->H2 p=some (.lst ys)/\ys.length<sizeLine/\
  ((J.stop i H2/\Q (.ref p) H2)∨(J.go i H2/\∀x H3,J.yld i H2 x H3->g x σ0 H3 fun σ4 H4=>Keep σ0 σ4/\te σ4 H4 λy H5=>H5 p=some (.lst ys)/\∃m',m'<m/\W (i+1) m' (ys++[y]) (upd H5 p (.lst (ys++[y])))))
def QQ(own:Nat)(idx:List Nat)(wi:TI)(g:TG)(te:TE):TE:=fun σ H Q=>wi σ H λJ H1=>∀p H',H1 p=none->Same H1 H'->H' p=some (.lst [])->
 CompGoF (List.replicate own none++idx.map λj=>(σ[j]?).getD none) J g te Q p H'
section
variable{X:Cx}
theorem xT{ac:List (Addr×Obj)}{σ:L2.St}{H1:Hp}{s2:Shared}{N:List Str}{scope:Scope}{cl:List (Str×Addr)}{C:Addr}{fp:List Addr}(I:Inv X ac σ H1 s2)(hk:scope.kind=.function)
  (hsub:∀x c,cl.lookup x=some c->X.env.cells.lookup x=some c) (hhas:∀x,((relabel scope X.env).names.lookup x=some .cell∨(relabel scope X.env).names.lookup x=some .free)->∃c,cl.lookup x=some c)
  (hC:s2.heap.objs.size<=C) (hf:∀b∈fp,FpOk X ac H1 b) (hlt:∀b∈fp,b<s2.heap.objs.size):(jJ X N scope cl C fp s2 H1).Ok where
 mod:=I.ok.mod
 kind:=hk
 glob:=I.ok.glob
 blt:=I.ok.blt
 above:=hC
 inj:=λx y c h1 h2=>I.ok.inj x y c (hsub x c h1) (hsub y c h2)
 has:=hhas
 cab:=λx c h _=>by cases h
 hd:=I.ok.hd
 frames:=I.ok.frames
 stk:=.inl rfl
 exf:=λb hb=>⟨nZ (mB (hlt b hb) hC),λx c h=>(hf b hb).2.2.2.2.1 x c (hsub x c h)⟩
 bs:=I.bs
 bsz:=nY I.ok.bsz I.sz
 noex:=λb o e hb=>by
  rcases(hf b hb).2.2.2.1 with z | z
  ·exact I.ok.noex b o e z
  ·exact absurd (mB (nX e) (nY I.ok.bsz z)) (nQ _)
 exfs:=λb hb z=>(nP.mp (I.stkSub b z)).elim (hf b hb).2.1 (hf b hb).2.2.1
 funs:=I.stack
 frf:=I.stkFree
theorem yF{own:Nat}{idx:List Nat}{N:List Str}{elt target iter:Expr}{scope:Scope}{cl:List (Str×Addr)}{pos:Pos}{wi:TI}{g:TG}{te:TE}(hc:X.calm=true)
  (hk:scope.kind=.function) (hclos:closureFor scope X.env=pure cl) (hcell:∀x∈scope.names,x.2≠.cell) (hnames:∀x∈scope.names,x.2=.local->scope.names.lookup x.1=some .local)
  (hsub:∀x c,cl.lookup x=some c->X.env.cells.lookup x=some c) (hhas:∀x,((relabel scope X.env).names.lookup x=some .cell∨(relabel scope X.env).names.lookup x=some .free)->∃c,cl.lookup x=some c)
  (hlen:N.length=own+idx.length)
  (hidx:∀(k j:Nat) (x:Str),idx[k]? = some j->N[own+k]? = some x->X.N[j]? = some x/\X.env.kindOf x=some .cell/\(relabel scope X.env).names.lookup x=some .cell/\X.env.scope.names.lookup x=some .cell)
  (hi:PI X target iter wi) (hg:∀C fp s2 H2,PG (jJ X N scope cl C fp s2 H2) target g) (he:∀C fp s2 H2,PE (jJ X N scope cl C fp s2 H2) elt te)
  (hs:∀x,foldedSetIterable iter X.env x=pure x:=by intro _;rfl):PE X (.ListComp elt [⟨target,iter,[],0⟩] scope pos) (QQ own idx wi g te):=by
 intro ac s σ H Q I h;rw[eval_ListComp];refine wpAny_comprehension_free (use:=none) rfl hs hclos hk hnames (thn (hi ac s σ H _ I h) λv s1 h1=>thn h1 λitv s2 h2=>?_);obtain⟨it,fp,tn,J,H1,e,I2,T,st2,f2,hR⟩:=h2;subst e;have hlt:∀b∈fp,b<s2.heap.objs.size:=λb hb=>by
  obtain⟨o,ho,_⟩:=T.obj 0 _ st2 b hb;exact nX ho
 refine wpAny_newObj_type (wpAny_newFunctionEnv hcell (by intro y hy;simp at hy) (λh₁ hns₁ hsb₁=>?_) hk);dsimp only at hns₁ hsb₁ ⊢;generalize hHH:s2.heap.push { cls:=.type "list",dict:=none,data:=.seq ([]:List Value).toArray } = HH at hns₁ hsb₁ ⊢;have hCe:HH.objs.size=s2.heap.objs.size+1:=by rw[<-hHH,nN]
 have hDC:s2.heap.objs.size≠HH.objs.size:=by rw[hCe];exact nZ (mW _)
 have hCle:s2.heap.objs.size<=HH.objs.size:=by rw[hCe];exact Nat.le_succ _
 have old:∀b o,s2.heap.get? b=some o->h₁.get? b=some o:=λb o e=>hsb₁.extBut b o (by rw[hCe];exact nZ (Nat.lt_succ_of_lt (nX e))) (gK _ (hHH▸gK _ e));have hD:h₁.get? s2.heap.objs.size=some { cls:=.type "list",dict:=none,data:=.seq ([]:List Value).toArray } :=hsb₁.extBut _ _ hDC (gK _ (hHH▸gZ _ rfl));have nD:H1 s2.heap.objs.size=none:=I2.hok.fresh uV ;obtain⟨W,⟨m0,w0⟩,turn⟩:=hR s2.heap.objs.size _ nD (kF (.lst []) nD) jF;generalize hσ:(List.replicate own none++idx.map λj=>(σ[j]?).getD none:L2.St)=σ0 at turn;have lσ:σ0.length=N.length:=by rw[<-hσ,hV,gO,mY,hlen]
 have ok:=xT (N:=N) (cl:=cl) (C:=HH.objs.size) I2 hk hsub hhas hCle f2 hlt;have oldC:∀c v,s2.heap.IsCell c v->h₁.IsCell c v:=λc v ⟨o,ho,hd⟩=>⟨o,old c o ho,hd⟩;have I4:Inv (jJ X N scope cl HH.objs.size fp s2 H1) [] σ0 (upd H1 s2.heap.objs.size (.lst [])) { s2 with heap:=h₁,toks:=s2.toks+([]:List (Str×Value)).length } :=by
  refine⟨ok,rfl,I2.bare,Un.laid old uV nD,⟨_,hns₁,λi x v e1 e2 _=>?_⟩,(λx c z=>?_), ?_,(λx c z=>?_),(λp hp=>nomatch hp),I2.hok.laid old uV ?_,lσ⟩
  ·
   rw[<-hσ]at e2;by_cases hi':i<own
   ·rw[gF (by rw[gO];exact hi'),List.getElem?_replicate]at e2;split at e2<;>cases e2
   ·obtain⟨k,rfl⟩:∃k,i=own+k:=⟨i-own,by omega⟩;rw[gC (by rw[gO];omega),gO,Nat.add_sub_cancel_left,mH]at e2;cases ej:idx[k]? with
    | none=>rw[ej]at e2;cases e2
    | some j=>
     rw[ej,Option.map_some]at e2;have e2:=Option.some.inj e2;obtain⟨n1,n2,n3,n4⟩:=hidx k j x ej e1;have e3:σ[j]? = some (some v):=by
      cases q:σ[j]? with
      | none=>rw[q]at e2;cases e2
      | some y=>rw[q,Option.getD_some]at e2;rw[e2]
     obtain⟨m,hm,hl⟩:=I2.loc;obtain⟨u,ru,lk⟩:=hl j x v n1 e3 (.inr (.inl n4));refine⟨u,ru, ?_⟩;rcases lk with⟨kl,_⟩ | ⟨_,c,hcl,hic⟩
     ·rw[n2]at kl;cases kl
     ·obtain⟨c',hc'⟩:=hhas x (.inl n3);have:c'=c:=Option.some.inj ((hsub x c' hc').symm.trans hcl);subst this;exact .inr ⟨.inl n3,c',hc',oldC _ _ hic⟩
  ·obtain⟨v,hv⟩:=I2.cell x c (hsub x c z);exact⟨v,oldC _ _ hv⟩
  ·show(upd H1 s2.heap.objs.size (.lst [])) HH.objs.size=none;rw[jH (Ne.symm hDC)];exact I2.hok.fresh hCle
  ·obtain⟨v,hv⟩:=I2.cell x c (hsub x c z);show(upd H1 s2.heap.objs.size (.lst [])) c=none;rw[jH (nZ hv.lt)];exact I2.freeC x c (hsub x c z)
  ·exact⟨by show 0<=sizeLine;decide,[],0,.nil,hD⟩
 have stat:∀{H':Hp},(∀b∈fp,H' b=none)->∀b∈fp,FpOk (jJ X N scope cl HH.objs.size fp s2 H1) [] H' b:=λhn b hb=>
  ⟨hn b hb,(ok.exf b hb).1,ok.exfs b hb,.inl hb,(ok.exf b hb).2,λp hp=>nomatch hp⟩
 have st4:tn 0 h₁:=T.keep _ _ _ st2 λb _ o e=>old b o e;have fr4:∀b∈fp,(upd H1 s2.heap.objs.size (.lst [])) b=none:=λb hb=>by
  rw[jH (nZ (hlt b hb))];exact(f2 b hb).1
 have loop:codeAny (model X.prog X.w) X.A (.compLoop (.ListComp elt [⟨target,iter,[],0⟩] scope pos) 0 (.ref it) (.ref s2.heap.objs.size) (compEnvC scope cl HH.objs.size X.env))
   (compPost (model X.prog X.w) X.A X.xe none (EP X ac σ Q) (.ref s2.heap.objs.size) HH.objs.size) { s2 with heap:=h₁,toks:=s2.toks+([]:List (Str×Value)).length } :=by
  refine yR (λn s'=>∃i ys H',Inv (jJ X N scope cl HH.objs.size fp s2 H1) [] σ0 H' s'/\tn i s'.heap/\(∀b∈fp,H' b=none)/\W i n ys H') ?_ m0 ⟨0,[],_,I4,st4,fr4,w0⟩;rintro n s3 ⟨i,ys,H3,I3,st3,fr3,w3⟩;obtain⟨hp3,hz3,hw⟩:=turn i n ys H3 w3;rcases hw with⟨stop,qn⟩ | ⟨go,step⟩
  ·refine thn (T.done (jJ X N scope cl HH.objs.size fp s2 H1) rfl rfl rfl hc i [] s3 _ H3 _ I3 (stat fr3) st3 stop) λr s4 ⟨hr,I5⟩=>?_;subst hr;obtain⟨m,hm,_⟩:=id I5.loc;refine⟨m,hm,λh' sb=>⟨.ref s2.heap.objs.size,H3, ?_,rfl,qn⟩⟩;have k:∀b o,b≠HH.objs.size->s4.heap.get? b=some o->h'.get? b=some o:=λb o hb e=>sb.extBut b o hb e;have nb:∀b o,s2.heap.get? b=some o->b≠HH.objs.size:=λb o e=>by rw[hCe];exact nZ (Nat.lt_succ_of_lt (nX e))
   have U:=I5.base;have fC:H3 HH.objs.size=none:=I5.free;refine I2.call' (ch:=fp) (s':={ s4 with heap:=h' }) I5.os ⟨λb o e n hb hx=>k b o (nb b o e) (U.keep b o e n hb hx),λb o e n hb hx=>?_,U.free,λb o e hx=>?_,U.tups,U.frzs,U.tbls⟩ (λb u e=>?_) I5.bare (λb hb=>⟨(f2 b hb).2.2.2.1,(f2 b hb).2.1,(f2 b hb).2.2.2.2.1,(f2 b hb).2.2.2.2.2⟩)
   ·obtain⟨sl,q⟩:=U.slot b o e n hb hx;exact⟨sl,k b _ (nb b o e) q⟩
   ·obtain⟨o',q⟩:=U.there b o e hx;exact⟨o',k b _ (nb b o e) q⟩
   ·refine(I5.hok b u e).stay (λc v hcc q=>k c v ?_ q) (λ_ q=>q) λ_ _ q=>q;rcases hcc with z | z
    ·rw[z];intro y;rw[y,fC]at e;cases e
    ·intro y;rw[y,fC]at z;cases z
  ·refine tU (T.item (jJ X N scope cl HH.objs.size fp s2 H1) rfl rfl rfl hc i [] s3 _ H3 (λ_ _=>False) I3 (stat fr3) st3 go) (λr s4 ⟨u,hr,h4⟩=>?_) λ_ _ z=>z.elim;subst hr;refine tU h4 (λ_ s5 ⟨x,H5,I5,r5,y5,st5,fr5⟩=>?_) λ_ _ z=>z.elim;have I5':=I5.pinned (stat fr5) (T.obj _ _ st5);refine tU (hg _ _ _ _ _ s5 _ H5 x u _ I5' r5 (step x H5 y5)) (λ_ s6 ⟨σ6,H6,I6,kp6,q6⟩=>?_) λ_ _ z=>z.elim;refine tU (he _ _ _ _ _ s6 σ6 H6 _ I6 q6) (λy s7 ⟨yv,H7,I7,r7,q7⟩=>?_) λ_ _ z=>z.elim;obtain⟨e7,m',hm',w7⟩:=q7;refine tU (vC (X:=jJ X N scope cl HH.objs.size fp s2 H1) _ s7 σ6 H7 (.ref s2.heap.objs.size) [yv] (.ref s2.heap.objs.size) [y] (λ_ H8=>H8=upd H7 s2.heap.objs.size (.lst (ys++[yv]))) I7 rfl (.cons r7 .nil) ⟨_,ys,yv,rfl,rfl,e7,hz3,rfl⟩) (λ_ s8 ⟨_,H8,I8,_,q8⟩=>?_) λ_ _ z=>z.elim;subst q8;refine⟨m',hm',i+1,_,_,(I8.unpinned).weak (by rw[lσ,I8.len];rfl) kp6,T.keep _ _ _ st5 λb hb o e=>(I8.pin (b,o) (gN _ (gN _ (jS hb e)))).1,λb hb=>?_,w7⟩;obtain⟨o,e,d⟩:=T.obj _ _ st5 b hb;exact(I8.pin (b,o) (gN _ (gN _ (jS hb e)))).2.1
 exact codeAny_compStart_list loop (T.self _ 0 _ _ _ st4 loop)
def hasB(names:List (Str×NameKind))(cl:List (Str×Addr)):Bool:=names.all λy=>match y.2 with
 | .cell=>(cl.lookup y.1).isSome
 | .free=>(cl.lookup y.1).isSome
 | _=>true
theorem vO{names:List (Str×NameKind)}{cl:List (Str×Addr)}(h:hasB names cl=true):∀x,(names.lookup x=some .cell∨names.lookup x=some .free)->∃c,cl.lookup x=some c:=by
 intro x hx;have all:=List.all_eq_true.mp h;rcases hx with hx | hx
 ·have:=all _ (PySem.mem_of_lookup hx);exact Option.isSome_iff_exists.mp this
 ·have:=all _ (PySem.mem_of_lookup hx);exact Option.isSome_iff_exists.mp this
theorem xN{X:Cx}{scope:Scope}{own j0:Nat}{N:List Str}{x0:Str}(h0:N[own]? = some x0)(h:X.N[j0]? = some x0/\X.env.kindOf x0=some .cell/\(relabel scope X.env).names.lookup x0=some .cell/\X.env.scope.names.lookup x0=some .cell) :
  ∀(k j:Nat) (x:Str),[j0][k]? = some j->N[own+k]? = some x->X.N[j]? = some x/\X.env.kindOf x=some .cell/\(relabel scope X.env).names.lookup x=some .cell/\X.env.scope.names.lookup x=some .cell:=by
 intro k j x e1 e2
 match k,e1 with
 | 0,e1=>
  cases e1;rw[Nat.add_zero,h0]at e2;cases e2;exact h
 | k+1,e1=>cases e1
end
theorem NH{J:It}{xs:List V}{σ0:L2.St}{g:TG}{te:TE}{Q:VK}{p:Addr}{H':Hp}(Pv:Nat->List V->Hp->Prop)(hz:xs.length<sizeLine)(h0:Pv 0 [] H')
  (hgo:∀i ys H2,Pv i ys H2->i<xs.length->J.go i H2/\∀x H3,J.yld i H2 x H3->H3=H2/\xs[i]? = some x) (hst:∀ys H2,Pv xs.length ys H2->J.stop xs.length H2) (hl:∀i ys H2,Pv i ys H2->H2 p=some (.lst ys))
  (hs:∀i m ys x H2,xs[i]? = some x->m=xs.length-i->ys.length=i->Pv i ys H2->g x σ0 H2 fun σ4 H4=>Keep σ0 σ4/\te σ4 H4 λy H5=>H5 p=some (.lst ys)/\∃m',m'<m/\CompW xs Pv (i+1) m' (ys++[y]) (upd H5 p (.lst (ys++[y]))))
  (hd:∀ys H2,ys.length=xs.length->Pv xs.length ys H2->Q (.ref p) H2):CompGoF σ0 J g te Q p H':=by
 unfold CompGoF;refine⟨CompW xs Pv,⟨_,rfl,tM _,rfl,h0⟩, ?_⟩;rintro i m ys H2 ⟨hm,hi,hy,hp⟩;refine⟨hl i ys H2 hp,by omega, ?_⟩;by_cases hlt:i<xs.length
 ·obtain⟨g1,g2⟩:=hgo i ys H2 hp hlt;refine .inr ⟨g1,λx H3 y=>?_⟩;obtain⟨e3,z⟩:=g2 x H3 y;subst e3;exact hs i m ys x _ z hm hy hp
 ·have ei:i=xs.length:=by omega
  subst ei;exact .inl ⟨hst ys H2 hp,hd ys H2 hy hp⟩
theorem xU{K:tX}{a:Addr}{xs:List V}{σ0:L2.St}{g:TG}{te:TE}{Q:VK}{p:Addr}{H':Hp}(Pv:Nat->List V->Hp->Prop)(hz:xs.length<sizeLine)(h0:Pv 0 [] H')
  (hl:∀i ys H2,Pv i ys H2->SqL K H2 a xs/\H2 p=some (.lst ys))
  (hs:∀i m ys x H2,xs[i]? = some x->m=xs.length-i->ys.length=i->Pv i ys H2->g x σ0 H2 fun σ4 H4=>Keep σ0 σ4/\te σ4 H4 λy H5=>H5 p=some (.lst ys)/\∃m',m'<m/\CompW xs Pv (i+1) m' (ys++[y]) (upd H5 p (.lst (ys++[y]))))
  (hd:∀ys H2,ys.length=xs.length->Pv xs.length ys H2->Q (.ref p) H2):CompGoF σ0 (Itl K a) g te Q p H':=
 NH Pv hz h0 (λi ys H2 h hi=>⟨⟨xs,xs[i],(hl i ys H2 h).1,by simp [hi]⟩,λx H3 y=>⟨y.1,y.2 xs (hl i ys H2 h).1⟩⟩) (λys H2 h=>⟨xs,(hl _ ys H2 h).1,tL _⟩) (λi ys H2 h=>(hl i ys H2 h).2) hs hd
section
theorem zE(ns:List Int):∀j,j<=ns.length->preSum (λi=>ns.getD i 0) j=(ns.take j).sum
 | 0,_=>by simp [preSum]
 | j+1,h=>by
  have hj:j<ns.length:=h;show preSum (λi=>ns.getD i 0) j+ns.getD j 0=_;rw[zE ns j (by omega),List.take_succ_eq_append_getElem hj,List.sum_append,gA,gG hj];simp
theorem CT{M:Int} :∀(ns:List Int),(∀n∈ns,0<=n/\n<=M)->0<=ns.sum/\ns.sum<=ns.length*M
 | [],_=>by simp
 | n::r,h=>by
  have h1:=h n (by simp);have h2:=CT r λm hm=>h m (by simp [hm]);rw[nU,mT,Int.natCast_succ,Int.add_mul];omega
def YL(K:tX):List V->Hp->VK->Prop:=λxs H Q=>∃(a:Addr) (ns:List Int),xs=[.ref a]/\SqT K H a (ns.map V.int)/\(∀n∈ns,0<=n/\n<=2^40)/\ns.length<=1000/\Q (.int ns.sum) H
theorem EB(hc:X.calm=true):CallR X (.builtin "sum") (YL X.K):=by
 intro ac s σ H xs us Q I r h;obtain⟨a,ns,rfl,hq,hb,hn,q⟩:=h;obtain⟨u,rfl,ru⟩:=xK r;cases ru;obtain⟨its,rv,p,hz⟩:=I.tuple hq;have i1:IntsAre its ns:=yQ rv;have hl:=zJ i1;have ha:a<s.heap.objs.size:=by
  obtain⟨o,e,_⟩:=p;exact nX e
 refine PySem.call_sum_walk (wpAny_pyIter_tuple (t:=a) (items:=its.toArray) p ?_);refine⟨s.heap.objs.size,_,_,_,_,_,λi=>ns.getD i 0,rfl,Walks.tuple (show X.A.in1.handled=none from I.ok.hd hc) s.heap.objs.size a (nZ ha) its.toArray,⟨⟨_,gZ _ rfl,rfl,rfl⟩,p.keeps λb o e=>gK _ e⟩, ?_, ?_, ?_, ?_⟩
 ·intro b hb;show b<(s.heap.push _).objs.size;rw[nN];simp only[nP,mR,or_false]at hb;rcases hb with rfl | rfl
  ·exact mW _
  ·exact Nat.lt_succ_of_lt ha
 ·intro i v hv;have hv':its[i]? = some v:=by simpa using hv
  obtain⟨hi,e⟩:=gE.mp hv';obtain⟨n,t,e1,e2⟩:=wU i1 hi;exact⟨t,by dsimp only;rw[<-e,e2,gA,e1];rfl⟩
 ·intro j hj;have hj':j<ns.length:=by rw[<-hl];simpa using hj
  have b1:=hb ns[j] (mU hj');have b2:=CT (ns.take (j+1)) λn hn'=>hb n (gY hn');have e1:ns.getD j 0=ns[j]:=by rw[gA,gG hj'];rfl
  have l1:(ns.take (j+1)).length<=1000:=by rw[mQ];omega
  dsimp only;rw[zE ns (j+1) hj',e1];unfold InLong;refine⟨⟨by omega,by omega⟩,⟨by omega, ?_⟩⟩;have:((ns.take (j+1)).length:Int)*2^40<=1000*2^40:=Int.mul_le_mul_of_nonneg_right (by omega) (by decide);omega
 ·intro h' tk t' k;have e:preSum (λi=>ns.getD i 0) its.toArray.size=ns.sum:=by
   rw[mI,hl,zE ns _ uV,mS]
  rw[e];refine⟨.int ns.sum,H,I.kept (t':=tk) (λb o q=>?_),⟨t',rfl⟩,q⟩;exact k b o (by simp;exact nZ (nX q)) (gK _ q)
end
end Lw
namespace LwE
open PySem PySem.W PySem.Calls PySem.Spec PyProof.Rows
structure XCls(K:Frag)(C fI:Addr)(bl:List Value)(newId:String):Prop where
 obj:∃nm q N bs hd sn sub ab col dd a0 a1 a2 a3 a5,K.lookup C=some (excClassObj nm q C N bs bl hd sn sub ab col dd a0 a1 a2 a3 a5 newId)
 isB:bl.contains (.type "ValueError")=true
 isBase:bl.contains (.type "BaseException")=true
 noAt:bl.contains (.type "AttributeError")=false
 noNm:bl.contains (.type "NameError")=false
 init:findIn K (.ref C) "__init__" = some (some (.ref fI))
 fn:typeIn K (.ref fI)=some (.type "function")
 kp:keepIn K (.ref C)=true
 ga:findIn K (.ref C) "__getattribute__" = some (some (.builtin "BaseException.__getattribute__"))
 gn:findIn K (.ref C) "__getattr__" = some none
 cl:findIn K (.ref C) "__class__" = some (some (.builtin "object.__class__"))
 obj':mroIn K C (.type "object")=some true
section
variable{prog:Program}{w:World}{A:Around}{E:Value->Shared->Prop}{R:Result->Shared->Prop}{hp:Heap}{g:Array GenState}{d:Drawn}{tk:Nat}{os:OsState}
variable{nm q:Str}{C N:Addr}{bs bl bb:List Value}{hd:Bool}{sn:List Str}{sub:List Value}{ab:Bool}{col:Option Bool}{dd:Option Addr}{a0 a1 a2 a3 a5:Option Value}{B newId initId:String}
theorem new_ok(F:ExcBaseFacts B newId initId bb)(zB:bl.contains (.type B)=true){us:List Value}{Q:Unit->Shared->Prop}(o:hp.get? C=some (excClassObj nm q C N bs bl hd sn sub ab col dd a0 a1 a2 a3 a5 newId))
  (k:Q () ⟨hp,g,d,tk,os⟩):wpAny (model prog w) A (checkBuiltinCall newId ⟨.ref C::us,[]⟩) Q E ⟨hp,g,d,tk,os⟩:=by
 have z:(Value.ref C::bl).contains (.type B)=true:=by rw[List.contains_cons,zB,Bool.or_true]
 have nostar:=F.noStar;simp only[checkBuiltinCall,F.newKind,F.newSplit,F.newRow]
 repeat (first | refine wpAny_loadPart_at o ?_ | (refine wpAny_isSubtype_exc o ?_;rw[z]) | refine wpAny_staticBase_exc o ?_ | refine wpAny_madeBy_exc o ?_ | simp only[bne_self_eq_false,Bool.false_eq_true,if_false] | wp_step)
 exact k
theorem WT(F:ExcBaseFacts B newId initId bb)(zB:bl.contains (.type B)=true)(zA:bl.contains (.type "AttributeError")=false)(zN:bl.contains (.type "NameError")=false)
  {us:List Value} (o:hp.get? C=some (excClassObj nm q C N bs bl hd sn sub ab col dd a0 a1 a2 a3 a5 newId))
  (k:R (.ok (.ret (.ref (hp.objs.size+1)))) ⟨(hp.push { cls:=.type "tuple",data:=.seq us.toArray }).push
   { cls:=.ref C,data:=.fields #[.ref hp.objs.size,.none,.none,.none,.bool false,.none] },g,d,tk,os⟩) (fits:us.length<=sizeLine) :
  codeAny (model prog w) A (.builtin newId ⟨.ref C::us,[]⟩) R ⟨hp,g,d,tk,os⟩:=by
 have ends:=F.ends;have y1:(Value.ref C::bl).contains (.type B)=true:=by rw[List.contains_cons,zB,Bool.or_true]
 have y2:(Value.ref C::bl).contains (.type "AttributeError")=false:=by rw[List.contains_cons,zA];rfl
 have y3:(Value.ref C::bl).contains (.type "NameError")=false:=by rw[List.contains_cons,zN];rfl
 refine codeAny_builtinAt F.entry ?_;unfold Builtin.«BaseException.__new__»;refine PySem.wpAt_bind ?_;show PySem.wpAt _ _ _ (stack >>= _) _ _ _;refine PySem.wpAt_bind (PySem.wpAt_stack λp below=>PySem.wpAt_of_wpAny ?_)
 wp_walk
 refine PySem.wpAt_of_wpAny ?_;rw[F.owner]
 repeat (first | with_reducible refine wpAny_madeHere_exc F.canon o ?_ | with_reducible refine wpAny_loadPart_at o ?_ | (with_reducible refine wpAny_isSubtype_exc o ?_;first | rw[y1] | rw[y2] | rw[y3]) | wp_step)
 show R _ _;rw[nN];exact k
theorem SW(F:ExcBaseFacts B newId initId bb){K:Frag}{fI:Addr}(KI:K.In hp)(zB:bl.contains (.type B)=true)(zA:bl.contains (.type "AttributeError")=false)(zN:bl.contains (.type "NameError")=false)
  (zi:findIn K (.ref C) "__init__" = some (some (.ref fI))) (zf:typeIn K (.ref fI)=some (.type "function"))
  {us:List Value} {Q:Fin->Shared->Prop} (o:hp.get? C=some (excClassObj nm q C N bs bl hd sn sub ab col dd a0 a1 a2 a3 a5 newId))
  (k:∀h' e,hp.objs.size<=e->Heap.MadeExcOf hp h' e (.ref C) us->
   wpAny (model prog w) A (call (.ref fI) (.ref e::us)) (λr s'=>r=.none/\Q (.done (.ret (.ref e))) s') E ⟨h',g,d,tk,os⟩) (fits:us.length<=sizeLine) :
  wpAny (model prog w) A (Builtin.«type.__call__» ⟨.ref C::us,[]⟩) Q E ⟨hp,g,d,tk,os⟩:=by
 repeat (first | with_reducible refine wpAny_loadPart_at o ?_ | with_reducible refine wpAny_madeBy_exc o ?_ | wp_step)
 refine codeAny_call_builtin_code (Code.quiet_builtin _ F.quiet) (new_ok F zB o ?_);refine WT F zB zA zN o ?_ fits;show wpAny _ _ _ _ _ _;have kp:∀b ob,hp.get? b=some ob->((hp.push { cls:=.type "tuple",data:=.seq us.toArray }).push { cls:=.ref C,data:=.fields #[.ref hp.objs.size,.none,.none,.none,.bool false,.none] }).get? b=some ob:=
  λb ob e=>gK _ (gK _ e)
 have o1:=kp _ _ o;have oe:((hp.push { cls:=.type "tuple",data:=.seq us.toArray }).push { cls:=.ref C,data:=.fields #[.ref hp.objs.size,.none,.none,.none,.bool false,.none] }).get? (hp.objs.size+1)
   = some { cls:=.ref C,data:=.fields #[.ref hp.objs.size,.none,.none,.none,.bool false,.none] } :=by heap_get
 have y:(Value.ref C::bl).contains (.ref C)=true:=by simp
 have K1:=KI.keeps kp;unfold isInstance
 repeat (first | with_reducible refine wpAny_loadPart_at oe ?_ | (with_reducible refine wpAny_isSubtype_exc o1 ?_;rw[y]) | wp_step)
 show wpAny _ _ (typeLookup (.ref C) _) _ _ _;refine(looks_findIn K1 zi).at ?_;refine wpAny_holding (tS ((bind_fn K1 (.ref (hp.objs.size+1)) zf).at ?_));refine tS (tU (k _ (hp.objs.size+1) (Nat.le_succ _) ⟨kp,Heap.get?_none_of_le (Nat.le_succ _),hp.objs.size,oe,Heap.get?_none_of_le uV, ?_⟩) (λr s' hr=>?_) λ_ _ x=>x)
 ·exact gK _ (Heap.get?_push_at rfl rfl)
 ·obtain⟨rfl,hQ⟩:=hr
  wp_walk
  exact hQ
theorem UD(F:ExcBaseFacts B newId initId bb){K:Frag}{fI:Addr}(KI:K.In hp)(zB:bl.contains (.type B)=true)(zA:bl.contains (.type "AttributeError")=false)(zN:bl.contains (.type "NameError")=false)
  (zi:findIn K (.ref C) "__init__" = some (some (.ref fI))) (zf:typeIn K (.ref fI)=some (.type "function"))
  {us:List Value} {Q:Value->Shared->Prop} (o:hp.get? C=some (excClassObj nm q C N bs bl hd sn sub ab col dd a0 a1 a2 a3 a5 newId))
  (k:∀h' e,hp.objs.size<=e->Heap.MadeExcOf hp h' e (.ref C) us->
   wpAny (model prog w) (A.under (.builtin "type.__call__" ⟨.ref C::us,[]⟩)) (call (.ref fI) (.ref e::us)) (λr s'=>r=.none/\Q (.ref e) s') E ⟨h',g,d,tk,os⟩) (fits:us.length<=sizeLine) :
  wpAny (model prog w) A (call (.ref C) us) Q E ⟨hp,g,d,tk,os⟩:=by
 have u1:=tc_lookup;have u2:=tc_bind (.ref C);have ty:(⟨hp,g,d,tk,os⟩:Shared).TypeIs (.ref C) "type":=⟨_,o,rfl⟩;refine wpAny_call (codeAny_of_tree ?_);show wpAny _ _ (callAny (.ref C) _) _ _ _
 repeat (any_goals (first | assumption | with_reducible refine wpAny_loadPart_at o ?_ | wp_step))
 refine⟨rfl, ?_⟩;refine codeAny_call_builtin_at (Code.quiet_builtin _ (by decide +kernel)) entry_typeCall (wpAny_check_type_call_sub o (SW F KI zB zA zN zi zf o (λh' e hl hm=>?_) fits));exact k h' e hl hm
end
end LwE
namespace LwE
open PySem PySem.W PySem.Spec PyProof.Rows L2
def yK(e C:Addr):HO:=.ext λh=>∃t,h.get? e=some { cls:=.ref C,data:=.fields #[.ref t,.none,.none,.none,.bool false,.none] }
theorem MY{P:Program}{w:World}{H:Hp}{h:Heap}{e C t:Addr}(q:h.get? e=some { cls:=.ref C,data:=.fields #[.ref t,.none,.none,.none,.bool false,.none] }):ObjOk P w H h e (yK e C):=
 ⟨⟨t,q⟩,⟨_,q⟩,λ_ _ ⟨t,z⟩ k=>⟨t,k _ z⟩⟩
theorem QK{H:Hp}{a:Addr}{o:HO}(e:H a=some o):upd H a o=H:=by
 funext b
 unfold upd;by_cases h:b=a
 ·rw[tW h,h,e]
 ·rw[tV h]
def tInit(K:Frag)(t:TA):TE:=fun σ H Q=>t σ H λvs H1=>∃e C fI bl nid v,vs=[.ref e,v]/\H1 e=some (yK e C)/\XCls K C fI bl nid/\Q .non H1
theorem QJ{M:Model}{A:Around}{E:Value->Shared->Prop}{hp:Heap}{g:Array GenState}{d:Drawn}{tk:Nat}{os:OsState}{K:Frag}{C fI e:Addr}{bl:List Value}{nid:String}{oe:Obj}{us:List Value}{Q:Unit->Shared->Prop}
  (KI:K.In hp) (c:XCls K C fI bl nid) (he:hp.get? e=some oe) (hc:oe.cls=.ref C) (q:Q () ⟨hp,g,d,tk,os⟩):wpAny M A (checkBuiltinCall "ValueError.__init__" ⟨.ref e::us,[]⟩) Q E ⟨hp,g,d,tk,os⟩:=by
 obtain⟨nm,qn,N,bs,hd,sn,sub,ab,col,dd,a0,a1,a2,a3,a5,lk⟩:=c.obj;have o:=KI _ _ lk;have y:(Value.ref C::bl).contains (.type "ValueError")=true:=by rw[List.contains_cons,c.isB,Bool.or_true]
 have nostar:=PySem.F.excBase_ValueError.noStar;simp only[checkBuiltinCall,PySem.F.excBase_ValueError.initKind,PySem.F.excBase_ValueError.initSplit,PySem.F.excBase_ValueError.initRow]
 repeat (first | (with_reducible refine wpAny_loadPart_at he ?_;rw[hc]) | with_reducible refine wpAny_loadPart_at o ?_ | (with_reducible refine wpAny_isSubtype_exc o ?_;rw[y]) | wp_step)
 refine wpAny_onRaise ?_;rw[show ∀(a b:String) (n:Nat),Bind.check ⟨.positional,"*","ValueError",.self,[⟨"args",.varPos,false⟩]⟩ a b n (List.map (λx=>x.fst) ({ pos:=.ref e::us } :Args).kw)=pure ()from λ_ _ _=>check_star_args _ _ _ _ _ _];exact tT q
theorem VE:typeOf (.type "ValueError")=pure (.type "type"):=kitMeta_of (by decide +kernel)
section
variable{X:Cx}{e1 e2:Expr}{t:TA}{np apos pos:Pos}{pl:Sem Bool}
theorem RC{ac:List (Addr×Obj)}{σ:L2.St}{H:Hp}{s:Shared}{Q:VK}{e C fI:Addr}{bl:List Value}{nid:String}{u:Value}(I:Inv X ac σ H s)(he:H e=some (yK e C))(hs:XCls X.K C fI bl nid)(q:Q .non H) :
  wpAny (model X.prog X.w) X.A (call (.builtin "ValueError.__init__") [.ref e,u]) (EP X ac σ Q) X.xe s:=by
 obtain⟨⟨tt,hx⟩,_⟩:=(show ObjOk X.prog X.w H s.heap e (yK e C)from I.hok e _ he);have I':=I;obtain⟨hp,g,d,tk,os⟩:=s;refine wpAny_call (codeAny_call_builtin PySem.F.excBase_ValueError.init.plain PySem.F.excBase_ValueError.initEntry (QJ I.kIn hs hx rfl ?_))
 wp_walk
 refine⟨.non,H, ?_,rfl,q⟩;have w:=I'.write (x:=e) (e:=e) (o:=yK e C) (t':=tk) (h':=(hp.push { cls:=.type "tuple",data:=.seq #[u] }).update e (Obj.mapFields (·.setIfInBounds 0 (.ref hp.objs.size)))) (by rw[he];trivial) (.inl rfl) (λb ob hb z=>by
  rw[Heap.get?_update_other _ _ (Ne.symm hb)];exact gK _ z) ⟨_,Heap.get?_update_self _ (gK _ hx) rfl⟩ (MY (t:=hp.objs.size) (Heap.get?_update_self _ (gK _ hx) rfl))
 rw[QK he]at w;exact w
theorem pe_baseInit(ha:PA X [e1,e2] t)(hg:Gl X "ValueError":=by rfl)(hm:X.mg "ValueError" = none)
  (hs:starEach [e1,e2] X.env=(false,eval e1 X.env)::starEach [e2] X.env:=by rfl) (hpl:(backTo pos (starEach [e2] X.env)).any (·.1)=false:=by rfl)
  (ht:eval (.Call (.Attribute (.Name "ValueError" np) "__init__" apos) [e1,e2] [] pos) X.env=(do
   let ov<-eval (.Name "ValueError" np) X.env
   standAt apos.atName
   let (f,first)<-holding [ov] (getMethod ov "__init__" pl)
   callWith pos f first (backTo pos (starEach [e1,e2] X.env)) (backToKw pos (keywordEach [] X.env))):=by rfl) :
  PE X (.Call (.Attribute (.Name "ValueError" np) "__init__" apos) [e1,e2] [] pos) (tInit X.K t):=by
 intro ac s σ H Q I h;refine methodCall_KW (pl:=pl) (yA I hg hm PyProof.Rows.Boot.«ValueError» ?_ (by decide) (by decide)) ht;obtain⟨m,fr⟩:=I.fr;refine method_type (K:=X.K) (v:=.builtin "ValueError.__init__") fr I.ok.mod.kin VE (by decide +kernel) (by rfl) (by decide +kernel) ?_;have J:=I.tok (s.toks+1);have hA:=ha pos ac _ σ H _ J h;rw[hs]at hA ⊢;refine Calls.callWith_builtin (by show(false||(backTo pos (starEach [e2] X.env)).any (·.1))=false;rw[hpl]<;>rfl) (Calls.evalArgs_plain ?_);refine thn hA λus s2 ⟨vs,H2,I2,r2,e,C,fI,bl,nid,v,ev,he,hc,q⟩=>?_;subst ev;obtain⟨u1,u2,rfl,r3,r4⟩:=Vals.two r2;cases r3;exact RC I2 he hc q
end
def spInit(K:Frag):Sp:=λvs H Q _=>∃e C fI bl nid v,vs=[.ref e,v]/\H e=some (yK e C)/\XCls K C fI bl nid/\Q .non H
def CXF(P:Program)(w:World):CXT:=λouter H s E v s'=>∃(e C:Addr) (a0:Value) (H':Hp) (B:Heap),v=.ref e/\s.heap.objs.size<=e/\s'.os=s.os/\AllBare s'.gens/\Un (frs outer) [] H H' s.heap s'.heap/\HOk P w H' B/\H' e=none/\
 Heap.FlyingW B outer e (.ref C) a0 s'.heap/\(∀b o,s.heap.get? b=some o->b∉frs outer->(∃o',B.get? b=some o')/\(H b=none->B.get? b=some o))/\E (.ref C) none H'
section
variable{X:Cx}{ac:List (Addr×Obj)}{σ:L2.St}{H H':Hp}{s:Shared}{B h':Heap}
theorem QM(hx:X.ex=[])(I:Inv X ac σ H s)(st:B.StaysIn h')(up:s.heap.UpToSlots h')(cover:∀b o,X.s₀.heap.get? b=some o->b∉X.fs->(∃o',B.get? b=some o')/\(X.H₀ b=none->B.get? b=some o))
  (fr:∀b o,X.s₀.heap.get? b=some o->H b=none->H' b=none) (tu:∀b xs,H b=some (.tup xs)->H' b=some (.tup xs)) (fz:∀b o u,H b=some (.frz o u)->H' b=some (.frz o u)) (tb:∀b ps,H b=some (.tbl ps)->H' b=some (.tbl ps)) :
  Un X.fs [] X.H₀ H' X.s₀.heap h':=by
 have nex:∀b:Addr,b∉X.ex:=λb z=>by rw[hx]at z;exact absurd z (by simp)
 have nf:∀b o,b∈X.fs->s.heap.get? b=some o->∃sl,h'.get? b=some { o with slots:=sl } :=λb o hb e=>by
  obtain⟨_,o',e',hd⟩:=I.funs.mem hb;rw[e]at e';cases e';exact up b o e hd
 refine⟨λb o e n hb _=>st b o ((cover b o e hb).2 n),λb o e n hb _=>?_,λb o e n _=>fr b o e (I.base.free b o e n (nex b)),λb o e _=>?_,
  λb xs e=>tu b xs (I.base.tups b xs e),λb o u e=>fz b o u (I.base.frzs b o u e),λb ps e=>?_⟩
 ·obtain⟨sl,e1⟩:=I.base.slot b o e n hb (nex b);obtain⟨sl',e2⟩:=nf b _ hb e1;exact⟨sl',e2⟩
 ·by_cases hb:b∈X.fs
  ·obtain⟨o',e1⟩:=I.base.there b o e (nex b);obtain⟨sl',e2⟩:=nf b _ hb e1;exact⟨_,e2⟩
  ·obtain⟨⟨o',e1⟩,_⟩:=cover b o e hb;exact⟨o',st b o' e1⟩
 ·obtain⟨m,e1⟩:=I.base.tbls b ps e;exact⟨m,tb b _ e1⟩
variable{P:Program}{w:World}{K:Frag}{mg:Str->Option Value}{base:Heap}{N:List Str}{qual:Str}{scope:Scope}{f:Addr}{cd:Value}{A:Around}{outer:List Env}{s0:Shared}{H0:Hp}{E:XK}
theorem PB{e C:Addr}(I:Inv (xO (CXF P w) P w K mg base N qual scope f cd A outer s0 H0 E) ac σ (upd H e (yK e C)) s)(hn:H e=none)(he:s0.heap.objs.size<=e)(q:E (.ref C) none H) :
  (xO (CXF P w) P w K mg base N qual scope f cd A outer s0 H0 E).xe (.ref e) s:=by
 obtain⟨⟨t,hx⟩,_⟩:=(show ObjOk P w (upd H e (yK e C)) s.heap e (yK e C)from I.hok e _ jF);have hfr:∀b∈frs (envOfC qual scope s0.heap.objs.size f cd::outer),upd H e (yK e C) b=none:=I.stkFree;have nfr:∀b o,upd H e (yK e C) b=some o->b∉frs (envOfC qual scope s0.heap.objs.size f cd::outer):=λb o z hb=>by rw[hfr b hb]at z;cases z
 have hB:∀b o,s.heap.get? b=some o->b≠e->b∉frs (envOfC qual scope s0.heap.objs.size f cd::outer)->(hideAll s.heap (e::frs (envOfC qual scope s0.heap.objs.size f cd::outer))).get? b=some o:=λb o z h1 h2=>
  hideAll_get _ z λhm=>(nP.mp hm).elim h1 h2
 have cover:∀b o,s0.heap.get? b=some o->b∉frs outer->(∃o',(hideAll s.heap (e::frs (envOfC qual scope s0.heap.objs.size f cd::outer))).get? b=some o')/\(H0 b=none->(hideAll s.heap (e::frs (envOfC qual scope s0.heap.objs.size f cd::outer))).get? b=some o):=λb o z hb=>by
  have lt:=nX z;have b1:b≠e:=nZ (mB lt he);have b2:b∉frs (envOfC qual scope s0.heap.objs.size f cd::outer):=λhm=>(nP.mp hm).elim (λy=>nQ s0.heap.objs.size (by have y':b=s0.heap.objs.size:=y;rw[y']at lt;exact lt)) hb;obtain⟨o',e1⟩:=I.base.there b o z (by show b∉[];simp);exact⟨⟨o',hB b o' e1 b1 b2⟩,λn=>hB b o (I.base.keep b o z n hb (by show b∉[];simp)) b1 b2⟩
 have ne_e:∀b (u:HO),upd H e (yK e C) b=some u->(∀φ,u≠.ext φ)->H b=some u:=λb u z hu=>by
  by_cases hb:b=e
  ·subst hb;rw[jF]at z;cases z;exact absurd rfl (hu _)
  ·rw[jH hb]at z;exact z
 have hok:HOk P w H (hideAll s.heap (e::frs (envOfC qual scope s0.heap.objs.size f cd::outer))):=λa o z=>by
  have ha:a≠e:=jX z hn;have z':upd H e (yK e C) a=some o:=by rw[jH ha];exact z
  refine(I.hok a o z').stay (λb u hb e1=>?_) (λb e1=>ne_e b _ e1 (fun φ y=>by cases y)) λb xs e1=>ne_e b _ e1 (fun φ y=>by cases y);rcases hb with rfl | hb
  ·exact hB _ u e1 ha (nfr _ _ z')
  ·exact hB _ u e1 (jX (ne_e b _ hb fun φ y=>by cases y) hn) (nfr _ _ hb)
 show wpAny (model P w) (A.deeper (envOfC qual scope s0.heap.objs.size f cd)) (leaving (envOfC qual scope s0.heap.objs.size f cd) (.ref e)) _ _ s;refine wpAny_leaving_firstW (base:=hideAll s.heap (e::frs (envOfC qual scope s0.heap.objs.size f cd::outer))) (L:=s0.heap.objs.size) (a0:=.ref t) I.ok.frames
  (funFrames_hide I.stack λenv hm b hb=>gT _ (List.mem_filterMap.mpr ⟨env,hm,hb⟩)) rfl hx (λb o z=>of_hideAll _ z) (hideAll_none _ (mF ..)) rfl rfl rfl λh' ⟨k1,k2,k3,k4⟩=>?_
 refine⟨e,C,.ref t,H,_,rfl,he,I.os,I.bare, ?_,hok,hn,⟨k1,hideAll_none _ (mF ..),k2.2.2,k3⟩,cover,q⟩;refine QM (X:=xO (CXF P w) P w K mg base N qual scope f cd A outer s0 H0 E) rfl I k1 k4 cover (λb o z n=>?_) (λb xs z=>ne_e b _ z (fun φ y=>by cases y)) (λb o u z=>ne_e b _ z (fun φ y=>by cases y)) (λb ps z=>ne_e b _ z (fun φ y=>by cases y));have lt:=nX z;rw[jH (nZ (mB lt he))]at n;exact n
theorem pass_fly:Passes (CXF P w) (xO (CXF P w) P w K mg base N qual scope f cd A outer s0 H0 E) E:=by
 rintro ac σ H s v s' I ⟨e,C,a0,H',B,rfl,he,ho,bare,un,hok,hn,fly,cover,q⟩;have I':Inv (xO (CXF P w) P w K mg base N qual scope f cd A outer s0 H0 E) ac σ H' s':=I.call' ho un (hok.kept fly.1) bare λ_ z=>nomatch z;have cov:∀b o,s0.heap.get? b=some o->b∉frs outer->(∃o',B.get? b=some o')/\(H0 b=none->B.get? b=some o):=λb o z hb=>by
  have lt:=nX z;have nb:b∉frs (envOfC qual scope s0.heap.objs.size f cd::outer):=λhm=>(nP.mp hm).elim (λy=>nQ s0.heap.objs.size (by have y':b=s0.heap.objs.size:=y;rw[y']at lt;exact lt)) hb;obtain⟨o',e1⟩:=I.base.there b o z (by show b∉[];simp);refine⟨(cover b o' e1 nb).1,λn=>?_⟩;exact(cover b o (I.base.keep b o z n hb (by show b∉[];simp)) nb).2 (I.base.free b o z n (by show b∉[];simp))
 show wpAny (model P w) (A.deeper (envOfC qual scope s0.heap.objs.size f cd)) (leaving (envOfC qual scope s0.heap.objs.size f cd) (.ref e)) _ _ s';refine wpAny_leaves_onW (L:=s0.heap.objs.size) I.ok.frames rfl fly λh' k1 k4=>?_;refine⟨e,C,a0,H',B,rfl,nY I.sz he,I'.os,I'.bare, ?_,hok,hn,k1,cov,q⟩;exact QM (X:=xO (CXF P w) P w K mg base N qual scope f cd A outer s0 H0 E) rfl I' k1.1 k4 cov (λ_ _ _ n=>n) (λ_ _ z=>z) (λ_ _ _ z=>z) (λ_ _ z=>z)
end
section
variable{ac:List (Addr×Obj)}{σ:L2.St}{H H':Hp}{s:Shared}
variable{P:Program}{w:World}{K:Frag}{mg:Str->Option Value}{base:Heap}{N:List Str}{qual:Str}{scope:Scope}{f:Addr}{cd:Value}{A:Around}{outer:List Env}{s0:Shared}{H0:Hp}{E:XK}
variable{C fI:Addr}{fdI:FuncData}{bl:List Value}{k:Nat}{x:Str}{np cpos pos:Pos}{e1:Expr}{te:TE}
theorem VP{X:Cx}{Q:VK}{us:List Value}{v:V}(c:XCls X.K C fI bl "ValueError.__new__")(G:FnOk X.prog X.w X.K X.mg X.base CX0 k fI fdI ["self","text"] (spInit X.K))(hr:Room (k+1) X.A)(b:Binds X.K fdI ["self","text"] [])
  (I:Inv X ac σ H s) (r:Vals [v] us) (h:∀e,H e=none->X.s₀.heap.objs.size<=e->Q (.ref e) (upd H e (yK e C))):wpAny (model X.prog X.w) X.A (call (.ref C) us) (EP X ac σ Q) X.xe s:=by
 obtain⟨nm,qn,N',bs,hd,sn,sub,ab,col,dd,a0,a1,a2,a3,a5,lk⟩:=c.obj;have o:=I.kIn _ _ lk;have lim:us.length<=sizeLine:=by rw[<-r.length];show 1<=sizeLine;decide
 have I0:=I;have sz:=I.sz;obtain⟨hp,g,d,tk,os⟩:=s;refine UD PySem.F.excBase_ValueError I.kIn c.isB c.noAt c.noNm c.init c.fn o (λh' e hle hm=>?_) lim;obtain⟨t,ht,_,_⟩:=hm.there;have hn:H e=none:=I0.hok.fresh hle;have I2:Inv X ac σ (upd H e (yK e C)) ⟨h',g,d,tk,os⟩:=I0.laid (t':=tk) hm.keeps hle (MY ht);have r2:Vals [V.ref e,v] (.ref e::us):=.cons rfl r;refine wpAny_call (codeAny_mono (G.run _ X.stack _ (upd H e (yK e C)) ⟨.ref e::us,[]⟩ (.ref e::us) [.ref e,v] (λy H2=>y=.non/\H2=upd H e (yK e C)) E0 (hr.make C us []) (I2.env0.make C us []) ?_ r2
  ⟨e,C,fI,bl,_,v,rfl,jF,c,rfl,rfl⟩) λr s' hq=>?_)
 ·have z:=b ⟨h',g,d,tk,os⟩ (.ref e::us) I2.kIn (by rw[List.append_nil,<-r2.length];rfl);rw[List.append_nil]at z;exact z
 ·cases r with
  | error y=>exact False.elim hq
  | ok fl=>
   cases fl with
   | ret u=>
    obtain⟨y,H3,I3,ry,ey,e3⟩:=I2.after hq;subst ey e3;exact⟨ry,⟨.ref e,_,I3,rfl,h e hn (nY sz hle)⟩⟩
   | next=>exact False.elim hq
   | brk=>exact False.elim hq
   | cont=>exact False.elim hq
def YY(C:Addr)(E:XK)(te:TE):TS:=λ_ σ H=>qX te tNil σ H λvs H1=>∃v,vs=[v]/\E (.ref C) none H1
theorem ps_raise(c:XCls K C fI bl "ValueError.__new__")(G:FnOk P w K mg base CX0 k fI fdI ["self","text"] (spInit K))(b:Binds K fdI ["self","text"] [])
  (hr:Room (k+1) (xO (CXF P w) P w K mg base N qual scope f cd A outer s0 H0 E).A) (hg:Gl (xO (CXF P w) P w K mg base N qual scope f cd A outer s0 H0 E) x) (hm:mg x=some (.ref C))
  (he:PE (xO (CXF P w) P w K mg base N qual scope f cd A outer s0 H0 E) e1 te) (hdb:(x==("__debug__" :Str))=false:=by decide)
  (hs:starEach [e1] (xO (CXF P w) P w K mg base N qual scope f cd A outer s0 H0 E).env=(false,eval e1 (xO (CXF P w) P w K mg base N qual scope f cd A outer s0 H0 E).env)::starEach [] (xO (CXF P w) P w K mg base N qual scope f cd A outer s0 H0 E).env:=by rfl) :
  PS (xO (CXF P w) P w K mg base N qual scope f cd A outer s0 H0 E) (.Raise (some (.Call (.Name x np) [e1] [] cpos)) none pos) (YY C E te):=by
 intro ac s σ H D I h;obtain⟨nm,qn,N',bs,hd,sn,sub,ab,col,dd,a0,a1,a2,a3,a5,lk⟩:=id c.obj;rw[arm_exec_Raise];refine tS (wpAny_standAt (wpAny_raiseStmt_made_sub (C:=C) (nm:=nm) (q:=qn) (N:=N') (bs:=bs) (bm:=bl) (hdct:=hd) (sn:=sn) (sub:=sub) (ab:=ab) (col:=col) (dd:=dd) (k0:=a0) (k1:=a1) (k2:=a2) (k3:=a3) (k5:=a5) (newId:="ValueError.__new__") c.isBase (I.ok.hd rfl) ?_));have go:wpAny (model P w) (xO (CXF P w) P w K mg base N qual scope f cd A outer s0 H0 E).A (eval (.Call (.Name x np) [e1] [] cpos) (xO (CXF P w) P w K mg base N qual scope f cd A outer s0 H0 E).env)
   (EP (xO (CXF P w) P w K mg base N qual scope f cd A outer s0 H0 E) ac σ λv H2=>∃e H1,v=.ref e/\H1 e=none/\s0.heap.objs.size<=e/\H2=upd H1 e (yK e C)/\E (.ref C) none H1) (xO (CXF P w) P w K mg base N qual scope f cd A outer s0 H0 E).xe s:=by
  refine wpAny_Call_Name_kw (wT I hg hm ?_ hdb);refine PySem.W.callWith_K (h₀:=base) I.ok.mod.kin c.kp (thn ((jA he jC hs) cpos ac s σ H _ I h) λus s1 ⟨vs,H1,I1,r,v,ev,q⟩=>⟨I1.kIn, ?_⟩) hs rfl;subst ev;exact VP (X:=xO (CXF P w) P w K mg base N qual scope f cd A outer s0 H0 E) c G hr b I1 r λe hn hle=>⟨e,H1,rfl,hn,hle,rfl,q⟩
 refine tS (tU go (λv s1 h1=>tS (wpAny_standAt (tT ?_))) λ_ _ z=>z);obtain⟨v',H2,I2,rv,e,H1,rfl,hn,hle,rfl,q⟩:=h1;cases rv;obtain⟨⟨t,hx⟩,_⟩:=(show ObjOk P w (upd H1 e (yK e C)) s1.heap e (yK e C)from I2.hok e _ jF);exact⟨e,t,rfl,I2.kIn _ _ lk,hx,PB I2 hn hle q⟩
end
def excH(e C:Addr):HO:=.ext λh=>∃o,h.get? e=some o/\o.cls=.ref C
theorem XO{P:Program}{w:World}{H:Hp}{h:Heap}{e C:Addr}{o:Obj}(q:h.get? e=some o)(c:o.cls=.ref C):ObjOk P w H h e (excH e C):=
 ⟨⟨o,q,c⟩,⟨o,q⟩,λ_ _ ⟨o,z,c⟩ k=>⟨o,k _ z,c⟩⟩
abbrev hdl(X:Cx)(e:Addr):Cx:={ X with A:=X.A.mark (some (.ref e)),calm:=false,xe:=λ_ _=>False }
section
variable{X:Cx}{ac:List (Addr×Obj)}{σ:L2.St}{H H' H1:Hp}{s:Shared}
theorem TQ{e:Addr}(I:Inv X ac σ H s):Inv (hdl X e) ac σ H s:=
 ⟨⟨I.ok.mod,I.ok.kind,I.ok.glob,I.ok.blt,I.ok.above,I.ok.inj,I.ok.has,I.ok.cab,λz=>Bool.noConfusion z,I.ok.frames,I.ok.stk,I.ok.exf,I.ok.bs,I.ok.bsz,I.ok.noex,I.ok.exfs,I.ok.funs,I.ok.frf⟩,
  I.os,I.bare,I.base,I.loc,I.cell,I.free,I.freeC,I.pin,I.hok,I.len⟩
theorem AU{e:Addr}(ok:X.Ok)(I:Inv (hdl X e) ac σ H s):Inv X ac σ H s:=⟨ok,I.os,I.bare,I.base,I.loc,I.cell,I.free,I.freeC,I.pin,I.hok,I.len⟩
def XP(X:Cx)(ac:List (Addr×Obj))(σ:L2.St)(E:XK)(v:Value)(s':Shared):Prop:=∃H1 s1,Inv X ac σ H1 s1/\CXF X.prog X.w X.stack H1 s1 E v s'
theorem un_up{fs:List Addr}{h0 h1 h2 B:Heap}(un:Un fs [] H1 H' h0 h1)(nf:∀b o,b∈fs->h1.get? b=some o->∀vs,o.data≠.fields vs)(st:B.StaysIn h2)(up:h1.UpToSlots h2)
  (cover:∀b o,h0.get? b=some o->b∉fs->(∃o',B.get? b=some o')/\(H1 b=none->B.get? b=some o)):Un fs [] H1 H' h0 h2:=by
 refine⟨λb o e n hb _=>st b o ((cover b o e hb).2 n),λb o e n hb hx=>?_,un.free,λb o e hx=>?_,un.tups,un.frzs,un.tbls⟩
 ·obtain⟨sl,e1⟩:=un.slot b o e n hb hx;obtain⟨sl',e2⟩:=up b _ e1 (nf b _ hb e1);exact⟨sl',e2⟩
 ·by_cases hb:b∈fs
  ·obtain⟨o',e1⟩:=un.there b o e hx;obtain⟨sl',e2⟩:=up b _ e1 (nf b _ hb e1);exact⟨_,e2⟩
  ·obtain⟨⟨o',e1⟩,_⟩:=cover b o e hb;exact⟨o',st b o' e1⟩
theorem track{a:Addr}{o:HO}(hx:X.ex=[])(I:Inv X ac σ H s)(hn:H a=none)(hle:X.s₀.heap.objs.size<=a)(hL:a≠X.env.locals)(hc:∀x c,X.env.cells.lookup x=some c->c≠a)(hp:∀p∈X.pn++ac,p.1≠a)
  (new:∀H,ObjOk X.prog X.w H s.heap a o):Inv X ac σ (upd H a o) s:=by
 have nb:∀b q,X.s₀.heap.get? b=some q->b≠a:=λb q z=>nZ (mB (nX z) hle);refine⟨I.ok,I.os,I.bare,⟨I.base.keep,I.base.slot,λb q e n hb=>?_,I.base.there,λb xs e=>?_,λb q u e=>?_,λb ps e=>?_⟩,I.loc,I.cell, ?_,λx c e=>?_,λp z=>?_,λb u e=>?_,I.len⟩
 ·rw[jH (nb b q e)];exact I.base.free b q e n hb
 ·have z:=I.base.tups b xs e;rw[jH (jX z hn)];exact z
 ·have z:=I.base.frzs b q u e;rw[jH (jX z hn)];exact z
 ·obtain⟨m,z⟩:=I.base.tbls b ps e;exact⟨m,by rw[jH (jX z hn)];exact z⟩
 ·rw[jH (Ne.symm hL)];exact I.free
 ·rw[jH (hc x c e)];exact I.freeC x c e
 ·obtain⟨z1,z2,z3,z4,z5⟩:=I.pin p z;exact⟨z1,by rw[jH (hp p z)];exact z2,z3,z4,z5⟩
 ·by_cases hb:b=a
  ·subst hb;rw[jF]at e;cases e;exact new _
  ·rw[jH hb]at e;refine(I.hok b u e).stay (λ_ _ _ z=>z) (λc z=>?_) λc xs z=>?_
   ·rw[jH (jX z hn)];exact z
   ·rw[jH (jX z hn)];exact z
theorem zP{M:Model}{A:Around}{E:Value->Shared->Prop}{j:Nat}{n:Str}{pos:Pos}{Q:Unit->Shared->Prop}(I:Inv X ac σ H s)(hN:X.N.Nodup)(hj:X.N[j]? = some n)(hk:X.env.kindOf n=some .local)
  (h:∀s',Inv X ac (σ.set j none) H s'->Q () s'):wpAny M A (do bindName X.env n .none;unbindBehindTheSuite X.env n pos) Q E s:=by
 obtain⟨m,hn,hl⟩:=id I.loc;have cne:=I.cne;have hcls:(X.env.scope.kind==.class||(X.env.scope.kind==.module&&X.env.locals != X.env.globals))=false:=by rw[I.ok.kind];rfl
 have hjσ:j<σ.length:=by rw[I.len];exact(gE.mp hj).1
 refine wpAny_nameGoes_keeps hk hn hcls λh' v hn' hs=>?_;have ab:∀b q,X.s₀.heap.get? b=some q->b≠X.env.locals:=λb q e=>nZ (mB (nX e) I.ok.above);refine h _ ⟨I.ok,I.os,I.bare,⟨λb o e n hb hx=>(hs.2 b (ab b o e)).trans (I.base.keep b o e n hb hx),λb o e n hb hx=>?_,I.base.free,λb o e hx=>?_,I.base.tups,I.base.frzs,I.base.tbls⟩,⟨_,hn',λi y v' e1 e2 e3=>?_⟩,λy c e=>?_,I.free,I.freeC,λp hp=>?_,λb ob e=>?_,by simpa using I.len⟩
 ·obtain⟨sl,e1⟩:=I.base.slot b o e n hb hx;exact⟨sl,(hs.2 b (ab b o e)).trans e1⟩
 ·obtain⟨o',e1⟩:=I.base.there b o e hx;exact⟨o',(hs.2 b (ab b o e)).trans e1⟩
 ·by_cases hi:i=j
  ·subst hi;rw[List.getElem?_set_self hjσ]at e2;cases e2
  ·rw[List.getElem?_set_ne (Ne.symm hi)]at e2;obtain⟨u',r',q⟩:=hl i y v' e1 e2 e3;refine⟨u',r', ?_⟩;rcases q with⟨k,e⟩ | ⟨k,c,e,z⟩
   ·refine .inl ⟨k, ?_⟩;by_cases hy:y=n
    ·subst hy;exact absurd (BP hN e1 hj) hi
    ·simp [hy,e]
   ·exact .inr ⟨k,c,e,z.sameBut hs (cne y c e)⟩
 ·obtain⟨w',z⟩:=I.cell y c e;exact⟨w',z.sameBut hs (cne y c e)⟩
 ·obtain⟨e,n,ne,nf,d⟩:=I.pin p hp;exact⟨(hs.2 p.1 ne).trans e,n,ne,nf,d⟩
 ·refine(I.hok b ob e).stay (λc w' hc q=>(hs.2 c ?_).trans q) (λ_ q=>q) λ_ _ q=>q;rintro rfl;rcases hc with rfl | hc
  ·rw[I.free]at e;cases e
  ·rw[I.free]at hc;cases hc
end
theorem PN{M:Model}{A:Around}{E:Value->Shared->Prop}{hp:Heap}{g:Array GenState}{d:Drawn}{tk:Nat}{os:OsState}{K:Frag}{C D fC fD e:Addr}{bl bd:List Value}{n1 n2:String}{oe:Obj}{Q:Bool->Shared->Prop}
  (KI:K.In hp) (c:XCls K C fC bl n1) (cd:XCls K D fD bd n2) (up:bl.contains (.ref D)=true) (he:hp.get? e=some oe) (hc:oe.cls=.ref C) (q:Q true ⟨hp,g,d,tk,os⟩):wpAny M A (excMatches (.ref e) (.ref D)) Q E ⟨hp,g,d,tk,os⟩:=by
 obtain⟨nm,qn,N,bs,hd,sn,sub,ab,col,dd,a0,a1,a2,a3,a5,lk⟩:=c.obj;obtain⟨nm',qn',N',bs',hd',sn',sub',ab',col',dd',b0,b1,b2,b3,b5,lk'⟩:=cd.obj;have o:=KI _ _ lk;have o':=KI _ _ lk';have y1:(Value.ref D::bd).contains (.type "BaseException")=true:=by rw[List.contains_cons,cd.isBase,Bool.or_true]
 have y2:(Value.ref C::bl).contains (.ref D)=true:=by rw[List.contains_cons,up,Bool.or_true]
 have f:=tc_notTuple;unfold excMatches
 repeat (first | (with_reducible refine wpAny_loadPart_at he ?_;rw[hc]) | with_reducible refine wpAny_loadPart_at o' ?_ | (with_reducible refine wpAny_isSubtype_exc o' ?_;rw[y1]) | (with_reducible refine wpAny_isSubtype_exc o ?_;rw[y2]) | wp_step)
 exact q
section
variable{X:Cx}{k:Nat}{f:Addr}{fd:FuncData}{ps:List Str}{sp:Sp}{x:Str}{p pos:Pos}{e:Expr}{es:List Expr}{t:TA}
theorem XQ(hxe:X.xe=λ_ _=>False)(F:FnOk X.prog X.w X.K X.mg X.base (CXF X.prog X.w) k f fd ps sp)(hr:Room k X.A)(hg:Gl X x)(hm:X.mg x=some (.ref f))(hk:PySem.W.keepIn X.K (.ref f)=true)(hb:Binds X.K fd ps [])
  (ha:PA X (e::es) t) {ac:List (Addr×Obj)} {s:Shared} {σ:L2.St} {H:Hp} {Q:VK} {E:XK} (I:Inv X ac σ H s) (h:LH sp [] E t σ H Q)
  (hdb:(x==("__debug__" :Str))=false:=by decide) (he:starEach (e::es) X.env=(false,eval e X.env)::starEach es X.env:=by rfl) (hpl:(backTo pos (starEach es X.env)).any (·.1)=false:=by rfl) :
  wpAny (model X.prog X.w) X.A (eval (.Call (.Name x p) (e::es) [] pos) X.env) (EP X ac σ Q) (XP X ac σ E) s:=by
 refine wpAny_Call_Name_kw (wT I hg hm ?_ hdb);refine PySem.W.callWith_K (h₀:=X.base) I.ok.mod.kin hk (tU (ha pos ac s σ H _ I h) (λus s1 ⟨vs,H1,I1,r,q⟩=>⟨I1.kIn, ?_⟩) λ_ _ z=>?_) he hpl
 ·have q:sp (vs++[]) H1 Q E:=q;rw[List.append_nil]at q;have hl:us.length=ps.length:=by rw[<-r.length];exact F.len _ _ _ _ q
  have z:=hb s1 us I1.kIn (by rw[List.append_nil];exact hl);rw[List.append_nil]at z;refine wpAny_call (codeAny_mono (F.run X.A X.stack s1 H1 ⟨us,[]⟩ us vs Q E hr I1.env0 z r q) λr s' hq=>?_);cases r with
  | error y=>exact⟨H1,s1,I1,hq⟩
  | ok fl=>
   cases fl with
   | ret u=>exact I1.after hq
   | next=>exact False.elim hq
   | brk=>exact False.elim hq
   | cont=>exact False.elim hq
 ·rw[hxe]at z;exact z.elim
def PBx(X:Cx)(b:List Stmt)(t:XK->TS):Prop:=
 ∀(ac:List (Addr×Obj)) (s:Shared) (σ:L2.St) (H:Hp) (D:Ends) (E:XK),Inv X ac σ H s->t E D σ H->wpAny (model X.prog X.w) X.A (execs b X.env) (SP X ac D) (XP X ac σ E) s
def ZC(K:Frag)(D j:Nat)(tb:XK->TS)(ts:TS):TS:=λEd σ H=>∃E:XK,tb E Ed σ H/\∀(c:Value) (H':Hp),E c none H'->∃(C fC:Addr) (bl:List Value) (n1:String),c=.ref C/\XCls K C fC bl n1/\bl.contains (.ref D)=true/\
 ∀e,H' e=none->ts { nx:=fun σ2 H2=>Ed.nx (σ2.set j none) H2,bk:=fun σ2 H2=>Ed.bk (σ2.set j none) H2,ct:=fun σ2 H2=>Ed.ct (σ2.set j none) H2,rt:=Ed.rt } (σ.set j (some (.ref e))) (upd H' e (excH e C))
theorem ps_catch{D fD:Addr}{bd:List Value}{n2:String}{body:List Stmt}{cl n:Str}{b0:Stmt}{suite:List Stmt}{np hpos tpos:Pos}{j:Nat}{tb:XK->TS}{ts:TS}(hex:X.ex=[])(hxe:X.xe=λ_ _=>False)
  (stk:X.stack=X.env::X.outer) (frm:X.env.frame=some X.env.locals) (cd:XCls X.K D fD bd n2) (hg:Gl X cl) (hm:X.mg cl=some (.ref D)) (hN:X.N.Nodup) (hj:X.N[j]? = some n) (hk:X.env.kindOf n=some .local)
  (hb:PBx X body tb) (hs:∀e,PSs (hdl X e) (b0::suite) ts) (hdb:(cl==("__debug__" :Str))=false:=by decide) :
  PS X (.Try body [.ExceptHandler (some (.Name cl np)) (some n) (b0::suite) hpos] [] [] tpos) (ZC X.K D j tb ts):=by
 intro ac s σ H Ed I ⟨E,hbody,hcont⟩;refine wpAny_Try_except (tU (hb ac s σ H Ed E I hbody) (λfl s1 h1=>?_) λv s1 h1=>?_)
 ·cases fl with
  | next=>exact wpAny_execs_nil h1
  | brk=>exact h1
  | cont=>exact h1
  | ret u=>exact h1
 ·obtain⟨H1,sc,I1,e,C,a0,H',B,rfl,hle,ho,bare,un,hok,hn,fly,cover,q⟩:=h1;obtain⟨C',fC,bl,n1,ec,c,up,hts⟩:=hcont _ _ q;cases ec;have nf:∀b o,b∈frs X.stack->s1.heap.get? b=some o->∀vs,o.data≠.fields vs:=λb o hb z=>by
   obtain⟨_,o',z',hd⟩:=fly.2.2.1.mem hb;rw[z]at z';cases z';exact hd
  have inv:∀h2:Heap,B.StaysIn h2->s1.heap.UpToSlots h2->Inv X ac σ H' { s1 with heap:=h2 } :=λh2 st u2=>
   I1.call' (s':={ s1 with heap:=h2 }) ho (un_up un nf st u2 cover) (hok.kept st) bare λ_ z=>nomatch z
  have hfr:X.A.frames=some (X.env::X.outer):=by rw[<-stk];exact I.ok.frames
  rw[stk]at fly;refine wpAny_looks_onW hfr frm fly λh4 held4 up4=>?_;refine wpAny_landsW held4 λh5 fly5 up5=>?_;have I5:=inv h5 fly5.1 (up4.trans up5);obtain⟨oe,hoe,hoc⟩:=fly5.there;refine wpAny_handleBy_cons (codeAny_handlers_test (wT (X:=hdl X e) (TQ I5) hg hm ?_ hdb)) (by intro z;cases z);have KI:=I5.kIn;obtain⟨hp1,g1,d1,tk1,os1⟩:=s1;refine PN KI c cd up hoe hoc ?_;refine codeAny_handlers_suite_as (lands_againW fly5 λh6 fly6 up6=>?_);have I6:=inv h6 fly6.1 ((up4.trans up5).trans up6);obtain⟨o6,h6e,h6c⟩:=fly6.there;have hsz:X.s₀.heap.objs.size<=e:=nY I1.sz hle;have hL:e≠X.env.locals:=λz=>nQ e (mB (by rw[z];exact I1.lt) hle);have I7:Inv X ac σ (upd H' e (excH e C)) { (⟨hp1,g1,d1,tk1,os1⟩:Shared)with heap:=h6 } :=track hex I6 hn hsz hL (λx c z=>by obtain⟨_,o,ho,_⟩:=I1.cell x c z;exact nZ (mB (nX ho) hle)) (λp z=>nZ (mB (nX (I1.pin p z).1) hle)) λH=>XO h6e h6c;refine yD I7 hN hj (Or.inl hk) (v:=.ref e) rfl (λs8 I8=>?_) (.inr hk);refine tU (hs e ac s8 _ _ _ (TQ I8) (hts e hn)) (λfl s9 h9=>?_) λ_ _ z=>z.elim;cases fl with
  | next=>
   obtain⟨σ2,H2,I9,q9⟩:=h9;exact zP (AU I.ok I9) hN hj hk λs' I'=>⟨_,H2,I',q9⟩
  | brk=>
   obtain⟨σ2,H2,I9,q9⟩:=h9;exact zP (AU I.ok I9) hN hj hk λs' I'=>⟨_,H2,I',q9⟩
  | cont=>
   obtain⟨σ2,H2,I9,q9⟩:=h9;exact zP (AU I.ok I9) hN hj hk λs' I'=>⟨_,H2,I',q9⟩
  | ret u=>
   obtain⟨v,σ2,H2,I9,rv,q9⟩:=h9;exact zP (AU I.ok I9) hN hj hk λs' I'=>⟨v,_,H2,I',rv,q9⟩
theorem pbx_set{t:TA}{pos' pos2:Pos}{i:Nat}{y:Str}(hxe:X.xe=λ_ _=>False)(hN:X.N.Nodup)(hi:X.N[i]? = some y)(hy:X.env.scope.names.lookup y=some .local)(F:FnOk X.prog X.w X.K X.mg X.base (CXF X.prog X.w) k f fd ps sp)(hr:Room k X.A)(hg:Gl X x)(hm:X.mg x=some (.ref f))
  (hk:PySem.W.keepIn X.K (.ref f)=true) (hb:Binds X.K fd ps []) (ha:PA X (e::es) t) (hdb:(x==("__debug__" :Str))=false:=by decide) (he:starEach (e::es) X.env=(false,eval e X.env)::starEach es X.env:=by rfl)
  (hpl:(backTo pos (starEach es X.env)).any (·.1)=false:=by rfl) (hs:swapsWith (.Call (.Name x p) (e::es) [] pos) (some (.Name y pos2)) pos'.line X.env=pure false:=by rfl) :
  PBx X [.Assign [.Name y pos2] (.Call (.Name x p) (e::es) [] pos) pos'] (λE=>yC (LH sp [] E t) (kR i)):=by
 intro ac s σ H D E I h;refine wpAny_execs_cons (wpAny_Assign_Name (tU (XQ hxe F hr hg hm hk hb ha I h hdb he hpl) (λv s1 ⟨z,H1,I1,r1,q1⟩=>?_) λ_ _ z=>z) hs);exact yD I1 hN hi (Or.inl hy) r1 (λs2 I2=>wpAny_execs_nil ⟨_,H1,I2,q1⟩) (.inr hy)
end
open PySem.Calls
section
variable{prog:Program}{w:World}{A:Around}{E:Value->Shared->Prop}{hp:Heap}{g:Array GenState}{d:Drawn}{tk:Nat}{os:OsState}{K:Frag}{C fC a:Addr}{bl:List Value}{n1:String}{o:Obj}
theorem ga_slot:Slot "BaseException" "__getattribute__" "BaseException.__getattribute__":=
 .of (owner:="BaseException") (n:="__getattribute__") (by rw[typeLookup_type,builtinLookup_eq_fast];kernel_rfl) (by decide +kernel) (by decide +kernel) (by decide +kernel)
  (by first | exact .inl (by decide +kernel) | exact .inr (by decide +kernel)) (by rw[isSubtype_type];kernel_rfl)
theorem XH:builtinKind "BaseException.__getattribute__" = some .slot:=by decide +kernel
theorem TU:splitId "BaseException.__getattribute__" = some ("BaseException","__getattribute__"):=by decide +kernel
theorem XW{R:Result->Shared->Prop}(KI:K.In hp)(c:XCls K C fC bl n1)(hx:hp.get? a=some o)(hc:o.cls=.ref C)(q:R (.ok (.ret (.ref C))) ⟨hp,g,d,tk,os⟩) :
  codeAny (model prog w) A (.call (.builtin "getset_descriptor.__get__") ⟨[.builtin "object.__class__",.ref a,.ref C],[]⟩) R ⟨hp,g,d,tk,os⟩:=by
 have t5:(⟨hp,g,d,tk,os⟩:Shared).TypeIs (.builtin "object.__class__") "getset_descriptor":=PySem.F.typeOf_object_class;have LS:Looks (model prog w) hp (isSubtype (.ref C) (.type (".".intercalate ("object.__class__".cutAt '.').dropLast))) true:=by
  rw[PySem.F.owner_object_class];exact looks_mroIn KI c.obj'
 refine codeAny_call_builtin PySem.F.slot_gs_get.plain PySem.F.entry_gs_get (PySem.F.slot_gs_get.check _ _ _ _ _ _ _ _ t5 (PySem.F.args_gs_get _ _ _) ?_)
 repeat (any_goals (first | assumption | (with_reducible refine wpAny_loadPart_at hx ?_;rw[hc]) | with_reducible refine LS.at ?_ | wp_step))
 refine⟨Code.quiet_builtin _ (by decide +kernel),codeAny_builtin PySem.F.entry_object_class ?_⟩
 repeat (any_goals (first | assumption | (with_reducible refine wpAny_loadPart_at hx ?_;rw[hc]) | wp_step))
theorem PY{u:Tok}{Q:Fin->Shared->Prop}(KI:K.In hp)(c:XCls K C fC bl n1)(hx:hp.get? a=some o)(hc:o.cls=.ref C)(q:Q (.done (.ret (.ref C))) ⟨hp,g,d,tk,os⟩) :
  wpAny (model prog w) A (Builtin.«object.__getattribute__» ⟨[.ref a,.str "__class__" u],[]⟩) Q E ⟨hp,g,d,tk,os⟩:=by
 have t5:(⟨hp,g,d,tk,os⟩:Shared).TypeIs (.builtin "object.__class__") "getset_descriptor":=PySem.F.typeOf_object_class;have t6:=PySem.F.typeOf_object_class;have t7:=PySem.F.slot_gs_get.lookup;have t8:=PySem.F.slot_gs_set.lookup;have L3:=looks_findIn (M:=model prog w) KI c.cl
 repeat (any_goals (first | assumption | (with_reducible refine wpAny_loadPart_at hx ?_;rw[hc]) | with_reducible refine L3.at ?_ | wp_step))
 refine XW KI c hx hc ?_
 repeat (any_goals (first | assumption | wp_step))
theorem TV{M:Model}{v:Value}{Q:Unit->Shared->Prop}(LI:Looks M hp (isInstance (.ref a) (.type "BaseException")) true)(q:Q () ⟨hp,g,d,tk,os⟩) :
  wpAny M A (checkBuiltinCall "BaseException.__getattribute__" ⟨[.ref a,v],[]⟩) Q E ⟨hp,g,d,tk,os⟩:=by
 have z3:=PySem.F.args_bexc_ga (.ref a) v;simp only[checkBuiltinCall,XH,TU];refine tS (LI.at ?_)
 repeat (first | assumption | wp_step)
theorem UT{u:Tok}{R:Result->Shared->Prop}(KI:K.In hp)(c:XCls K C fC bl n1)(hx:hp.get? a=some o)(hc:o.cls=.ref C)(q:R (.ok (.ret (.ref C))) ⟨hp,g,d,tk,os⟩) :
  codeAny (model prog w) A (.call (.builtin "BaseException.__getattribute__") ⟨[.ref a,.str "__class__" u],[]⟩) R ⟨hp,g,d,tk,os⟩:=by
 obtain⟨nm,qn,N,bs,hd,sn,sub,ab,col,dd,a0,a1,a2,a3,a5,lk'⟩:=c.obj;have oc:=KI _ _ lk';have y:(Value.ref C::bl).contains (.type "BaseException")=true:=by rw[List.contains_cons,c.isBase,Bool.or_true]
 have T0:Looks (model prog w) hp (typeOf (.ref a)) (.ref C):=by
  have z:Looks (model prog w) hp (typeOf (.ref a)) o.cls:=(Looks.ld hx).andThen .now;rw[hc]at z;exact z
 have LI:Looks (model prog w) hp (isInstance (.ref a) (.type "BaseException")) true:=by
  refine T0.andThen ?_;intro A' Q' E' s' k q';obtain⟨hp',g',d',tk',os'⟩:=s';refine wpAny_isSubtype_exc (k _ _ oc) ?_;rw[y];exact q'
 exact codeAny_call_builtin ga_slot.plain PySem.F.entry_bexc_ga (TV LI (PY KI c hx hc q))
theorem cls_by{u:Tok}{Q:Value->Shared->Prop}(KI:K.In hp)(c:XCls K C fC bl n1)(hx:hp.get? a=some o)(hc:o.cls=.ref C)(q:Q (.ref C) ⟨hp,g,d,tk,os⟩) :
  wpAny (model prog w) A (getAttrBy (.ref a) (.str "__class__" u) false) Q E ⟨hp,g,d,tk,os⟩:=by
 have t3:=ga_slot.bind (.ref a);have x0:(false&&onTheHeap (Value.builtin "BaseException.__getattribute__"))=false:=rfl;have x2:(Value.builtin "BaseException.__getattribute__"==Value.builtin "object.__getattribute__")=false:=by decide +kernel
 have x1:(onTheHeap (Value.ref C)&&Value.builtin "BaseException.__getattribute__"==Value.builtin "object.__getattribute__")=false:=by rw[x2];rfl
 have L1:=looks_findIn (M:=model prog w) KI c.ga;have L2:=looks_findIn (M:=model prog w) KI c.gn
 repeat (any_goals (first | assumption | (with_reducible refine wpAny_loadPart_at hx ?_;rw[hc]) | with_reducible refine L1.at ?_ | with_reducible refine L2.at ?_ | wp_step))
 refine UT KI c hx hc ?_
 repeat (any_goals (first | assumption | wp_step))
theorem PP{Q:Option Value->Shared->Prop}(KI:K.In hp)(c:XCls K C fC bl n1)(hx:hp.get? a=some o)(hc:o.cls=.ref C)(q:Q (some (.ref C)) ⟨hp,g,d,tk+1,os⟩) :
  wpAny (model prog w) A (getAttr? (.ref a) "__class__") Q E ⟨hp,g,d,tk,os⟩:=by
 unfold getAttr? getAttrBy?
 repeat (any_goals (first | assumption | with_reducible apply cls_by KI c hx hc | wp_step))
end
theorem IE{K:Frag}{C fC a:Addr}{bl:List Value}{n1:String}(c:XCls K C fC bl n1):KitX K (.ref a) (.ref C) (λh=>∃o,h.get? a=some o/\o.cls=.ref C) where
 ty:=λM h _ ⟨o,h1,h2⟩=>by
  have z:Looks M h (typeOf (.ref a)) o.cls:=(Looks.ld h1).andThen .now;rw[h2]at z;exact z
 it:=λM h KI _=>by
  obtain⟨nm,qn,N,bs,hd,sn,sub,ab,col,dd,a0,a1,a2,a3,a5,lk'⟩:=c.obj;intro A' Q' E' s' k q;unfold isType loadHead;exact tS (wpAny_loadPart (k _ _ (KI _ _ lk')) (tT q))
 ne:=λh tp dd its n sl KI htp=>by
  obtain⟨nm,qn,N,bs,hd,sn,sub,ab,col,dd,a0,a1,a2,a3,a5,lk'⟩:=c.obj;refine Bool.eq_false_iff.mpr λq=>?_;have z:C=tp:=Value.ref.inj (beq_iff_eq.mp q);subst z;have y:=congrArg Obj.data (Option.some.inj ((KI _ _ lk').symm.trans htp));cases y
 ca:=fun {prog w A E Q s} KI p k=>by
  obtain⟨o,h1,h2⟩:=p;obtain⟨hp,g,d,tk,os⟩:=s;exact PP KI c h1 h2 k
def VCls:V->Value->Prop
 | .ref D,v=>v=.ref D
 | .ty T,v=>v=.type T
 | _,_=>False
theorem VCls.rel{x:V}{v u:Value}(h:VCls x v)(r:RelV x u):u=v:=by
 cases x with
 | ref D=>exact(show u=.ref D from r).trans (show v=.ref D from h).symm
 | ty T=>exact(show u=.type T from r).trans (show v=.type T from h).symm
 | _=>exact h.elim
theorem GU:∀{xs:List V} {us vs:List Value},Paired VCls xs vs->Vals xs us->us=vs
 | _,_,_,.nil,.nil=>rfl
 | _,_,_,.cons c t,.cons r s=>by rw[c.rel r,GU t s]
section
variable{X:Cx}
def rIsX(K:Frag):List V->Hp->VK->Prop:=λxs H Q=>∃(a C fC:Addr) (bl:List Value) (n1:String) (y:V) (c:Value) (b:Bool),xs=[.ref a,y]/\H a=some (excH a C)/\XCls K C fC bl n1/\VCls y c/\kitOne K (.ref C) c=some b/\Q (.bl b) H
theorem call_isX:CallR X (.builtin "isinstance") (rIsX X.K):=by
 intro ac s σ H xs us Q I r h;obtain⟨a,C,fC,bl,n1,y,c,b,rfl,ha,cc,hy,hb,q⟩:=h;obtain⟨u1,u2,rfl,r1,r2⟩:=YH r;cases r1;rw[hy.rel r2];obtain⟨p,_⟩:=(show ObjOk X.prog X.w H s.heap a (excH a C)from I.hok a _ ha);exact kia_one (IE cc) I.kIn p hb (λz=>nomatch z) λtk=>⟨.bl b,H,I.tok tk,rfl,q⟩
def rIsXT(K:Frag):List V->Hp->VK->Prop:=λxs H Q=>∃(a C fC tp:Addr) (bl:List Value) (n1:String) (ys:List V) (cs:List Value) (b:Bool),xs=[.ref a,.ref tp]/\H a=some (excH a C)/\XCls K C fC bl n1/\H tp=some (.tup ys)/\Paired VCls ys cs/\kitAny K (.ref C) cs=some b/\Q (.bl b) H
theorem call_isXT:CallR X (.builtin "isinstance") (rIsXT X.K):=by
 intro ac s σ H xs us Q I r h;obtain⟨a,C,fC,tp,bl,n1,ys,cs,b,rfl,ha,cc,ht,hy,hb,q⟩:=h;obtain⟨u1,u2,rfl,r1,r2⟩:=YH r;cases r1;cases r2;obtain⟨p,_⟩:=(show ObjOk X.prog X.w H s.heap a (excH a C)from I.hok a _ ha);obtain⟨_,its,rv,it,_⟩:=(show ObjOk X.prog X.w H s.heap tp (.tup ys)from I.hok tp _ ht);have e:=GU hy rv;subst e;obtain⟨o,h1,h2,n,h3⟩:=it;obtain⟨oc,od,odt,osl⟩:=o;cases h2;cases h3;exact kia_tup (IE cc) I.kIn p h1 hb (λz=>nomatch z) λtk=>⟨.bl b,H,I.tok tk,rfl,q⟩
end
end LwE
namespace Lw
open PySem PySem.Spec PyProof.Rows L2
theorem FnOk.both{P:Program}{w:World}{K:tX}{mg:Str->Option Value}{base:Heap}{CX:CXT}{j k n:Nat}{f:Addr}{fd:FuncData}{ps:List Str}{sp0 sp1:Sp}(F0:FnOk P w K mg base CX0 j f fd ps sp0)(F1:FnOk P w K mg base CX k f fd ps sp1)(h0:j<=n)(h1:k<=n) :
  FnOk P w K mg base CX n f fd ps (λvs H Q E=>sp0 vs H Q E∨sp1 vs H Q E):=
 ⟨λvs H Q E h=>h.elim (F0.len vs H Q E) (F1.len vs H Q E),λA outer s H args us vs Q E hr he hb hv h=>by
  rcases h with h | h
  ·refine codeAny_mono (F0.run A outer s H args us vs Q E (hr.mono h0) he hb hv h) λr s' hq=>?_;cases r with
   | error e=>exact absurd hq (λz=>nomatch z)
   | ok fl=>cases fl with
    | ret u=>exact hq
    | next=>exact hq
    | brk=>exact hq
    | cont=>exact hq
  ·exact F1.run A outer s H args us vs Q E (hr.mono h1) he hb hv h⟩
section
variable{X:Cx}
def tF2(m:Str)(ta:TE):TE:=fun σ H Q=>ta σ H λx H1=>∃i:Int,x=.int i/\i.natAbs.log2<1920/\m.length<=sizeLine/\(m++(toString i:Str)).length<=sizeLine/\Q (.str (m++(toString i:Str))) H1
theorem pe_f2{a:Expr}{ta:TE}{m:Str}{k:Nat}{p1 p2 pos:Pos}(hm:m.length<=sizeLine)(ha:PE X a ta):PE X (.JoinedStr [.Constant (.str m) k p2,.FormattedValue a (-1) none p1] pos) (tF2 m ta):=by
 intro ac s σ H Q I h;have e1:Str.empty++m=m:=Str.empty_append m;refine JoinedStr_many (joinParts_cons (Calls.Constant_str ?_));show(Str.empty++m).length<=sizeLine/\wpAny _ _ (joinParts (Str.empty++m) _) _ _ { s with toks:=s.toks+1 };rw[e1];refine⟨hm,joinParts_cons (FormattedValue_plain (thn (ha ac _ σ H _ (I.tok _) h) λv s1 ⟨x,H1,I1,r1,i,ex,f1,_,hl,q1⟩=>?_))⟩;subst ex;obtain⟨t,rfl⟩:=r1;exact formatField_int_small f1 ⟨hl,joinParts_nilE (joinParts_nil ⟨.str _,H1,(I1.tok _).tok _,⟨_,rfl⟩,q1⟩ hl)⟩
def rInS(K:tX):R2:=λx y H Q=>∃(p:Addr) (z:Str) (ws:List Str),x=.str z/\y=.ref p/\SqL K H p (ws.map V.str)/\Q (.bl (ws.any λy=>y==z)) H
def isS(z:Str):Value->Bool
 | .str y _=>y==z
 | _=>false
theorem NM{z:Str} :∀{ws:List Str} {us:List Value},Vals (ws.map V.str) us->us.any (isS z)=ws.any λy=>y==z
 | [],_,.nil=>rfl
 | _::_,_,.cons r t=>by
  obtain⟨_,rfl⟩:=r;rw[List.any_cons,List.any_cons,NM t]
  rfl
theorem UF{A:Around}{s:Shared}{z:Str}{t:Tok} :∀{ws:List Str} {us:List Value},Vals (ws.map V.str) us->∀u∈us,SeqAt.EqAt A s u (.str z t) (isS z u)
 | [],_,.nil,u,hu'=>nomatch hu'
 | y::_,_,.cons r q,u,hu'=>by
  rcases nP.mp hu' with rfl | hu'
  ·obtain⟨t',rfl⟩:=r;exact SeqAt.EqAt.str_str y t' z t
  ·exact UF q u hu'
theorem ZW:OpR X (compareOp .In) (rInS X.K):=by
 intro ac s σ H x y v u Q I rx ry h;obtain⟨p,z,ws,rfl,rfl,hq,q⟩:=h;obtain⟨t,rfl⟩:=rx;cases ry;obtain⟨its,r,pl,_⟩:=I.list hq;refine SeqAt.in_listAt (isS z) pl.isList (λw hw=>UF r w (by simpa using hw)) ⟨.bl _,H,I,rfl, ?_⟩;rw[show its.toArray.any (isS z)=its.any (isS z) by simp,NM r];exact q
def rNeC:R2:=λx y H Q=>∃(l m:Addr) (xs:List Addr),x=.ref l/\y=.ref m/\H l=some (.lst (xs.map V.ref))/\H m=some (.lst (xs.map V.ref))/\Q (.bl false) H
theorem EZ:∀{xs:List Addr} {us:List Value},Vals (xs.map V.ref) us->us=xs.map Value.ref
 | [],_,.nil=>rfl
 | _::_,_,.cons r t=>by
  cases r;rw[EZ t]
  rfl
theorem ZV(hu:X.A.units+1<cLine):OpR X (compareOp .NotEq) rNeC:=by
 intro ac s σ H x y v u Q I rx ry h;obtain⟨l,m,xs,rfl,rfl,hl,hm,q⟩:=h;cases rx;cases ry;obtain⟨its,r1,p1,_⟩:=I.list (SqL.of (K:=X.K) hl);obtain⟨its2,r2,p2,_⟩:=I.list (SqL.of (K:=X.K) hm);have e1:=EZ r1;have e2:=EZ r2;subst e1 e2;refine SeqAt.RcNeAt.lists (e:=λ_=>true) p1.isList p2.isList rfl (by omega) (λj h1 h2=>?_) _ _ _ _ ⟨.bl false,H,I, ?_,q⟩
 ·have u1:∃a,(xs.map Value.ref).toArray[j]=Value.ref a:=by simp
  obtain⟨a,ea⟩:=u1;rw[ea];exact SeqAt.EqAt.same _
 ·have e:((List.range (xs.map Value.ref).toArray.size).all λ_=>true)=true:=List.all_eq_true.mpr λ_ _=>rfl;rw[e]
  rfl
end
end Lw
namespace LwT
open PySem PySem.Spec PyProof.Rows L2 Lw
section
variable{l b:Addr}{as bs:List Value}{xs ys:List Int}{n n2:Nat}{dd dd2:Option Addr}{sl sl2:Array (Option Value)}
end
section
variable{X:Cx}
end
end LwT
namespace L2
open PySem PySem.Spec PyProof.Rows
section
variable{κ:Type} [DecidableEq κ]
def xC(ag:List (κ×V))(k:κ):Option V:=(ag.find? λkv=>decide (kv.1=k)).map (·.2)
def yV(ag:List (κ×V))(k:κ)(v:V):List (κ×V):=
 if (ag.any λkv=>decide (kv.1=k))=true then ag.map (λkv=>if kv.1=k then(kv.1,v)else kv)else ag++[(k,v)]
def AA(ag:List (κ×V))(k:κ):List (κ×V):=ag.filter λkv=>decide (kv.1≠k)
theorem AY{p:κ×V}{r:List (κ×V)}{k:κ}(e:p.1=k):xC (p::r) k=some p.2:=by simp [xC,List.find?_cons,e]
theorem AZ{p:κ×V}{r:List (κ×V)}{k:κ}(e:¬p.1=k):xC (p::r) k=xC r k:=by simp [xC,List.find?_cons,e]
theorem GX(k:κ):∀ag:List (κ×V),(ag.any λkv=>decide (kv.1=k))=(xC ag k).isSome
 | []=>rfl
 | p::r=>by
  rw[List.any_cons];by_cases e:p.1=k
  ·simp only[AY e,nG e,Bool.true_or,Option.isSome_some]
  ·rw[AZ e,nA e,Bool.false_or];exact GX k r
theorem uR(ag:List (κ×V))(k:κ)(v:V):(yV ag k v).length<=ag.length+1:=by
 unfold yV;split
 ·rw[mY];omega
 ·rw[hV,mT,List.length_nil];omega
theorem RelO.isSome_eq{o:Option V}{u:Option Value}(r:RelO o u):o.isSome=u.isSome:=by
 cases o with
 | none=>cases u with
  | none=>rfl
  | some _=>exact(show False from r).elim
 | some _=>cases u with
  | none=>exact(show False from r).elim
  | some _=>rfl
theorem RelO.getD{o:Option V}{u:Option Value}{d:V}{d':Value}(r:RelO o u)(rd:RelV d d'):RelV (o.getD d) (u.getD d'):=by
 cases o with
 | none=>cases u with
  | none=>exact rd
  | some _=>exact(show False from r).elim
 | some _=>cases u with
  | none=>exact(show False from r).elim
  | some _=>exact r
theorem KV.val{ag:List (κ×V)}{vs:List (κ×Value)}(r:KV ag vs)(k:κ):RelO (xC ag k) (valueAt vs k):=by
 unfold KV at r;induction r with
 | nil=>exact True.intro
 | @cons p q ps qs h t ih=>
  obtain⟨h1,h2⟩:=h;by_cases e:p.1=k
  ·have e':q.1=k:=h1.symm.trans e;have b:valueAt (q::qs) k=some q.2:=by simp [valueAt,List.find?_cons,e']
   rw[AY e,b];exact h2
  ·have e':¬q.1=k:=λz=>e (h1.trans z);have b:valueAt (q::qs) k=valueAt qs k:=by simp [valueAt,List.find?_cons,e']
   rw[AZ e,b];exact ih
theorem KV.any{ag:List (κ×V)}{vs:List (κ×Value)}(r:KV ag vs)(k:κ):(ag.any λkv=>decide (kv.1=k))=vs.any λkv=>decide (kv.1=k):=by
 unfold KV at r;induction r with
 | nil=>rfl
 | cons h t ih=>rw[List.any_cons,List.any_cons,ih,h.1]
theorem KV.repl{ag:List (κ×V)}{vs:List (κ×Value)}(r:KV ag vs)(k:κ){y:V}{u:Value}(ry:RelV y u) :
  KV (ag.map λkv=>if kv.1=k then(kv.1,y)else kv) (vs.map λkv=>if kv.1=k then(kv.1,u)else kv):=by
 unfold KV at r ⊢;induction r with
 | nil=>exact .nil
 | @cons p q ps qs h t ih=>
  rw[nO,nO];refine .cons ?_ ih;obtain⟨h1,h2⟩:=h;by_cases e:p.1=k
  ·rw[tW e,tW (h1.symm.trans e)];exact⟨h1,ry⟩
  ·rw[tV e,tV (λz=>e (h1.trans z))];exact⟨h1,h2⟩
theorem KV.put{ag:List (κ×V)}{vs:List (κ×Value)}(r:KV ag vs)(k:κ){y:V}{u:Value}(ry:RelV y u):KV (yV ag k y) (stored vs k u):=by
 unfold yV stored;rw[r.any k];by_cases e:(vs.any λkv=>decide (kv.1=k))=true
 ·rw[tW e,tW e];exact r.repl k ry
 ·rw[tV e,tV e];exact Paired.snoc r ⟨rfl,ry⟩
theorem KV.length{ag:List (κ×V)}{vs:List (κ×Value)}(r:KV ag vs):ag.length=vs.length:=Paired.length r
theorem UK(ag:List (κ×V))(k:κ):(AA ag k).length<=ag.length:=List.length_filter_le _ _
end
theorem DJ{P:Program}{w:World}{k:Key}{u:Value}(r:RelV (kV k) u):(qD P w).is k u=true:=by
 cases k with
 | inl i=>obtain⟨t,e⟩:=(show ∃t,u=Value.int i t from r);subst e;exact HY P w i t
 | inr x=>obtain⟨t,e⟩:=(show ∃t,u=Value.str x t from r);subst e;exact HX P w x t
theorem DQ{P:Program}{w:World} :∀{ks:List Key} {us:List Value},Vals (ks.map kV) us->ItemsAre (qD P w) ks us
 | [],_,r=>by rw[List.map_nil]at r;cases r;exact .nil
 | k::ks,_,r=>by
  rw[nO]at r;cases r with
  | cons h t=>exact .cons (DJ h) (DQ t)
abbrev KT(H:Hp):List (List Key×V)->List (List Key×Addr×Value)->Prop:=Paired λp q=>p.1=q.1/\H q.2.1=some (.tup (p.1.map kV))/\RelV p.2 q.2.2
theorem KT.val{H:Hp}{ag:List (List Key×V)}{xs:List (List Key×Addr×Value)}(r:KT H ag xs)(k:List Key):RelO (xC ag k) ((atKey xs k).map (·.2)):=by
 induction r with
 | nil=>exact True.intro
 | @cons p q ps qs h t ih=>
  obtain⟨h1,_,h2⟩:=h;by_cases e:p.1=k
  ·have e':q.1=k:=h1.symm.trans e;have b:atKey (q::qs) k=some q.2:=by simp [atKey,List.find?_cons,e']
   rw[AY e,b];exact h2
  ·have e':¬q.1=k:=λz=>e (h1.trans z);have b:atKey (q::qs) k=atKey qs k:=by simp [atKey,List.find?_cons,e']
   rw[AZ e,b];exact ih
theorem KT.repl{H:Hp}{ag:List (List Key×V)}{xs:List (List Key×Addr×Value)}(r:KT H ag xs)(k:List Key){y:V}{u:Value}(ry:RelV y u) :
  KT H (ag.map λkv=>if kv.1=k then(kv.1,y)else kv) (xs.map (putAt k u)):=by
 induction r with
 | nil=>exact .nil
 | @cons p q ps qs h t ih=>
  rw[nO,nO];refine .cons ?_ ih;obtain⟨h1,h2,h3⟩:=h;unfold putAt;by_cases e:p.1=k
  ·rw[tW e,tW (h1.symm.trans e)];exact⟨h1,h2,ry⟩
  ·rw[tV e,tV (λz=>e (h1.trans z))];exact⟨h1,h2,h3⟩
theorem KT.put{H:Hp}{ag:List (List Key×V)}{xs:List (List Key×Addr×Value)}(r:KT H ag xs)(k:List Key){b:Addr}{y:V}{u:Value}(hb:H b=some (.tup (k.map kV)))(ry:RelV y u) :
  KT H (yV ag k y) (storedH xs k b u):=by
 have e:(ag.any λkv=>decide (kv.1=k))=(atKey xs k).isSome:=by
  rw[GX,(r.val k).isSome_eq,Option.isSome_map]
 unfold yV storedH;rw[e];by_cases q:(atKey xs k).isSome=true
 ·rw[tW q,tW q];exact r.repl k ry
 ·rw[tV q,tV q];exact Paired.snoc r ⟨rfl,hb,ry⟩
theorem KT.keeps{H H':Hp}{ag:List (List Key×V)}{xs:List (List Key×Addr×Value)}(r:KT H ag xs)(ht:∀b ys,H b=some (.tup ys)->H' b=some (.tup ys)):KT H' ag xs:=
 Paired.mapP r λ_ _ z=>⟨z.1,ht _ _ z.2.1,z.2.2⟩
section
variable{P:Program}{w:World}{H:Hp}{h:Heap}{a:Addr}
theorem YK{u:HO}(ok:HOk P w H h)(e:Rd H a u):ObjOk P w H h a u:=e.ok ok
theorem CA{ag:List (Key×V)}(ok:HOk P w H h)(e:Rd H a (.dK ag)):ag.length<=sizeLine/\(a==sysModules)=false/\∃vs,KV ag vs/\h.DictOf (qD P w) a vs:=
 show ObjOk P w H h a (.dK ag)from YK ok e
theorem dk_of{ag:List (Key×V)}(ok:HOk P w H h)(e:H a=some (.dK ag)):ag.length<=sizeLine/\(a==sysModules)=false/\∃vs,KV ag vs/\h.DictOf (qD P w) a vs:=CA ok (.inl e)
theorem wH{ks:List Key}(ok:HOk P w H h)(e:H a=some (.tup (ks.map kV))):(tupleKind (qD P w)).is h ks a:=by
 obtain⟨_,its,r,⟨o,h1,h2,n,h3⟩,_⟩:=(show ObjOk P w H h a (.tup (ks.map kV))from ok a _ e);exact⟨o,its.toArray,n,h1,h2,h3,by simpa using DQ r⟩
theorem xZ{ag:List (List Key×V)}(ok:HOk P w H h)(e:Rd H a (.dT ag)):ag.length<=sizeLine/\(a==sysModules)=false/\
  ∃xs,KT H ag xs/\h.DictOfH (tupleKind (qD P w)) a xs:=by
 obtain⟨z,y,xs,r,o,es,ep,h1,h2,h3,h4,h5⟩:=(show ObjOk P w H h a (.dT ag)from YK ok e);refine⟨z,y,xs,r,o,es,ep,h1,h2,h3,h4,λx hx=>?_,h5⟩;have all:∀{l:List (List Key×V)} {m:List (List Key×Addr×Value)},KT H l m->∀x∈m,(tupleKind (qD P w)).is h x.1 x.2.1:=by
  intro l m q;induction q with
  | nil=>intro x hx;exact nomatch hx
  | @cons p q ps qs hq t ih=>
   intro x hx;rcases nP.mp hx with e | hx
   ·subst e;exact wH ok (by rw[<-hq.1];exact hq.2.1)
   ·exact ih x hx
 exact all r x hx
theorem UH{ag:List (List Key×V)}(ok:HOk P w H h)(e:H a=some (.dT ag)):ag.length<=sizeLine/\(a==sysModules)=false/\
  ∃xs,KT H ag xs/\h.DictOfH (tupleKind (qD P w)) a xs:=xZ ok (.inl e)
end
def DGet(H:Hp)(a:Addr)(y:V)(r:Option V):Prop:=
 (∃ag k,Rd H a (.dK ag)/\y=kV k/\r=xC ag k)∨∃ag k b,Rd H a (.dT ag)/\y=.ref b/\H b=some (.tup (k.map kV))/\r=xC ag k
def DPut(H:Hp)(a:Addr)(y v:V)(H':Hp):Prop:=
 (∃ag k,H a=some (.dK ag)/\y=kV k/\ag.length<sizeLine/\H'=upd H a (.dK (yV ag k v)))∨
 ∃ag k b,H a=some (.dT ag)/\y=.ref b/\H b=some (.tup (k.map kV))/\ag.length<sizeLine/\H'=upd H a (.dT (yV ag k v))
theorem DGet.t{H:Hp}{a b:Addr}{ag:List (List Key×V)}{k:List Key}(e:H a=some (.dT ag))(eb:H b=some (.tup (k.map kV))):DGet H a (.ref b) (xC ag k):=.inr ⟨ag,k,b,.inl e,rfl,eb,rfl⟩
theorem DPut.t{H:Hp}{a b:Addr}{ag:List (List Key×V)}{k:List Key}{v:V}(e:H a=some (.dT ag))(eb:H b=some (.tup (k.map kV)))(hl:ag.length<sizeLine) :
  DPut H a (.ref b) v (upd H a (.dT (yV ag k v))):=.inr ⟨ag,k,b,e,rfl,eb,hl,rfl⟩
section
variable{X:Cx}{ac:List (Addr×Obj)}{σ:St}{H:Hp}{s:Shared}{a:Addr}{y v:V}{u r:Value}{o:Option V}{A:Around}{E:Value->Shared->Prop}
theorem Inv.big(I:Inv X ac σ H s):sysModules<s.heap.objs.size:=by
 have h:mainGlobals<s.heap.objs.size:=(I.mod.glob.keeps I.bk).lt;exact Nat.lt_trans (by decide) h
theorem PV{Q:Value->Shared->Prop}(hu:A.units+1<cLine)(I:Inv X ac σ H s)(g:DGet H a y (some v))(ry:RelV y u)(h:∀w' s',Inv X ac σ H s'->RelV v w'->Q w' s') :
  wpAny (model X.prog X.w) A (getItem (.ref a) u) Q E s:=by
 rcases g with⟨ag,k,e,ey,l⟩ | ⟨ag,k,b,e,ey,eb,l⟩
 ·subst ey;obtain⟨z,hd,vs,rel,dd⟩:=CA I.hok e;obtain⟨w',hw,rw'⟩:=RelO.some_of (v:=v) (o:=valueAt vs k) (by rw[l];exact rel.val k);exact wpAny_getItem_of (DJ ry) dd.mapOf hw (h w' _ (I.tok _) rw')
 ·subst ey;cases (show u=Value.ref b from ry);obtain⟨z,hd,xs,rel,dd⟩:=xZ I.hok e;obtain⟨w',hw,rw'⟩:=RelO.some_of (v:=v) (o:=(atKey xs k).map (·.2)) (by rw[l];exact rel.val k);obtain⟨p,hp,hp2⟩:=Option.map_eq_some_iff.mp hw;refine wpAny_getItem_heap (tupleKind_room_in1 hu) (wH I.hok eb) dd hp ?_;rw[hp2];exact h w' _ (I.tok _) rw'
theorem d_in{Q:Value->Shared->Prop}(hu:A.units+1<cLine)(I:Inv X ac σ H s)(g:DGet H a y o)(ry:RelV y u)(h:∀s',Inv X ac σ H s'->Q (.bool o.isSome) s') :
  wpAny (model X.prog X.w) A (compareOp .In u (.ref a)) Q E s:=by
 rcases g with⟨ag,k,e,ey,l⟩ | ⟨ag,k,b,e,ey,eb,l⟩
 ·subst ey;obtain⟨z,hd,vs,rel,dd⟩:=CA I.hok e;refine wpAny_in_of (DJ ry) hd dd.mapOf ?_;rw[<-(rel.val k).isSome_eq,<-l];exact h _ (I.tok _)
 ·subst ey;cases (show u=Value.ref b from ry);obtain⟨z,hd,xs,rel,dd⟩:=xZ I.hok e;refine wpAny_in_heap (tupleKind_room_in1 hu) (wH I.hok eb) hd dd ?_;have q:=(rel.val k).isSome_eq;rw[Option.isSome_map]at q;rw[<-q,<-l];exact h _ (I.tok _)
theorem XU{Q:Value->Shared->Prop}(hu:A.units+1<cLine)(I:Inv X ac σ H s)(g:DGet H a y o)(ry:RelV y u)(h:∀s',Inv X ac σ H s'->Q (.bool (!o.isSome)) s') :
  wpAny (model X.prog X.w) A (compareOp .NotIn u (.ref a)) Q E s:=by
 rcases g with⟨ag,k,e,ey,l⟩ | ⟨ag,k,b,e,ey,eb,l⟩
 ·subst ey;obtain⟨z,hd,vs,rel,dd⟩:=CA I.hok e;refine wpAny_notIn_of (DJ ry) hd dd.mapOf ?_;rw[<-(rel.val k).isSome_eq,<-l];exact h _ (I.tok _)
 ·subst ey;cases (show u=Value.ref b from ry);obtain⟨z,hd,xs,rel,dd⟩:=xZ I.hok e;refine wpAny_notIn_heap (tupleKind_room_in1 hu) (wH I.hok eb) hd dd ?_;have q:=(rel.val k).isSome_eq;rw[Option.isSome_map]at q;rw[<-q,<-l];exact h _ (I.tok _)
theorem FW{h':Heap}{t':Nat}{ob:HO}(I:Inv X ac σ H s)(mu:Mut (H a))(hs:Heap.SameBut a s.heap h')(he:∃q,h'.get? a=some q)(new:ObjOk X.prog X.w (upd H a ob) h' a ob) :
  Inv X ac σ (upd H a ob) { s with heap:=h',toks:=t' } :=
 I.write (x:=a) (e:=a) mu (.inl rfl) (λb q hb z=>(hs.2 b hb).trans z) he new
theorem dk_new{P:Program}{w:World}{H':Hp}{h':Heap}{ag:List (Key×V)}{vs:List (Key×Value)}(z:ag.length<=sizeLine)(hd:(a==sysModules)=false)(rel:KV ag vs)(dd:h'.DictOf (qD P w) a vs) :
  ObjOk P w H' h' a (.dK ag):=⟨z,hd,vs,rel,dd⟩
theorem PU{H':Hp}{Q:Unit->Shared->Prop}(hu:A.units+1<cLine)(I:Inv X ac σ H s)(g:DPut H a y v H')(ry:RelV y u)(rv:RelV v r)(h:∀s',Inv X ac σ H' s'->Q () s') :
  wpAny (model X.prog X.w) A (setItem (.ref a) u r) Q E s:=by
 rcases g with⟨ag,k,e,ey,l,eH⟩ | ⟨ag,k,b,e,ey,eb,l,eH⟩
 ·subst ey eH;obtain⟨z,hd,vs,rel,dd⟩:=dk_of I.hok e;have hz:vs.length<=sizeLine:=by rw[<-rel.length];exact z
  have hl:(yV ag k v).length<=sizeLine:=by have:=uR ag k v;omega
  refine wpAny_setItem_pairs (hsz:=hz) (DJ ry) dd λh' dd' hs=>h _ ?_;have he:∃q,h'.get? a=some q:=let ⟨q,_,_,hq,_⟩:=dd';⟨q,hq⟩;exact FW I (by rw[e];exact True.intro) hs he (dk_new hl hd (rel.put k rv) dd')
 ·subst ey eH;cases (show u=Value.ref b from ry);obtain⟨z,hd,xs,rel,dd⟩:=UH I.hok e;have hz:xs.length<=sizeLine:=by rw[<-Paired.length rel];exact z
  have hl:(yV ag k v).length<=sizeLine:=by have:=uR ag k v;omega
  refine wpAny_setItem_heap (hsz:=hz) (tupleKind_room_in1 hu) (wH I.hok eb) dd λh' dd' hs=>h _ ?_;obtain⟨q,es,ep,hq,h2,h3,h4,_,h5⟩:=dd';refine FW I (by rw[e];exact True.intro) hs ⟨q,hq⟩ ⟨hl,hd,_,(rel.put k eb rv).keeps λc ys ec=>?_,q,es,ep,hq,h2,h3,h4,h5⟩;rw[jH (YO ec e (λz=>nomatch z))];exact ec
end
section
variable{X:Cx}{ac:List (Addr×Obj)}{σ:St}{H:Hp}{s:Shared}{a:Addr}{ag:List (Key×V)}{k:Key}{u:Value}{A:Around}{E:Value->Shared->Prop}
end
def NoSl(i:Expr):Prop:=∀ov iv,subscripted i false ov iv=operate [ov,iv] (getItem ov iv)
theorem VL{prog:Program}{w:World}{A:Around}{E:Value->Shared->Prop}{s:Shared}{env:Env}{value slice:Expr}{pos:Pos}{T id:String}{Q:Value->Shared->Prop}
  (hl:typeLookup (.type T) "__getitem__" = pure (some (.builtin id))) (hs:NoSl slice)
  (h:wpAny (model prog w) A (eval value env) (λo s₁=>wpAny (model prog w) A (eval slice env) (λi s₂=>s₂.TypeIs o T/\wpAny (model prog w) A (getItem o i) Q E s₂) E s₁) E s) :
  wpAny (model prog w) A (eval (.Subscript value slice pos) env) Q E s:=by
 refine Subscript_ (tU h (λo s₁ h₁=>tU h₁ (λi s₂ h₂=>?_) λ_ _ x=>x) λ_ _ x=>x);obtain⟨hT,h₂⟩:=h₂;unfold subscriptTail;refine tS ?_;rw[getitemInPython_of_ne hT.not_modules];refine tS (wpAny_specialOf hT hl ?_);have fin:wpAny (model prog w) A (subscripted slice false o i) (λr s₃=>wpAny (model prog w) A (letTemporaryGo value o r >>= λ_=>pure r) Q E s₃) E s₂:=by
  rw[hs o i];exact wpAny_operating (tU h₂ (λr s₃ h₃=>tS (wpAny_letTemporaryGo (tT h₃))) λ_ _ x=>x)
 first
  | exact tT (tS fin)
  | exact tS (tT (tS fin))
  | exact tS fin
theorem IM{X:Cx}{ac:List (Addr×Obj)}{σ:St}{H:Hp}{s:Shared}{a:Addr}{y:V}{o:Option V}(I:Inv X ac σ H s)(g:DGet H a y o):s.TypeIs (.ref a) "dict":=by
 rcases g with⟨ag,k,e,_,_⟩ | ⟨ag,k,b,e,_,_,_⟩
 ·obtain⟨_,_,vs,_,dd⟩:=CA I.hok e;exact dd.typeIs
 ·obtain⟨_,_,xs,_,dd⟩:=xZ I.hok e;exact dd.typeIs
def tDGet(td ty:TE):TE:=fun σ H Q=>td σ H λx H1=>ty σ H1 λy H2=>∃a v,x=.ref a/\DGet H2 a y (some v)/\Q v H2
def tDIn(ty td:TE):TE:=fun σ H Q=>ty σ H λy H1=>td σ H1 λx H2=>∃a o,x=.ref a/\DGet H2 a y o/\Q (.bl o.isSome) H2
def VI(ty td:TE):TE:=fun σ H Q=>ty σ H λy H1=>td σ H1 λx H2=>∃a o,x=.ref a/\DGet H2 a y o/\Q (.bl (!o.isSome)) H2
def sDPut(td ty tv:TE):TS:=λD σ H=>tv σ H λv H1=>td σ H1 λx H2=>ty σ H2 λy H3=>∃a H4,x=.ref a/\DPut H3 a y v H4/\D.nx σ H4
section
variable{X:Cx}{o i e value:Expr}{pos pos' tpos:Pos}{td ty tv:TE}
theorem FG(hu:X.A.units+1<cLine)(ho:PE X o td)(hi:PE X i ty)(hs:NoSl i):PE X (.Subscript o i pos) (tDGet td ty):=by
 intro ac s σ H Q I h;refine VL PySem.F.slot_dict_getitem.lookup hs (thn (ho ac s σ H _ I h) λu s1 ⟨x,H1,I1,rx,q1⟩=>thn (hi ac s1 σ H1 _ I1 q1) λiv s2 ⟨y,H2,I2,ry,a,v,ex,g,q2⟩=>?_);subst ex;obtain rfl:u=Value.ref a:=rx;exact⟨IM I2 g,PV hu I2 g ry λw' s3 I3 rw'=>⟨v,H2,I3,rw',q2⟩⟩
theorem ZR(hu:X.A.units+1<cLine)(hi:PE X i ty)(ho:PE X o td):PC X .In i o (tDIn ty td):=by
 intro ac s σ H Q I h;refine thn (hi ac s σ H _ I h) λiv s1 ⟨y,H1,I1,ry,q1⟩=>thn (ho ac s1 σ H1 _ I1 q1) λu s2 ⟨x,H2,I2,rx,a,ov,ex,g,q2⟩=>?_;subst ex;obtain rfl:u=Value.ref a:=rx;exact d_in hu I2 g ry λs3 I3=>⟨.bl ov.isSome,H2,I3,rfl,q2⟩
theorem OP(hu:X.A.units+1<cLine)(hi:PE X i ty)(ho:PE X o td):PC X .NotIn i o (VI ty td):=by
 intro ac s σ H Q I h;refine thn (hi ac s σ H _ I h) λiv s1 ⟨y,H1,I1,ry,q1⟩=>thn (ho ac s1 σ H1 _ I1 q1) λu s2 ⟨x,H2,I2,rx,a,ov,ex,g,q2⟩=>?_;subst ex;obtain rfl:u=Value.ref a:=rx;exact XU hu I2 g ry λs3 I3=>⟨.bl (!ov.isSome),H2,I3,rfl,q2⟩
theorem FD(hu:X.A.units+1<cLine)(ho:PE X o td)(hi:PE X i ty)(hv:PE X value tv)(hs:swapsWith value (some (.Subscript o i pos')) pos.line X.env=pure false) :
  PS X (.Assign [.Subscript o i pos'] value pos) (sDPut td ty tv):=by
 intro ac s σ H D I h;refine wpAny_Assign_Subscript (thn (hv ac s σ H _ I h) λr s1 ⟨v,H1,I1,rv,q1⟩=>thn (ho ac s1 σ H1 _ I1 q1) λu s2 ⟨x,H2,I2,rx,q2⟩=>thn (hi ac s2 σ H2 _ I2 q2) λiv s3 ⟨y,H3,I3,ry,a,H4,ex,g,q3⟩=>?_) hs;subst ex;obtain rfl:u=Value.ref a:=rx;exact PU hu I3 g ry rv λs4 I4=>⟨σ,H4,I4,q3⟩
end
theorem UI{P:Program}{w:World}{H:Hp}(h:Heap)(hb:sysModules<h.objs.size):ObjOk P w H (h.push { cls:=.type "dict",data:=.dict #[] }) h.objs.size (.dT []):=
 ⟨tM _,beq_eq_false_iff_ne.mpr (Ne.symm (nZ hb)),[],.nil,_,#[],0,gZ _ rfl,⟨rfl,rfl,rfl⟩,rfl,rfl,List.nodup_nil⟩
def tDNewT:TE:=λ_ H Q=>∀p,H p=none->Q (.ref p) (upd H p (.dT []))
section
variable{X:Cx}{pos:Pos}
theorem HQ:PE X (.Dict [] [] pos) tDNewT:=λac s σ H Q I h=>
 wpAny_Dict_empty ⟨.ref s.heap.objs.size,_,I.laid (a:=s.heap.objs.size) (o:=.dT []) (t':=s.toks) (λ_ _ q=>gK _ q) uV (UI s.heap I.big),rfl,h _ (I.hok.fresh uV)⟩
end
structure M1(X:Cx)(o:Expr)(m:Str)(apos:Pos)(e:Expr)(cpos:Pos):Prop where
 base:attributeBase o m X.env (eval o X.env)=eval o X.env
 few:((backTo cpos (starEach [e] X.env)).all (λx=>!x.1)&&(backToKw cpos (keywordEach [] X.env)).all (λx=>x.1.isSome)
  &&decide (([e]:List Expr).length+([]:List Keyword).length+(if ([]:List Keyword).isEmpty then 0 else 1)<30))=true
 line:(apos.endLine==cpos.line)=true
 trees:backTo cpos (starEach [e] X.env)=[(false,eval e X.env)]
structure M2(X:Cx)(o:Expr)(m:Str)(apos:Pos)(e f:Expr)(cpos:Pos):Prop where
 base:attributeBase o m X.env (eval o X.env)=eval o X.env
 few:((backTo cpos (starEach [e,f] X.env)).all (λx=>!x.1)&&(backToKw cpos (keywordEach [] X.env)).all (λx=>x.1.isSome)
  &&decide (([e,f]:List Expr).length+([]:List Keyword).length+(if ([]:List Keyword).isEmpty then 0 else 1)<30))=true
 line:(apos.endLine==cpos.line)=true
 trees:backTo cpos (starEach [e,f] X.env)=[(false,eval e X.env),(false,eval f X.env)]
def IsD(H:Hp)(a:Addr):Prop:=(∃ag,Rd H a (.dK ag))∨∃ag,Rd H a (.dT ag)
theorem TL{X:Cx}{ac:List (Addr×Obj)}{σ:St}{H:Hp}{s:Shared}{a:Addr}(I:Inv X ac σ H s)(d:IsD H a) :
  s.TypeIs (.ref a) "dict"/\(∀b,Value.ref a=.ref b->∃ob,s.heap.get? b=some ob/\ob.dict=none)/\(a==sysModules)=false:=by
 rcases d with⟨ag,e⟩ | ⟨ag,e⟩
 ·obtain⟨_,hd,vs,_,dd⟩:=CA I.hok e;refine⟨dd.typeIs,λb q=>?_,hd⟩;cases q;obtain⟨ob,_,_,h1,h2,_⟩:=dd;exact⟨ob,h1,h2.2.1⟩
 ·obtain⟨_,hd,xs,_,dd⟩:=xZ I.hok e;refine⟨dd.typeIs,λb q=>?_,hd⟩;cases q;obtain⟨ob,_,_,h1,h2,_⟩:=dd;exact⟨ob,h1,h2.2.1⟩
section
variable{X:Cx}{ac:List (Addr×Obj)}{σ:St}{H:Hp}{s:Shared}{a:Addr}{y d:V}{u r:Value}{o:Option V}{A:Around}{E:Value->Shared->Prop}
theorem d_get2{Q:Value->Shared->Prop}(hu:A.units+1<cLine)(I:Inv X ac σ H s)(g:DGet H a y o)(ry:RelV y u)(rd:RelV d r)(h:∀w' s',Inv X ac σ H s'->RelV (o.getD d) w'->Q w' s') :
  wpAny (model X.prog X.w) A (call (.builtin "dict.get") [.ref a,u,r]) Q E s:=by
 rcases g with⟨ag,k,e,ey,l⟩ | ⟨ag,k,b,e,ey,eb,l⟩
 ·subst ey;obtain⟨z,hd,vs,rel,dd⟩:=CA I.hok e;refine call_meetsIn PySem.F.slot_dict_get dd.typeIs PySem.F.entry_dict_get (PySem.F.args_dict_get_3 _ _ _) (meets_dict_get_default (qD X.prog X.w) a (DJ ry) hd r) ⟨_,dd.mapOf,h _ _ (I.tok _) ?_⟩;rw[l];exact(rel.val k).getD rd
 ·subst ey;cases (show u=Value.ref b from ry);obtain⟨z,hd,xs,rel,dd⟩:=xZ I.hok e;refine call_meetsIn PySem.F.slot_dict_get dd.typeIs PySem.F.entry_dict_get (PySem.F.args_dict_get_3 _ _ _) (meetsH_dict_get_default (tupleKind (qD X.prog X.w)) a b hd r) ⟨tupleKind_room_in1 hu,k,xs,wH I.hok eb,dd,h _ _ (I.tok _) ?_⟩;rw[l];exact(rel.val k).getD rd
end
def ZB(td ty tx:TE):TE:=fun σ H Q=>td σ H λx H1=>∃a,x=.ref a/\IsD H1 a/\ty σ H1 λy H2=>tx σ H2 λz H3=>∃o,DGet H3 a y o/\Q (o.getD z) H3
section
variable{X:Cx}{o e f:Expr}{apos cpos:Pos}{td ty tx:TE}
theorem RU(hu:X.A.units+1<cLine)(ho:PE X o td)(he:PE X e ty)(hf:PE X f tx)(m:M2 X o "get" apos e f cpos):PE X (.Call (.Attribute o "get" apos) [e,f] [] cpos) (ZB td ty tx):=by
 intro ac s σ H Q I h;refine wpAny_Call_method m.base m.few m.line PySem.F.plainAttrs_dict PySem.F.slot_dict_get PySem.F.type_dict_get (thn (ho ac s σ H _ I h) λu s1 ⟨x,H1,I1,rx,a,ex,d,q1⟩=>?_);subst ex;obtain rfl:u=Value.ref a:=rx;obtain⟨t1,t2,_⟩:=TL I1 d;refine⟨t1,t2, ?_⟩;rw[m.trees];refine Calls.callWith_builtin rfl (Calls.evalArgs_plain (Calls.spliced_cons (thn (he ac s1 σ H1 _ I1 q1) λiv s2 ⟨y,H2,I2,ry,q2⟩=>
  Calls.spliced_cons (thn (hf ac s2 σ H2 _ I2 q2) λfv s3 ⟨z,H3,I3,rz,ov,g,q3⟩=>Calls.spliced_nil ?_))))
 exact d_get2 hu I3 g ry rz λw' s4 I4 rw'=>⟨_,H3,I4,rw',q3⟩
end
section
variable{X:Cx}{ac:List (Addr×Obj)}{σ:St}{H:Hp}{s:Shared}{a:Addr}{ag:List (Key×V)}{A:Around}{E:Value->Shared->Prop}
end
section
variable{X:Cx}{ac:List (Addr×Obj)}{σ:St}{H:Hp}{s:Shared}{a:Addr}{y:V}{u:Value}{A:Around}{E:Value->Shared->Prop}
end
section
variable{X:Cx}
end
end L2
namespace L2
section
variable{κ:Type} [DecidableEq κ]
end
end L2
namespace LwD
open PySem PySem.Spec PyProof.Rows L2
theorem KTdrop{H:Hp}{ag:List (List Key×V)}{xs:List (List Key×Addr×Value)}(r:KT H ag xs)(k:List Key):KT H (AA ag k) (xs.filter λx=>decide (x.1≠k)):=by
 induction r with
 | nil=>exact .nil
 | @cons p q ps qs h t ih=>
  unfold AA at ih ⊢;rw[mX,mX];by_cases e:p.1=k
  ·rw[tV (by simp [e]),tV (by rw[h.1]at e;simp [e])];exact ih
  ·rw[tW (by simp [e]),tW (by rw[h.1]at e;simp [e])];exact .cons h ih
theorem DF{α β:Type}(f:α->β):∀(xs:List α) (j:Nat),(xs.map f).eraseIdx j=(xs.eraseIdx j).map f
 | [],_=>rfl
 | _::_,0=>rfl
 | x::r,j+1=>by rw[nO,List.eraseIdx_cons_succ,List.eraseIdx_cons_succ,nO,DF f r j]
theorem wV{K:Type} [DecidableEq K]{k:K} :∀{xs:List (K×Addr×Value)} {j:Nat} {p:Addr×Value},(xs.map (·.1)).Nodup->xs[j]? = some (k,p)->xs.eraseIdx j=xs.filter λx=>decide (x.1≠k)
 | [],_,_,_,e=>by simp at e
 | x::r,0,p,hn,e=>by
  simp only[List.getElem?_cons_zero,Option.some.injEq]at e;subst e;rw[nO,List.nodup_cons]at hn;rw[List.eraseIdx_zero,List.tail_cons,mX,tV (by simp)]
  symm
  rw[List.filter_eq_self];intro y hy;have:y.1≠k:=λz=>hn.1 (tD.mpr ⟨y,hy,z⟩);simp [this]
 | x::r,j+1,p,hn,e=>by
  rw[nO,List.nodup_cons]at hn;have e':r[j]? = some (k,p):=by simpa using e
  have hx:x.1≠k:=λz=>hn.1 (z▸tD.mpr ⟨(k,p),gS e',rfl⟩);rw[List.eraseIdx_cons_succ,mX,tW (by simp [hx]),wV hn.2 e']
section
variable{prog:Program}{w:World}{K:Type} [DecidableEq K]{knd:HeapKind prog w K}{A:Around}{E:Value->Shared->Prop}{s:Shared}
theorem EN{d a:Addr}{xs:List (K×Addr×Value)}{k:K}{p:Addr×Value}{Q:Option DictEntry->Shared->Prop}(hu:knd.room A)(hkey:knd.is s.heap k a)(hm:s.heap.DictOfH knd d xs)(hz:xs.length<=sizeLine)(hp:atKey xs k=some p)
  (hs:∀h',h'.DictOfH knd d (xs.filter λx=>decide (x.1≠k))->Heap.SameBut d s.heap h'->Q (some (entryOfKey knd (k,p))) { s with heap:=h',toks:=s.toks+knd.draws k }) :
  wpAny (model prog w) A (Builtin.Dict.takeOut d (.ref a)) Q E s:=by
 obtain⟨o,es,ep,ho,hc,hd,he,his,hn⟩:=hm;have hes:es.size<=sizeLine:=by rw[size_of_entries he];exact hz
 unfold Builtin.Dict.takeOut;try with_reducible refine wpAny_holding ?_
 refine tS (knd.pyHash hu hkey (tS (wpAny_dictFind_heap (s:={ s with toks:=s.toks+knd.draws k }) hu hkey ho hd he his hn ?_ ?_)))
 ·intro hno;rw[atKey_none_of_get hno]at hp;cases hp
 ·intro j p' hj;rw[atKey_of_get hn hj]at hp;cases hp;refine tS (wpAny_dictEntries (s:={ s with toks:=s.toks+knd.draws k }) ho hd ?_);rw[entry_at he j,hj];refine tS (wpAny_updateDictKeys (hz:=hes) (s:={ s with toks:=s.toks+knd.draws k }) ho hd (tT (hs _ ⟨_,_,ep+1,Heap.get?_update_self _ ho (Obj.isFreed_of_dict (Obj.data_mapDictKeys hd _)),hc.mapDictKeys _,Obj.data_mapDictKeys hd _, ?_, ?_, ?_⟩ (Heap.SameBut.update ..))))
  ·rw[<-wV hn hj];obtain⟨l⟩:=es;simp only at he;subst he;show((List.map (entryOfKey knd) xs).toArray.eraseIdxIfInBounds j).toList=_;rw[List.eraseIdxIfInBounds_toArray];exact DF _ xs j
  ·intro x hx;exact knd.keeps (his x (List.mem_filter.mp hx).1) ho hd (Heap.SameBut.update ..)
  ·exact hn.sublist (List.filter_sublist.map _)
theorem KJ{d a:Addr}{k:K} :
  MeetsIn prog w (Builtin.«dict.pop» ⟨[.ref d,.ref a],[]⟩) (λA R s=>∃xs p,knd.room A.in1/\knd.is s.heap k a/\s.heap.DictOfH knd d xs/\xs.length<=sizeLine/\atKey xs k=some p/\
   ∀h',h'.DictOfH knd d (xs.filter λx=>decide (x.1≠k))->Heap.SameBut d s.heap h'->R (.ok (.ret p.2)) { s with heap:=h',toks:=s.toks+knd.draws k }):=
 .of_wp λA R s ⟨xs,p,hu,hkey,hm,hz,hp,h⟩=>by
  unfold Builtin.«dict.pop»;refine tS ?_;unfold Builtin.Dict.keyAndDefault;refine tS (wpAny_notOrdered_dict hm.typeIs ?_);show wpAny _ _ (pure (d,Value.ref a,none)) _ _ s;refine tT ?_;obtain⟨o,es,ep,ho,hc,hd,he,his,hn⟩:=id hm;have ne:es.isEmpty=false:=by
   have e1:=size_of_entries he;have e2:xs≠[]:=λz=>by subst z;cases hp
   have e3:0<xs.length:=List.length_pos_iff.mpr e2;rw[Array.isEmpty_eq_false_iff_exists_mem];exact⟨es[0]'(by omega),Array.getElem_mem _⟩
  have go:wpAny (model prog w) A.in1 (Builtin.Dict.takeOut d (.ref a)) (λold s'=>old=some (entryOfKey knd (k,p))/\R (.ok (.ret p.2)) s') (λ_ _=>False) s:=
   EN hu hkey hm hz hp λh' hm' hs'=>⟨rfl,h h' hm' hs'⟩
  have kp:(keyPart (Value.ref a)).isSome=false:=rfl;simp only[kp,Bool.false_eq_true,if_false];refine tS (wpAny_dictEntries ho hd ?_);rw[ne];refine tS (tT ?_);simp only[Bool.false_eq_true,if_false];refine tS (tU go (λold s' ⟨e1,hR⟩=>?_) λ_ _ z=>z.elim);subst e1;simp only[Option.isNone_some,Bool.false_eq_true,if_false];exact tS (wpAny_letGo (tT ⟨p.2,rfl,hR⟩))
end
section
variable{X:Cx}{ac:List (Addr×Obj)}{σ:L2.St}{H:Hp}{s:Shared}{a b:Addr}{ag:List (List Key×V)}{k:List Key}{E:Value->Shared->Prop}
theorem d_popT{v:V}{Q:Value->Shared->Prop}(hu:X.A.units+1<cLine)(I:Inv X ac σ H s)(e:H a=some (.dT ag))(eb:H b=some (.tup (k.map kV)))(l:xC ag k=some v)
  (h:∀w' s',Inv X ac σ (upd H a (.dT (AA ag k))) s'->RelV v w'->Q w' s'):wpAny (model X.prog X.w) X.A (call (.builtin "dict.pop") [.ref a,.ref b]) Q E s:=by
 obtain⟨z,hd,xs,rel,dd⟩:=UH I.hok e;have hz:xs.length<=sizeLine:=by rw[<-Paired.length rel];exact z
 have rv:=rel.val k;rw[l]at rv;cases hp:atKey xs k with
 | none=>rw[hp]at rv;exact rv.elim
 | some p=>
  rw[hp]at rv;refine call_meetsIn PySem.F.slot_dict_pop dd.typeIs PySem.F.entry_dict_pop (PySem.F.args_dict_pop_2 _ _) (KJ (knd:=tupleKind (qD X.prog X.w)) (k:=k)) ⟨xs,p,tupleKind_room_in1 hu,wH I.hok eb,dd,hz,hp,λh' dd' hs=>h p.2 _ ?_ rv⟩;obtain⟨q,es,ep,hq,h2,h3,h4,_,h5⟩:=dd';have hl:(AA ag k).length<=sizeLine:=nY (UK ag k) z;refine FW I (by rw[e];exact True.intro) hs ⟨q,hq⟩ ⟨hl,hd,_,(KTdrop rel k).keeps λc ys ec=>?_,q,es,ep,hq,h2,h3,h4,h5⟩;rw[jH (YO ec e (λz=>nomatch z))];exact ec
variable{o e:Expr}{td ty:TE}{apos cpos:Pos}
def ZA(td ty:TE):TE:=fun σ H Q=>td σ H λx H1=>∃a,x=.ref a/\IsD H1 a/\ty σ H1 λy H2=>∃ag k v b,H2 a=some (.dT ag)/\y=.ref b/\H2 b=some (.tup (k.map kV))/\xC ag k=some v/\Q v (upd H2 a (.dT (AA ag k)))
theorem RT(hu:X.A.units+1<cLine)(ho:PE X o td)(he:PE X e ty)(m:M1 X o "pop" apos e cpos):PE X (.Call (.Attribute o "pop" apos) [e] [] cpos) (ZA td ty):=by
 intro ac s σ H Q I h;refine wpAny_Call_method m.base m.few m.line PySem.F.plainAttrs_dict PySem.F.slot_dict_pop PySem.F.type_dict_pop (thn (ho ac s σ H _ I h) λu s1 ⟨x,H1,I1,rx,a,ex,d,q1⟩=>?_);subst ex;obtain rfl:u=Value.ref a:=rx;obtain⟨t1,t2,_⟩:=TL I1 d;refine⟨t1,t2, ?_⟩;rw[m.trees];refine Calls.callWith_builtin rfl (Calls.evalArgs_plain (Calls.spliced_cons (thn (he ac s1 σ H1 _ I1 q1) λiv s2 ⟨y,H2,I2,ry,ag,k,v,b,ea,ey,eb,l,q2⟩=>Calls.spliced_nil ?_)));subst ey;cases ry;exact d_popT hu I2 ea eb l λw' s3 I3 rw'=>⟨v,_,I3,rw',q2⟩
end
def Raw(h:Heap)(d:Addr)(es:Array DictEntry)(ep:Nat):Prop:=∃o,h.get? d=some o/\o.ExactDict/\o.data=.dict es ep
theorem Raw.lt{h:Heap}{d:Addr}{es:Array DictEntry}{ep:Nat}(r:Raw h d es ep):d<h.objs.size:=let ⟨_,e,_⟩:=r;nX e
theorem Raw.keep{h h':Heap}{d:Addr}{es:Array DictEntry}{ep:Nat}(r:Raw h d es ep)(k:∀o,h.get? d=some o->h'.get? d=some o):Raw h' d es ep:=let ⟨o,e,x⟩:=r;⟨o,k o e,x⟩
theorem Raw.ty{s:Shared}{d:Addr}{es:Array DictEntry}{ep:Nat}(r:Raw s.heap d es ep):s.TypeIs (.ref d) "dict":=let ⟨o,e,c,_⟩:=r;⟨o,e,c.1⟩
section
variable{prog:Program}{w:World}{A:Around}{E:Value->Shared->Prop}{s:Shared}{d it:Addr}{es:Array DictEntry}{ep i:Nat}
theorem RL{Q:Value->Shared->Prop}(lo:(d==sysModules)=false)(r:Raw s.heap d es ep)
  (q:Q (.ref s.heap.objs.size) { s with heap:=s.heap.push { cls:=.type "dict_keyiterator",data:=.fields #[.ref d,.int 0 0,.int es.size 0,.int ep 0] } }):wpAny (model prog w) A (pyIter (.ref d)) Q E s:=by
 have ty:=r.ty;obtain⟨o,ho,hc,hdat⟩:=r;refine wpAny_pyIter_slot ty PySem.F.slot_dict_iter (wpAny_call_entry PySem.F.slot_dict_iter ty PySem.F.entry_dict_iter ?_ (PySem.F.args_dict_iter_1 _));unfold Builtin.«dict.__iter__»;refine tS (show wpAny _ _ (Builtin.Dict.dictSlotNone _ _) _ _ s from ?_);unfold Builtin.Dict.dictSlotNone;refine tS (wpAny_notOrdered_dict ty (show wpAny _ _ (pure (Value.ref d)) _ _ s from tT ?_));show wpAny _ _ (Builtin.Dict.showsAll d >>= _) _ _ s;unfold Builtin.Dict.showsAll;rw[tV (by rw[lo];exact hZ)];refine tS (tT (tS (wpAny_dictEntries ho hdat (tS (wpAny_dictEpoch ho hdat ?_)))));refine tS (wpAny_newObj_type (tT ⟨_,rfl,"dict_keyiterator",_,⟨_,gZ _ rfl,rfl⟩,PySem.F.slot_dict_keyiterator_next.lookup, ?_⟩));simpa [rawInt]using q
theorem RK{Q:Option Value->Shared->Prop}(k:s.heap.IsKeyIter it d i es.size ep)(r:Raw s.heap d es ep)(hi:i<es.size)
  (q:∀h',h'.IsKeyIter it d (i+1) es.size ep->Heap.SameBut it s.heap h'->Q (some es[i].key) { s with heap:=h' }):wpAny (model prog w) A (pyNext (.ref it)) Q E s:=by
 have ty:=k.typeIs;obtain⟨o,ho,hc,hd⟩:=id k;obtain⟨od,hod,hcd,hdd⟩:=id r;have own:Builtin.Dict_items.ownsTuple "dict_keyiterator" = false:=by decide
 unfold pyNext;refine tS (wpAny_attempt (wpAny_callSpecial?_slot (name:=Str.ofString "__next__") ty PySem.F.slot_dict_keyiterator_next (wpAny_call_entry PySem.F.slot_dict_keyiterator_next ty PySem.F.entry_dict_keyiterator_next ?_ (PySem.F.args_dict_keyiterator_next_1 _))));refine tS (tT (tS (tS ?_)));first | refine tS (wpAny_typeNameOfWhole_keyiter ty (tT (tS (wpAny_fieldsOf ho hd ?_)))) | refine tS (wpAny_typeNameOf_keyiter ty (tT (tS (wpAny_fieldsOf ho hd ?_))))
 simp only[own,Bool.false_eq_true,if_false];show wpAny _ _ (if (Value.ref d==Value.none)=true then _ else _) _ _ s;rw[tV (show ¬((Value.ref d==Value.none)=true)from hZ)];refine tS (tT (tS (wpAny_dictEntries hod hdd ?_)));rw[tV (by simp)];refine tS (tT (tS (wpAny_dictEpoch hod hdd ?_)));rw[tV (by simp)];refine tT ?_;simp only[show ¬((i:Int)<0)from by omega,if_false,mP,Array.getElem?_eq_getElem hi];refine tS ?_;first | refine tS (wpAny_typeNameOfWhole_keyiter ty (tT (tS (wpAny_isOneOf_keyiter ty ?_)))) | refine tS (wpAny_typeNameOf_keyiter ty (tT (tS (wpAny_isOneOf_keyiter ty ?_))))
 show wpAny _ _ (setField (.ref it) 1 (rawInt ((i:Int)+1)) >>= _) _ _ s;have k':(s.heap.update it (Obj.mapFields (·.setIfInBounds 1 (rawInt ((i:Int)+1))))).IsKeyIter it d (i+1) es.size ep:=
  ⟨_,Heap.get?_update_self _ ho (Obj.isFreed_of_fields (Obj.data_mapFields hd _)),(Obj.cls_mapFields ..).trans hc,by rw[Obj.data_mapFields hd];simp [rawInt]⟩
 refine tS (wpAny_setField ho hd (by simp) (tS (wpAny_holding ?_)));refine tS (wpAny_isOneOf_keyiter (s:={ s with heap:=s.heap.update it (Obj.mapFields (·.setIfInBounds 1 (rawInt ((i:Int)+1)))) }) k'.typeIs ?_);show wpAny _ _ (pure es[i].key) _ _ _;exact tT (tT ⟨_,rfl,tT (q _ k' (Heap.SameBut.update ..))⟩)
theorem VS{Q:Option Value->Shared->Prop}(hh:A.handled=none)(k:s.heap.IsKeyIter it d es.size es.size ep)(r:Raw s.heap d es ep)(q:∀h',Heap.ExtBut it s.heap h'->Q none { s with heap:=h' }):wpAny (model prog w) A (pyNext (.ref it)) Q E s:=by
 have ty:=k.typeIs;obtain⟨o,ho,hc,hd⟩:=id k;obtain⟨od,hod,hcd,hdd⟩:=id r;have own:Builtin.Dict_items.ownsTuple "dict_keyiterator" = false:=by decide
 unfold pyNext;refine tS (wpAny_attempt (wpAny_callSpecial?_slot (name:=Str.ofString "__next__") ty PySem.F.slot_dict_keyiterator_next (wpAny_call_entry PySem.F.slot_dict_keyiterator_next ty PySem.F.entry_dict_keyiterator_next ?_ (PySem.F.args_dict_keyiterator_next_1 _))));refine tS (tT (tS (tS ?_)));first | refine tS (wpAny_typeNameOfWhole_keyiter ty (tT (tS (wpAny_fieldsOf ho hd ?_)))) | refine tS (wpAny_typeNameOf_keyiter ty (tT (tS (wpAny_fieldsOf ho hd ?_))))
 simp only[own,Bool.false_eq_true,if_false];show wpAny _ _ (if (Value.ref d==Value.none)=true then _ else _) _ _ s;rw[tV (show ¬((Value.ref d==Value.none)=true)from hZ)];refine tS (tT (tS (wpAny_dictEntries hod hdd ?_)));rw[tV (by simp)];refine tS (tT (tS (wpAny_dictEpoch hod hdd ?_)));rw[tV (by simp)];refine tT ?_;simp only[show ¬((es.size:Int)<0)from by omega,if_false,mP,Array.getElem?_eq_none (tL es.size)];refine tS ?_;first | refine tS (wpAny_typeNameOfWhole_keyiter ty (tT ?_)) | refine tS (wpAny_typeNameOf_keyiter ty (tT ?_))
 show wpAny _ _ (setField (.ref it) 0 .none >>= _) _ _ s;refine tS (wpAny_setField ho hd (by simp) (show wpAny _ _ (newExc (.type "StopIteration") [] >>= _) _ _ _ from tS ?_));simp only[newExc,newTuple];refine tS (wpAny_newObj_type (tS (m:=firstArgMember _ _) (wpAny_of_eq (a:=Value.none) (by first | rfl | (simp only[firstArgMember];rfl)) (wpAny_newObj_type ?_ (by size_fits)))) (by size_fits));simp only[raiseNew];refine tS (wpAny_handled ?_);rw[show A.in1.handled=none from hh];refine tS (tT (wpAny_throw ?_));refine tS (wpAny_isInstance (b:=true) (T:="StopIteration") ⟨_,gZ _ rfl,rfl⟩ isSubtype_stop ?_);exact tT (q _ (((Heap.SameBut.update ..).extBut.push _).push _))
theorem OE(hh:A.handled=none)(hne:d≠it):Walks prog w A it [it,d] [it] es.size (λi v=>∃h:i<es.size,v=es[i].key) (λi h=>h.IsKeyIter it d i es.size ep/\Raw h d es ep) where
 sub:=λb hb=>by simp at hb;simp [hb]
 frame:=λ_ _ _ st hk=>⟨st.1.at λo e=>hk it (by simp) o e,st.2.keep λo e=>hk d (by simp) o e⟩
 item:=λi s Q E hi st hQ=>RK st.1 st.2 hi λh' k' hs'=>hQ _ h' s.toks ⟨hi,rfl⟩ ⟨k',st.2.keep λo e=>hs'.extBut d o hne e⟩ λb o hb e=>hs'.extBut b o (λh=>hb (by simp [h])) e
 done:=λs Q E st hQ=>VS hh st.1 st.2 λh' he'=>hQ h' s.toks λb o hb e=>he' b o (λh=>hb (by simp [h])) e
 self:=λ_ _ _ _ st hQ=>wpAny_pyIter_keyiter st.1 hQ
theorem VR(lo:(d==sysModules)=false):PySem.W.KdlSrc prog w "dict" d d es.size (λi v=>∃h:i<es.size,v=es[i].key) (λh=>Raw h d es ep) where
 type:=λ_ hm=>hm.ty
 there:=λ_ hm=>⟨hm.lt,hm.lt⟩
 keep:=λ_ _ hm hk=>hm.keep λo e=>hk d (.inl rfl) o e
 notList:=by decide
 notTuple:=by decide
 hint:=λ_ _ _ _ hm hq=>PySem.W.kdl_hint_dict hm.ty hq
 iter:=λ_ _ hh hm=>⟨_,_,(λ_ _ hq=>RL lo hm hq),OE hh (nZ hm.lt),⟨⟨_,gZ _ rfl,rfl,rfl⟩,hm.keep λo e=>gK _ e⟩⟩
end
end LwD
namespace LwD
open PySem PySem.W PySem.Spec PyProof.Rows
def Pm(n:Nat)(p:Array Nat):Prop:=p.toList.Perm (List.range n)
theorem Pm.size{n:Nat}{p:Array Nat}(h:Pm n p):p.size=n:=by have:=h.length_eq;simpa using this
theorem Pm.lt{n:Nat}{p:Array Nat}(h:Pm n p){i:Nat}(hn:0<n):p.getD i 0<n:=by
 by_cases hi:i<p.size
 ·have:p.getD i 0∈p.toList:=by simp [Array.getD,hi]
  exact nI.mp (h.mem_iff.mp this)
 ·simp [Array.getD,hi,hn]
theorem Pm.rev{n:Nat}{p:Array Nat}(h:Pm n p)(i j:Nat):Pm n (kas_rev p i j):=(Array.perm_iff_toList_perm.mp (mirror_perm p i j _)).trans h
theorem Pm.bub{n:Nat}{p:Array Nat}(h:Pm n p)(i j:Nat):Pm n (bubble p i j):=(Array.perm_iff_toList_perm.mp (bubble_perm p i j)).trans h
section
variable{prog:Program}{w:World}{A:Around}{E:Value->Shared->Prop}{s:Shared}
end
end LwD
namespace LwD
open PySem PySem.Spec PyProof.Rows L2 Lw
theorem WR{h:Heap}{a:Addr}{m m':Str->Option Value}(x:h.Ns a m)(y:h.Ns a m'):m=m':=by
 obtain⟨o,es,ep,ho,hd,hk,hm⟩:=x;obtain⟨o',es',ep',ho',hd',hk',hm'⟩:=y;rw[ho]at ho';cases ho';rw[hd]at hd';cases hd'
 funext z
 rw[<-hm z,<-hm' z]
theorem SK{P:Program}{w:World}{H:Hp}{h:Heap}{a:Addr}{o:HO}(x:ObjOk P w H h a o):∃q,h.get? a=some q:=by
 cases o with
 | lst xs=>obtain⟨_,_,_,_,e⟩:=x;exact⟨_,e⟩
 | tup xs=>obtain⟨_,_,_,⟨q,e,_⟩,_⟩:=x;exact⟨_,e⟩
 | dK ag=>obtain⟨_,_,_,_,o,_,_,e,_⟩:=x;exact⟨_,e⟩
 | dT ag=>obtain⟨_,_,_,_,o,_,_,e,_⟩:=x;exact⟨_,e⟩
 | set S n=>obtain⟨o,_,_,_,e,_⟩:=x;exact⟨_,e⟩
 | ins C dx fs=>obtain⟨_,_,_,e,_⟩:=x;exact⟨_,e⟩
 | own y=>exact x
 | xd fs=>obtain⟨_,⟨_,_,_,e,_⟩,_⟩:=x;exact⟨_,e⟩
 | rng lo hi=>obtain⟨_,_,_,e⟩:=x;exact⟨_,e⟩
 | frz ob u=>exact⟨_,x.1⟩
 | tbl ps=>exact⟨_,x⟩
 | met f y=>exact⟨_,x⟩
 | ext φ=>exact x.2.1
section
variable{X:Cx}{ac:List (Addr×Obj)}{σ:L2.St}{H:Hp}{s:Shared}
theorem HW{D:Addr}{o:Obj}{ho:HO}{h3:Heap}{m:Str->Option Value}{tk:Nat}(I:Inv X ac σ H s)(F:Fr X.base X.env.locals s.heap m)(F3:Fr X.base X.env.locals h3 m)(N3:News X.base X.env.locals h3 ((D,o)::yT X.base s.heap X.env.locals))
  (lt:∀q∈yT X.base s.heap X.env.locals,q.1<D) (new:h3.get? D=some o->ObjOk X.prog X.w (upd H D ho) h3 D ho):H D=none/\Inv X ac σ (upd H D ho) { s with heap:=h3,toks:=tk } :=by
 have n1:=N3 (D,o) (mF ..);have dn:s.heap.get? D=none:=by
  cases q:s.heap.get? D with
  | none=>rfl
  | some u=>exact absurd (lt _ (zI n1.2.1 n1.2.2 q)) (nQ _)
 have Hn:H D=none:=by
  cases q:H D with
  | none=>rfl
  | some u=>
   obtain⟨z,e⟩:=SK (I.hok D u q);rw[dn]at e;cases e
 have kp:∀b u,b≠X.env.locals->s.heap.get? b=some u->h3.get? b=some u:=λb u hb e=>by
  cases q:X.base.get? b with
  | some z=>
   have y:=I.bk b z q;rw[e]at y;cases y;exact F3.keep b _ q
  | none=>exact(N3 (b,u) (gT _ (zI hb q e))).1
 have ne:∀b u,s.heap.get? b=some u->b≠D:=λb u e z=>by rw[z,dn]at e;cases e
 have thr:∀b u,s.heap.get? b=some u->∃u',h3.get? b=some u':=λb u e=>by
  by_cases hb:b=X.env.locals
  ·obtain⟨u',_,_,e',_⟩:=F3.ns;exact⟨u',by rw[hb];exact e'⟩
  ·exact⟨u,kp b u hb e⟩
 refine⟨Hn,I.step (g':=s.gens) (d':=s.drawn) (ch:=[]) (λ_ z=>nomatch z) (λb u hb _ _ e _=>kp b u hb e) (λb u hb _ _ e _=>⟨u.slots,kp b u hb e⟩) (λb u _ e n=>?_) (λb u _ e=>thr b u e) (λb xs e=>?_) (λb u v e=>?_) (λb ps e=>?_) (λm' hm=>?_) (λb u e=>?_) I.bare⟩
 ·rw[jH (ne b u e)];exact n
 ·rw[jH (jX e Hn)];exact e
 ·rw[jH (jX e Hn)];exact e
 ·exact⟨#[],by rw[jH (jX e Hn),e];simp⟩
 ·rw[WR hm F.ns];exact F3.ns
 ·by_cases hb:b=D
  ·subst hb;rw[jF]at e;cases e;exact new n1.1
  ·rw[jH hb]at e;refine(I.hok b u e).stay (λc v hc q=>kp c v (λz=>?_) q) (λc q=>by rw[jH (jX q Hn)];exact q) λc xs q=>by rw[jH (jX q Hn)];exact q
   rcases hc with y | y
   ·rw[<-y,z,I.free]at e;cases e
   ·rw[z,I.free]at y;cases y
end
section
variable{prog:Program}{w:World}{A:Around}{E:Value->Shared->Prop}{s:Shared}
theorem JN{a:Addr}{vs:List Value}{n:Nat}{Q:Value->Shared->Prop}(ho:s.heap.get? a=some (seqObj "list" vs.toArray n))(h2:vs.length<2)(q:Q .none { s with heap:=sortedHeap s.heap a vs vs.toArray }):wpAny (model prog w) A (call (.builtin "list.sort") [.ref a]) Q E s:=by
 refine wpAny_call_entry slot_list_sort ⟨_,ho,rfl⟩ entry_list_sort ?_ (args_list_sort _);rw[list_sort_plain];have ha:a<s.heap.objs.size:=nX ho;obtain⟨e1,ho1⟩:∃e1,(s.heap.update a (Obj.mapSeq λ_=>#[])).get? a=some (seqObj "list" #[] e1):=⟨_,get?_update_seq ho (λ_=>#[])⟩;have ho6:(((s.heap.update a (Obj.mapSeq λ_=>#[])).push (seqObj "tuple" vs.toArray 0)).push (seqObj "list" #[] 0)).get? a=some (seqObj "list" #[] e1):=gK _ (gK _ ho1);have hz:vs.toArray.size<2:=by simpa using h2
 refine tS (listItems_at ho rfl (tS (listUpdate_at ho rfl (tS (seqEpoch_at ho1 rfl (tS (wpAny_newTuple (tS (wpAny_newList (wpAny_holding ?_))))))))));show wpAny (model prog w) _ _ _ E { s with heap:=((s.heap.update a (Obj.mapSeq λ_=>#[])).push (seqObj "tuple" vs.toArray 0)).push (seqObj "list" #[] 0) };dsimp only;rw[tW hz,tW hz];refine tS (tT ?_);rw[StateT.run_pure];refine tS (tT ?_);dsimp only;have hm:(arrOf (SortSt.mk' general' (vs.toArray.zip vs.toArray) #[] 7 none)).map (·.2)=vs.toArray:=by
  show(vs.toArray.zip vs.toArray).map (·.2)=vs.toArray;apply Array.ext';simp [List.map_snd_zip]
 refine tS (seqEpoch_at ho6 rfl (tS (listUpdate_at ho6 rfl ?_ (hsz2:=by rw[hm,sizeLine_eq];omega))));rw[hm];simp only[bne_self_eq_false,Bool.false_eq_true,if_false];exact tT ⟨_,rfl,q⟩
end
abbrev ik(ns:List Int):List Key:=ns.map Sum.inl
theorem wK(ns:List Int):(ik ns).map kV=ns.map V.int:=by
 unfold ik;rw[tJ]
 rfl
section
variable{X:Cx}
end
theorem KTgetI{H:Hp}{ag:List (List Key×V)}{xs:List (List Key×Addr×Value)}(r:KT H ag xs):∀{j:Nat} {q:List Key×Addr×Value},xs[j]? = some q->∃v,ag[j]? = some (q.1,v)/\H q.2.1=some (.tup (q.1.map kV)):=by
 induction r with
 | nil=>intro j q e;simp at e
 | @cons p q' ps qs h t ih=>
  intro j q e;cases j with
  | zero=>
   simp only[List.getElem?_cons_zero,Option.some.injEq]at e;subst e;exact⟨p.2,by rw[<-h.1];rfl,by rw[<-h.1];exact h.2.1⟩
  | succ j=>
   simp only[gJ]at e ⊢;exact ih e
def Keyed(H:Hp)(ys:List V)(zs:List (List Key×V)):Prop:=ys.length=zs.length/\∀(i:Nat) (y:V) (p:List Key×V),ys[i]? = some y->zs[i]? = some p->∃(b:Addr) (ns:List Int),y=.ref b/\H b=some (.tup (ns.map V.int))/\p.1=ik ns
theorem BW{α:Type}(l:List α)(d:α):(List.range l.length).map (λi=>l.getD i d)=l:=by
 apply List.ext_getElem
 ·simp
 ·intro i h1 h2;simp at h1;simp [h1]
end LwD
namespace L2
open PySem PySem.Spec PyProof.Rows
section
variable{prog:Program}{w:World}{A:Around}{E:Value->Shared->Prop}{s:Shared}
theorem YN{it t:Addr}{k:Nat}{its:Array Value}{v:Value}{Q:Value->Shared->Prop}(st:s.heap.IsTupleIter it t k)(tu:s.heap.IsTuple t its)(hv:its[k]? = some v)
  (q:∀g,g.IsTupleIter it t (k+1)->Heap.SameBut it s.heap g->Q v { s with heap:=g }):wpAny (model prog w) A (Builtin.SmallTypes.nextOf (.ref it)) Q E s:=by
 obtain⟨oi,gi,ci,di⟩:=id st;obtain⟨ot,gt,_,nt,dt⟩:=tu;unfold Builtin.SmallTypes.nextOf;refine tS (wpAny_callSpecial?_slot (name:=Str.ofString "__next__") st.typeIs F.slot_tuple_iterator_next (wpAny_call_entry F.slot_tuple_iterator_next st.typeIs F.entry_tuple_iterator_next ?_ (F.args_tuple_iterator_next_1 _)));show wpAny _ _ (field (.ref it) 0 >>= _) _ _ _;refine tS (wpAny_field gi di (x:=.ref t) rfl ?_);show wpAny _ _ (if (Value.ref t==Value.none)=true then _ else _) _ _ _;rw[tV (show ¬(Value.ref t==Value.none)=true from hZ)];show wpAny _ _ (field (.ref it) 1 >>= _) _ _ _;refine tS (wpAny_field gi di (x:=.int k 0) rfl ?_);show wpAny _ _ (seqItems? (.ref t) >>= _) _ _ _;refine tS (wpAny_seqItems gt dt ?_);simp only[mP,hv];refine tS (wpAny_setField gi di (by simp) (tT ⟨v,rfl,tT (q _ ⟨_,Heap.get?_update_self _ gi (Obj.isFreed_of_fields (Obj.data_mapFields di _)),(Obj.cls_mapFields ..).trans ci,by rw[Obj.data_mapFields di];simp [rawInt]⟩ (Heap.SameBut.update ..))⟩))
structure ZT(z TI TO i1 i2 l1 l2:Addr)(k:Nat)(h:Heap):Prop where
 zz:IsZip h z TI TO .none
 ti:IsPair h TI (.ref i1) (.ref i2)
 to:∃a b,IsPair h TO a b
 one:h.IsTupleIter i1 l1 k
 two:h.IsTupleIter i2 l2 k
theorem IsTupleIter.as{h h':Heap}{a t:Addr}{k:Nat}(x:h.IsTupleIter a t k)(f:∀o,h.get? a=some o->h'.get? a=some o):h'.IsTupleIter a t k:=let ⟨o,ho,r⟩:=x;⟨o,f o ho,r⟩
variable{z TI TO i1 i2 l1 l2:Addr}{k:Nat}{xs ys:Array Value}
theorem zipT_item{x y:Value}{Q:Option Value->Shared->Prop}(D:ZipApart z TI TO i1 i2 l1 l2)(Z:ZT z TI TO i1 i2 l1 l2 k s.heap)(t1:s.heap.IsTuple l1 xs)(t2:s.heap.IsTuple l2 ys)(hx:xs[k]? = some x)(hy:ys[k]? = some y)
  (q:∀g,IsZip g z TI TO (rawInt s.heap.objs.size)->IsPair g TO x y->g.IsTupleIter i1 l1 (k+1)->g.IsTupleIter i2 l2 (k+1)->IsPair g s.heap.objs.size x y->
   (∀c o,c∉[z,TO,i1,i2]->s.heap.get? c=some o->g.get? c=some o)->Q (some (.ref s.heap.objs.size)) { s with heap:=g }):wpAny (model prog w) A (pyNext (.ref z)) Q E s:=by
 obtain⟨hz,hti,⟨a,b,hto⟩,s1,s2⟩:=Z;have T:s.TypeIs (.ref z) "zip":=⟨_,hz,rfl⟩;unfold pyNext;refine tS (wpAny_attempt (wpAny_callSpecial?_slot (name:=Str.ofString "__next__") T F.slot_zip_next (wpAny_call_entry F.slot_zip_next T F.entry_zip_next ?_ (F.args_zip_next_1 _))));show wpAny _ _ (field (.ref z) 2 >>= _) _ _ _;refine tS (wpAny_field hz rfl (x:=.bool false) rfl ?_);show wpAny _ _ (field (.ref z) 3 >>= _) _ _ _;refine tS (wpAny_field hz rfl (x:=.ref TI) rfl (tS (wpAny_seqItems hti rfl ?_)));show wpAny _ _ (Builtin.SmallTypes.ownedTupleIsFree (.ref z) >>= _) _ _ _;refine tS ?_;unfold Builtin.SmallTypes.ownedTupleIsFree;refine tS (wpAny_field hz rfl (x:=.none) rfl (tT ?_));simp only[if_true];refine tS (wpAny_rule (tS (wpAny_field hz rfl (x:=.ref TO) rfl (tS (wpAny_setField_rec hz (by simp) λg1 z1 b1=>?_)))))
 replace z1:IsZip g1 z TI TO .ellipsis:=z1
 refine tS ?_;simp only[List.zipIdx_cons,List.zipIdx_nil,List.forIn_cons,List.forIn_nil];refine tS (tS (wpAny_onRaise ?_));show wpAny _ _ (Builtin.SmallTypes.nextOf (.ref i1) >>= _) _ _ _;refine tS (YN (s1.extBut b1.extBut D.i1z) (t1.extBut b1.extBut D.l1z) hx λg2 n2 b2=>tT ?_);have o2:IsPair g2 TO a b:=b2.extBut _ _ D.TOi1 (b1.extBut _ _ D.TOz hto);refine tS (wpAny_seqItems o2 rfl (tS (wpAny_updateSeq_pair o2 λg3 o3 b3=>?_)))
 replace o3:IsPair g3 TO x b:=o3
 refine tS (wpAny_letGo (tT (tS (tS (wpAny_onRaise ?_)))));show wpAny _ _ (Builtin.SmallTypes.nextOf (.ref i2) >>= _) _ _ _;refine tS (YN (((s2.extBut b1.extBut D.i2z).extBut b2.extBut D.i12.symm).extBut b3.extBut D.TOi2.symm) (((t2.extBut b1.extBut D.l2z).extBut b2.extBut D.l2i1).extBut b3.extBut D.l2TO) hy λg4 n4 b4=>tT ?_);have o4:IsPair g4 TO x b:=b4.extBut _ _ D.TOi2 o3;refine tS (wpAny_seqItems o4 rfl (tS (wpAny_updateSeq_pair o4 λg5 o5 b5=>?_)))
 replace o5:IsPair g5 TO x y:=o5
 refine tS (wpAny_letGo (tT (tT (tS (wpAny_seqItems o5 rfl (tS (wpAny_newTuple ?_)))))));have sz:g5.objs.size=s.heap.objs.size:=by rw[b5.1,b4.1,b3.1,b2.1,b1.1]
 have z5:IsZip g5 z TI TO .ellipsis:=b5.extBut _ _ D.TOz.symm (b4.extBut _ _ D.i2z.symm (b3.extBut _ _ D.TOz.symm (b2.extBut _ _ D.i1z.symm z1)));have k5:∀c o,c∉[z,TO,i1,i2]->s.heap.get? c=some o->g5.get? c=some o:=λc o hc e=>by
  simp only[nP,not_or]at hc;exact b5.extBut _ _ hc.2.1 (b4.extBut _ _ hc.2.2.2.1 (b3.extBut _ _ hc.2.1 (b2.extBut _ _ hc.2.2.1 (b1.extBut _ _ hc.1 e))))
 have n5:g5.IsTupleIter i1 l1 (k+1):=((n2.extBut b3.extBut D.TOi1.symm).extBut b4.extBut D.i12).extBut b5.extBut D.TOi1.symm;have m5:g5.IsTupleIter i2 l2 (k+1):=n4.extBut b5.extBut D.TOi2.symm;have zl:z<g5.objs.size:=nX z5;show wpAny _ _ (Builtin.SmallTypes.ownedTupleHandOut (.ref z) (.ref g5.objs.size) >>= _) _ _ _;refine tS ?_;unfold Builtin.SmallTypes.ownedTupleHandOut;have z6:IsZip (g5.push { cls:=.type "tuple",data:=.seq #[x,y] }) z TI TO .ellipsis:=gK _ z5;refine tS (wpAny_setField_rec z6 (by simp) λg7 z7 b7=>?_)
 replace z7:IsZip g7 z TI TO (rawInt g5.objs.size):=z7
 refine wpAny_setField_rec z7 (by simp) λg8 z8 b8=>?_
 replace z8:IsZip g8 z TI TO (rawInt g5.objs.size):=z8
 have up:∀c o,c≠z->g5.get? c=some o->g8.get? c=some o:=λc o cz e=>b8.extBut _ _ cz (b7.extBut _ _ cz (gK _ e));have nu:IsPair g8 g5.objs.size x y:=b8.extBut _ _ (Nat.ne_of_gt zl) (b7.extBut _ _ (Nat.ne_of_gt zl) (gZ _ rfl));rw[sz]at z8 nu;refine tT ⟨_,rfl,tT ?_⟩;show Q (some (.ref g5.objs.size)) _;rw[sz];exact q g8 z8 (up _ _ D.TOz o5) (IsTupleIter.as n5 λo e=>up _ o D.i1z e) (IsTupleIter.as m5 λo e=>up _ o D.i2z e) nu λc o hc e=>up c o (λh=>hc (by simp [h])) (k5 c o hc e)
end
section
variable{X:Cx}{ac:List (Addr×Obj)}{σ:St}{H:Hp}{s:Shared}{h':Heap}
theorem Inv.turnedL{t':Nat}{fp:List Addr}(I:Inv X ac σ H s)(hf:∀b∈fp,FpOk X ac H b)(k:∀b o,b∉fp->s.heap.get? b=some o->h'.get? b=some o):Inv X ac σ H { s with heap:=h',toks:=t' } :=by
 have nit:∀b u,H b=some u->b∉fp:=λb u e z=>by rw[(hf b z).1]at e;cases e
 refine I.step (g':=s.gens) (d':=s.drawn) (ch:=fp) (λb hb=>⟨(hf b hb).2.2.2.1,(hf b hb).2.1,(hf b hb).2.2.2.2.1,(hf b hb).2.2.2.2.2⟩) (λb o _ _ hc e _=>k b o hc e) (λb o _ _ hc e _=>⟨o.slots,k b o hc e⟩) (λ_ _ _ _ n=>n)
  (λb o hc e=>⟨o,k b o hc e⟩) (λ_ _ e=>e) (λ_ _ _ e=>e) (λb ps e=>⟨#[],by rw[e];simp⟩) (λm ⟨o,es,ep,ho,r⟩=>⟨o,es,ep,k _ o (λz=>(hf _ z).2.1 rfl) ho,r⟩) (λb u e=>?_) I.bare
 refine(I.hok b u e).stay (λc v hc q=>k c v ?_ q) (λ_ q=>q) λ_ _ q=>q;rcases hc with z | z
 ·rw[z];exact nit b u e
 ·exact nit c _ z
end
structure Five(z TI TO i1 i2:Addr):Prop where
 nd:[z,TI,TO,i1,i2].Nodup
theorem Five.of{z TI TO i1 i2 l1 l2:Addr}(F:Five z TI TO i1 i2)(h1:∀b∈[z,TI,TO,i1,i2],l1≠b)(h2:∀b∈[z,TI,TO,i1,i2],l2≠b):ZipApart z TI TO i1 i2 l1 l2:=by
 have nd:=F.nd;simp only[List.nodup_cons,nP,not_or,mR]at nd;obtain⟨⟨a1,a2,a3,a4,_⟩,⟨b1,b2,b3,_⟩,⟨c1,c2,_⟩,⟨d1,_⟩,_⟩:=nd;exact⟨Ne.symm a1,Ne.symm a2,Ne.symm a3,Ne.symm a4,b1,b2,b3,c1,c2,d1,h1 _ (by simp),h1 _ (by simp),h1 _ (by simp),h1 _ (by simp),h2 _ (by simp),h2 _ (by simp),h2 _ (by simp),h2 _ (by simp)⟩
section
variable{X:Cx}
end
end L2
namespace HT
open PySem PySem.Spec PyProof.Rows
section
variable{prog:Program}{w:World}{A:Around}{E:Value->Shared->Prop}{s:Shared}
end
end HT
namespace L2
open PySem PySem.Spec PyProof.Rows
section
variable{X:Cx}
end
end L2
namespace LwMx
open PySem PySem.Spec PyProof.Rows L2 Lw
section
variable{prog:Program}{w:World}{A:Around}{R:Result->Shared->Prop}{J:Addr}{fp wr:List Addr}{n:Nat}{Pv:Nat->Value->Prop}{St:Nat->Heap->Prop}
theorem FJ:(toString "max"++toString ".loop" :String)="max.loop":=by decide
theorem SS(Wk:Walks prog w A.in1 J fp wr n Pv St)(gt:Nat->Nat->Bool)(cmp:CmpOf prog w A.in1 .Gt Pv gt)(B:Addr)(out:B∉fp)(kws:List (Str×Value)) :
  ∀(k j:Nat) (s:Shared) (x:Value) (c:Nat),n-(j+1)=k->j+1<=n->St (j+1) s.heap->Pv (argBest gt j) x->
  s.heap.get? B=some { cls:=.type "list",dict:=none,data:=.seq #[x,x] c,slots:=#[] }->
  (∀y h' tk,Pv (argBest gt (n-1)) y->(∀b o,b∉wr->b≠B->s.heap.get? b=some o->h'.get? b=some o)->R (.ok (.ret y)) { s with heap:=h',toks:=tk })->
  codeAny (model prog w) A (.builtin "max.loop" ⟨[.ref J,.none,.ref B],kws⟩) R s:=by
 have outw:B∉wr:=λz=>out (Wk.sub _ z);intro k;induction k with
 | zero=>
  intro j s x c hk hj st px hB hR;have jn:j+1=n:=by omega
  refine codeAny_builtin PySem.F.entry_max_loop ?_;rw[Around.under_plainId PySem.F.plain_max_loop _];show wpAny _ A.in1 (seqItems? (.ref B) >>= _) _ _ s;refine tS (wpAny_seqItems hB rfl ?_);show wpAny _ A.in1 (tryCatch (pyNext (.ref J)) _ >>= _) _ _ s;refine tS (wpAny_tryCatch (Wk.done s _ _ (jn▸st) λh1 t1 k1=>?_));have hB1:=k1 B _ outw hB;show wpAny _ A.in1 (updateSeq B (λ_=>#[]) >>= _) _ _ _;refine tS (wpAny_updateSeq hB1 rfl (tS (wpAny_letGo (tT ?_))));exact hR x _ t1 (by rw[<-jn];exact px) λb o n1 n2 e=>(Heap.get?_update_other _ _ (Ne.symm n2)).trans (k1 b o n1 e)
 | succ k ih=>
  intro j s x c hk hj st px hB hR;have jn:j+1<n:=by omega
  refine codeAny_builtin PySem.F.entry_max_loop ?_;rw[Around.under_plainId PySem.F.plain_max_loop _];show wpAny _ A.in1 (seqItems? (.ref B) >>= _) _ _ s;refine tS (wpAny_seqItems hB rfl ?_);show wpAny _ A.in1 (tryCatch (pyNext (.ref J)) _ >>= _) _ _ s;refine tS (wpAny_tryCatch (Wk.item (j+1) s _ _ jn st λy h1 t1 py st1 k1=>?_));have hB1:=k1 B _ outw hB;show wpAny _ A.in1 (tryCatch (holding [y,y] (richCompare .Gt y x >>= _)) _ >>= _) _ _ _;refine tS (wpAny_tryCatch (wpAny_holding (tS (cmp (j+1) (argBest gt j) y x _ _ _ py px ?_))));refine tS (wpAny_holding (wpAny_truthy_bool (tS (wpAny_letGo (tT ?_)))));cases hb:gt (j+1) (argBest gt j)with
  | true=>
   simp only[if_true];refine tS (wpAny_updateSeq hB1 rfl (tS (wpAny_letGo ?_)));rw[FJ];refine tT ⟨plainId_quiet PySem.F.plain_max_loop _,ih (j+1) _ y _ (by omega) jn (Wk.frame _ _ _ st1 λb hb' o e=>?_) (by simp only[argBest,hb,if_true];exact py) (Heap.get?_update_self _ hB1 rfl) λy' h2 t2 p2 k2=>?_⟩
   ·exact(Heap.get?_update_other _ _ (λz:B=b=>out (by rw[z];exact hb'))).trans e
   ·exact hR y' h2 t2 p2 λb o n1 n2 e=>k2 b o n1 n2 ((Heap.get?_update_other _ _ (Ne.symm n2)).trans (k1 b o n1 e))
  | false=>
   simp only[Bool.false_eq_true,if_false];refine tS (wpAny_letGo ?_);rw[FJ];refine tT ⟨plainId_quiet PySem.F.plain_max_loop _,ih (j+1) _ x c (by omega) jn st1 (by simp only[argBest,hb,Bool.false_eq_true,if_false];exact px) hB1 λy' h2 t2 p2 k2=>?_⟩;exact hR y' h2 t2 p2 λb o n1 n2 e=>k2 b o n1 n2 (k1 b o n1 e)
theorem ST(Wk:Walks prog w A.in1 J fp wr n Pv St)(gt:Nat->Nat->Bool)(cmp:CmpOf prog w A.in1 .Gt Pv gt)(B:Addr)(out:B∉fp)(d:Value){s:Shared}{c:Nat}(st:St 0 s.heap)
  (hB:s.heap.get? B=some { cls:=.type "list",dict:=none,data:=.seq #[] c,slots:=#[] })
  (h0:n=0->∀h' tk,(∀b o,b∉wr->b≠B->s.heap.get? b=some o->h'.get? b=some o)->R (.ok (.ret d)) { s with heap:=h',toks:=tk })
  (hR:0<n->∀y h' tk,Pv (argBest gt (n-1)) y->(∀b o,b∉wr->b≠B->s.heap.get? b=some o->h'.get? b=some o)->R (.ok (.ret y)) { s with heap:=h',toks:=tk }) :
  codeAny (model prog w) A (.builtin "max.loop" ⟨[.ref J,.none,.ref B],[("default",d)]⟩) R s:=by
 have outw:B∉wr:=λz=>out (Wk.sub _ z);refine codeAny_builtin PySem.F.entry_max_loop ?_;rw[Around.under_plainId PySem.F.plain_max_loop _];show wpAny _ A.in1 (seqItems? (.ref B) >>= _) _ _ s;refine tS (wpAny_seqItems hB rfl ?_);show wpAny _ A.in1 (tryCatch (pyNext (.ref J)) _ >>= _) _ _ s;by_cases hn:0<n
 ·refine tS (wpAny_tryCatch (Wk.item 0 s _ _ hn st λy h1 t1 py st1 k1=>?_));have hB1:=k1 B _ outw hB;show wpAny _ A.in1 (updateSeq B (λ_=>#[y,y]) >>= _) _ _ _;refine tS (wpAny_updateSeq hB1 rfl ?_);rw[FJ];refine tT ⟨plainId_quiet PySem.F.plain_max_loop _,SS Wk gt cmp B out _ _ 0 _ y _ rfl hn (Wk.frame _ _ _ st1 λb hb' o e=>?_) py (Heap.get?_update_self _ hB1 rfl) λy' h2 t2 p2 k2=>?_⟩
  ·exact(Heap.get?_update_other _ _ (λz:B=b=>out (by rw[z];exact hb'))).trans e
  ·exact hR hn y' h2 t2 p2 λb o n1 n2 e=>k2 b o n1 n2 ((Heap.get?_update_other _ _ (Ne.symm n2)).trans (k1 b o n1 e))
 ·have z:n=0:=by omega
  subst z;refine tS (wpAny_tryCatch (Wk.done s _ _ st λh1 t1 k1=>?_));refine tS (wpAny_rule (tT ?_));exact h0 rfl _ t1 λb o n1 n2 e=>k1 b o n1 e
end
theorem WW(a v:Value):argsOk "max" ⟨[a],[(Str.ofString "default",v)]⟩:=by unfold argsOk;kernel_rfl
section
variable{prog:Program}{w:World}{A:Around}{E:Value->Shared->Prop}{s:Shared}
theorem WV{x d:Value}{Q:Value->Shared->Prop}
  (h:wpAny (model prog w) A.in1 (pyIter x) (λit s₂=>∃J fp wr n Pv St gt,it=.ref J/\Walks prog w A.in1 J fp wr n Pv St/\St 0 s₂.heap/\(∀b∈fp,b<s₂.heap.objs.size)/\CmpOf prog w A.in1 .Gt Pv gt/\
   (n=0->∀h' tk,(∀b o,b∉wr->s₂.heap.get? b=some o->h'.get? b=some o)->Q d { s₂ with heap:=h',toks:=tk })/\
   (0<n->∀v h' tk,Pv (argBest gt (n-1)) v->(∀b o,b∉wr->s₂.heap.get? b=some o->h'.get? b=some o)->Q v { s₂ with heap:=h',toks:=tk })) E s) :
  wpAny (model prog w) A (call (.builtin "max") [x] [(Str.ofString "default",d)]) Q E s:=by
 refine kmb_tree PySem.F.kind_max PySem.F.plain_max PySem.F.entry_max (WW _ _) ?_;show wpAny _ A.in1 (Builtin.Builtins.bindParams "max" ["key","default"] 0 ⟨[],[(Str.ofString "default",d)]⟩ >>= _) _ _ s;refine tS (wpAny_of_eq (show Builtin.Builtins.bindParams "max" ["key","default"] 0 ⟨[],[(Str.ofString "default",d)]⟩=pure [none,some d]from rfl) ?_);refine tS (tT (tS (tU h (λit s₂ h₂=>?_) λ_ _ e=>e)));obtain⟨J,fp,wr,n,Pv,St,gt,rfl,Wk,st,lt,cmp,q0,q1⟩:=h₂;refine tS (wpAny_newObj_type ?_);have out:s₂.heap.objs.size∉fp:=λz=>nQ _ (lt _ z);rw[FJ];have up:∀(h':Heap),(∀b o,b∉wr->b≠s₂.heap.objs.size->(s₂.heap.push { cls:=.type "list",data:=.seq ([]:List Value).toArray }).get? b=some o->h'.get? b=some o)->∀b o,b∉wr->s₂.heap.get? b=some o->h'.get? b=some o:=λh' k b o n1 e=>
  k b o n1 (nZ (nX e)) (gK _ e)
 refine tT ⟨plainId_quiet PySem.F.plain_max_loop _,ST Wk gt cmp s₂.heap.objs.size out d (Wk.frame _ _ _ st λb _ o e=>gK _ e) (gZ _ rfl) (λz h' tk k=>q0 z h' tk (up h' k)) λz v h' tk p k=>q1 z v h' tk p (up h' k)⟩
end
theorem NJ(ns:List Int):∀k,k<ns.length->(argBest (λi j=>decide (ns.getD i 0>ns.getD j 0)) k)<=k/\∀j,j<=k->ns.getD j 0<=ns.getD (argBest (λi j=>decide (ns.getD i 0>ns.getD j 0)) k) 0
 | 0,_=>⟨tL _,λj hj=>by have:j=0:=(by omega);subst this;exact tQ _⟩
 | k+1,h=>by
  obtain⟨h1,h2⟩:=NJ ns k (by omega);simp only[argBest];split
  ·rename_i hb;have hb:=mL hb;refine⟨tL _,λj hj=>?_⟩;rcases Nat.lt_or_ge j (k+1)with z | z
   ·have:=h2 j (by omega);omega
   ·have:j=k+1:=by omega
    subst this;exact tQ _
  ·rename_i hb;refine⟨by omega,λj hj=>?_⟩;rcases Nat.lt_or_ge j (k+1)with z | z
   ·exact h2 j (by omega)
   ·have e:j=k+1:=by omega
    have:¬ns.getD (k+1) 0>ns.getD (argBest (λi j=>decide (ns.getD i 0>ns.getD j 0)) k) 0:=λy=>hb (nG y);rw[e];omega
section
variable{X:Cx}
def rMaxD(d:Int):List V->Hp->VK->Prop:=λxs H Q=>∃(l:Addr) (ns:List Int),xs=[.ref l]/\H l=some (.lst (ns.map V.int))/\(ns=[]->Q (.int d) H)/\∀m,m∈ns->(∀x∈ns,x<=m)->Q (.int m) H
theorem PZ{ac:List (Addr×Obj)}{σ:L2.St}{H:Hp}{s:Shared}{l:Addr}{ns:List Int}{d:Int}{t:Tok}{Q:VK}(hc:X.calm=true)(I:Inv X ac σ H s)(hl:H l=some (.lst (ns.map V.int)))
  (q0:ns=[]->Q (.int d) H) (q1:∀m,m∈ns->(∀x∈ns,x<=m)->Q (.int m) H):wpAny (model X.prog X.w) X.A (call (.builtin "max") [.ref l] [(Str.ofString "default",.int d t)]) (EP X ac σ Q) X.xe s:=by
 obtain⟨its,rv,p,_⟩:=I.list (SqL.of hl);have i1:IntsAre its ns:=yQ rv;have il:=zJ i1;have ha:l<s.heap.objs.size:=by
  obtain⟨o,_,e,_⟩:=p;exact nX e
 have p':s.heap.IsList l its.toArray:=by
  obtain⟨o,n,e,e2,_,e3⟩:=p;exact⟨o,e,e2,⟨n,e3⟩⟩
 refine WV (wpAny_pyIter_list p' ?_);refine⟨s.heap.objs.size,_,_,_,_,_,λi j=>decide (ns.getD i 0>ns.getD j 0),rfl,Walks.list (show X.A.in1.handled=none from I.ok.hd hc) s.heap.objs.size l (nZ ha) its.toArray,⟨⟨_,gZ _ rfl,rfl,rfl⟩,p'.push _⟩, ?_, ?_, ?_, ?_⟩
 ·intro b hb;show b<(s.heap.push _).objs.size;rw[nN];simp only[nP,mR,or_false]at hb;rcases hb with rfl | rfl
  ·exact mW _
  ·exact Nat.lt_succ_of_lt ha
 ·refine CmpOf.ints_gt (λi=>ns.getD i 0) λi v hv=>?_;have hv':its[i]? = some v:=by simpa using hv
  obtain⟨hi,e⟩:=gE.mp hv';obtain⟨n,t,e1,e2⟩:=wU i1 hi;exact⟨t,by rw[<-e,e2,gA,e1];rfl⟩
 ·intro z h' tk k;have z':ns=[]:=by
   have:its.length=0:=by simpa using z
   exact List.length_eq_zero_iff.mp (by omega)
  refine⟨.int d,H,I.kept (t':=tk) (λb o e=>k b o ?_ (gK _ e)),⟨t,rfl⟩,q0 z'⟩;simp;exact nZ (nX e)
 ·intro z v h' tk hv k;have z':0<ns.length:=by
   have:0<its.length:=by simpa using z
   omega
  have sz:its.toArray.size=ns.length:=by rw[mI,il]
  rw[sz]at hv;obtain⟨b1,b2⟩:=NJ ns (ns.length-1) (by omega);generalize argBest (λi j=>decide (ns.getD i 0>ns.getD j 0)) (ns.length-1)=i at hv b1 b2;have hv':its[i]? = some v:=by simpa using hv
  obtain⟨hi,e⟩:=gE.mp hv';obtain⟨n,t,e1,e2⟩:=wU i1 hi;have en:ns.getD i 0=n:=by rw[gA,e1];rfl
  refine⟨.int n,H,I.kept (t':=tk) (λb o e=>k b o ?_ (gK _ e)),⟨t,by rw[<-e,e2]⟩,q1 n (gS e1) λx hx=>?_⟩
  ·simp;exact nZ (nX e)
  ·obtain⟨j,hj⟩:=gQ.mp hx;have hjl:=(gE.mp hj).1;have:=b2 j (by omega);rw[en,gA,hj]at this;exact this
variable{p pos kpos:Pos}{e e2:Expr}{es:List Expr}{t tk:TA}
def tMaxD(t tk:TA):TE:=fun σ H Q=>t σ H λvs H1=>tk σ H1 λzs H2=>∃d,zs=[.int d]/\rMaxD d vs H2 Q
theorem pe_maxD(hc:X.calm=true)(hg:Gl X "max")(hm:X.mg "max" = none)(ha:PA X [e] t)(hk:PK X [⟨some "default",e2,kpos⟩] tk)
  (hall:(backToKw pos (keywordEach [⟨some "default",e2,kpos⟩] X.env)).all (·.1.isSome)=true:=by rfl) (hks:(backToKw pos (keywordEach [⟨some "default",e2,kpos⟩] X.env)).filterMap (·.1)=[Str.ofString "default"]:=by rfl)
  (he:starEach [e] X.env=[(false,eval e X.env)]:=by rfl)
  (hpl:((backTo pos (starEach [e] X.env)).any (·.1)||(backToKw pos (keywordEach [⟨some "default",e2,kpos⟩] X.env)).any (·.1.isNone))=false:=by rfl) :
  PE X (.Call (.Name "max" p) [e] [⟨some "default",e2,kpos⟩] pos) (tMaxD t tk):=by
 intro ac s σ H Q I h;refine wpAny_Call_Name_kw (yA I hg hm (show bootBuiltins "max" = some (.builtin "max") by decide +kernel) ?_ (by decide) (by decide));refine PySem.W.callWith_of (P:=λ_=>True) hpl (λ_ _=>⟨_,.inr (.inl rfl),PySem.W.Looks.of_pure rfl⟩) (evalArgs_kw2 hall (thn (ha pos ac s σ H _ I h) λus s1 ⟨vs,H1,I1,r,q⟩=>?_) he);refine thn (hk pos ac s1 σ H1 _ I1 q) λws s2 ⟨zs,H2,I2,rz,q2⟩=>⟨trivial, ?_⟩;rw[hks];obtain⟨d,rfl,l,ns,rfl,hl,q0,q1⟩:=q2;obtain⟨u,rfl,ru⟩:=xK r;cases ru;obtain⟨u,rfl,⟨t,rfl⟩⟩:=xK rz;exact PZ hc I2 hl q0 q1
end
end LwMx
namespace L2
open PySem PySem.Spec PyProof.Rows
section
variable{prog:Program}{w:World}{A:Around}{E:Value->Shared->Prop}{s:Shared}
structure ZU(z TI TO i1 i2 l1 l2:Addr)(k:Nat)(h:Heap):Prop where
 zz:IsZip h z TI TO .none
 ti:IsPair h TI (.ref i1) (.ref i2)
 to:∃a b,IsPair h TO a b
 one:h.IsTupleIter i1 l1 k
 two:h.IsListIter i2 l2 k
variable{z TI TO i1 i2 l1 l2:Addr}{k:Nat}{xs ys:Array Value}
end
section
variable{X:Cx}{ac:List (Addr×Obj)}{σ:St}{H:Hp}{s:Shared}{h':Heap}
theorem FpOk.apartL{a b:Addr}{xs:List V}(I:Inv X ac σ H s)(f:FpOk X ac H b)(h:SqL X.K H a xs):a≠b:=by
 rintro rfl;rcases h with(h | ⟨o,h⟩) | ⟨o,its,n,hk,hc,hs,hz,r⟩
 ·rw[f.1]at h;cases h
 ·rw[f.1]at h;cases h
 ·have hb:X.base.get? a=some o:=I.ok.mod.kin a o hk;rcases f.2.2.2.1 with z | z
  ·exact I.ok.noex a o hb z
  ·exact absurd (mB (nX hb) (nY I.ok.bsz z)) (nQ _)
end
section
variable{X:Cx}
end
section
open AutoSeq1 (wpAny_loadPart')
end
section
variable{prog:Program}{w:World}{A:Around}{E:Value->Shared->Prop}{s:Shared}
end
section
variable{X:Cx}
end
end L2
namespace LwD
open PySem PySem.Spec PyProof.Rows L2 Lw
section
variable{X:Cx}
end
section
variable{X:Cx}{ac:List (Addr×Obj)}{σ:L2.St}{H:Hp}{s:Shared}
end
section
variable{X:Cx}
end
section
variable{X:Cx}
end
section
variable{X:Cx}
def CDivP(i j:Int):Prop:=0<j/\Builtin.divisionGoesByPylong i j=false
theorem HS:OpR X (binaryOp .FloorDiv) (rI CDivP λi j=>.int (i/j)):=opI λi j _ _ _ _ _ hc q=>by
 refine floordiv_int (by have:=hc.1;omega) ?_ (.inl hc.2);rw[Int.fdiv_eq_ediv_of_nonneg _ (Int.le_of_lt hc.1)];exact q
theorem IV{i j:Int}(h:CDivL i j):CDivP i j:=⟨h.1,PyProof.noPylong_of_log2 (mB (LwM.log2_lt (by decide) h.2) (by decide))⟩
theorem CD{i j:Int}{m:Nat}(hj:0<j)(hm:m<=13400)(hi:i.natAbs<2^m):CDivP i j:=by
 refine⟨hj, ?_⟩;by_cases h9:j.natAbs.log2<9000
 ·exact PyProof.noPylong_of_log2 h9
 ·show(decide ((if j==0 then 0 else j.natAbs.log2/30+1)>300)&&decide ((if i==0 then 0 else i.natAbs.log2/30+1)>(if j==0 then 0 else j.natAbs.log2/30+1)+150))=false;rw[Bool.and_eq_false_iff]
  right
  refine nA ?_;have j0:(j==0)=false:=by
   rw[beq_eq_false_iff_ne];omega
  rw[j0];simp only[Bool.false_eq_true,if_false];have:i.natAbs.log2<13440:=by
   by_cases z:i.natAbs=0
   ·rw[z];decide +kernel
   ·exact(Nat.log2_lt z).mpr (mB hi (gU (by decide) (by omega)))
  split<;>omega
end
end LwD
namespace LwD
open PySem PySem.W PySem.Spec PyProof.Rows
def TruT{α:Type}(lt:Nat->Nat->Bool)(n:Nat):KasT α->(α->Prop)->Prop
 | .ret a,P=>P a
 | .ask i j k,P=>i<n/\j<n/\TruT lt n (k (lt i j)) P
theorem TruT.bind{α β:Type}{lt:Nat->Nat->Bool}{n:Nat}{f:α->KasT β}{P:α->Prop}{R:β->Prop} :∀{t:KasT α},TruT lt n t P->(∀a,P a->TruT lt n (f a) R)->TruT lt n (t.bind f) R
 | .ret a,h,g=>g a h
 | .ask _ _ _,h,g=>⟨h.1,h.2.1,TruT.bind h.2.2 g⟩
theorem TruT.mono{α:Type}{lt:Nat->Nat->Bool}{n:Nat}{P R:α->Prop}(g:∀a,P a->R a):∀{t:KasT α},TruT lt n t P->TruT lt n t R
 | .ret a,h=>g a h
 | .ask _ _ _,h=>⟨h.1,h.2.1,TruT.mono g h.2.2⟩
structure Strict(lt:Nat->Nat->Bool)(n:Nat):Prop where
 tr:∀a b c,lt a b=true->lt b c=true->lt a c=true
 as:∀a b,lt a b=true->lt b a=false
 tot:∀a b,a<n->b<n->a≠b->lt a b=false->lt b a=true
def Up(lt:Nat->Nat->Bool)(p:Array Nat)(m:Nat):Prop:=∀a b,a<b->b<m->lt (p.getD a 0) (p.getD b 0)=true
def Dn(lt:Nat->Nat->Bool)(p:Array Nat)(m:Nat):Prop:=∀a b,a<b->b<m->lt (p.getD b 0) (p.getD a 0)=true
theorem Pm.ne{n:Nat}{p:Array Nat}(h:Pm n p){a b:Nat}(hab:a<b)(hb:b<n):p.getD a 0≠p.getD b 0:=by
 have sz:=h.size;have nd:p.toList.Nodup:=h.nodup_iff.mpr List.nodup_range;have ha':a<p.toList.length:=by simp [sz];omega
 have hb':b<p.toList.length:=by simp [sz];omega
 intro e;have e1:p.toList[a]=p.toList[b]:=by
  have h1:p.getD a 0=p.toList[a]:=by simp [Array.getD,show a<p.size by omega]
  have h2:p.getD b 0=p.toList[b]:=by simp [Array.getD,show b<p.size by omega]
  rw[<-h1,<-h2,e]
 have:=(List.getElem_inj nd).mp e1;omega
section
variable{lt:Nat->Nat->Bool}{n:Nat}
theorem Up.snoc(O:Strict lt n){p:Array Nat}{m:Nat}(u:Up lt p m)(h:0<m->lt (p.getD (m-1) 0) (p.getD m 0)=true):Up lt p (m+1):=by
 intro a b hab hb;by_cases hbm:b<m
 ·exact u a b hab hbm
 ·have:b=m:=by omega
  subst this;by_cases ha:a=b-1
  ·rw[ha];exact h (by omega)
  ·exact O.tr _ _ _ (u a (b-1) (by omega) (by omega)) (h (by omega))
theorem Dn.snoc(O:Strict lt n){p:Array Nat}{m:Nat}(u:Dn lt p m)(h:0<m->lt (p.getD m 0) (p.getD (m-1) 0)=true):Dn lt p (m+1):=by
 intro a b hab hb;by_cases hbm:b<m
 ·exact u a b hab hbm
 ·have:b=m:=by omega
  subst this;by_cases ha:a=b-1
  ·rw[ha];exact h (by omega)
  ·exact O.tr _ _ _ (h (by omega)) (u a (b-1) (by omega) (by omega))
theorem EM(O:Strict lt n){p:Array Nat}(h:Pm n p)(hn:0<n):∀(f k:Nat),1<=k->k+f=n->Up lt p k->TruT lt n (kas_asc p f k) λm=>k<=m/\m<=n/\Up lt p m/\(m<n->lt (p.getD m 0) (p.getD (m-1) 0)=true)
 | 0,k,h1,h2,u=>⟨tL _,by omega,u,λz=>by omega⟩
 | f+1,k,h1,h2,u=>by
  refine⟨h.lt hn,h.lt hn, ?_⟩;cases hb:lt (p.getD k 0) (p.getD (k-1) 0)with
  | true=>exact⟨tL _,by omega,u,λ_=>hb⟩
  | false=>
   have up:Up lt p (k+1):=u.snoc O λ_=>O.tot _ _ (h.lt hn) (h.lt hn) (Ne.symm (h.ne (by omega) (by omega))) hb;refine(EM O h hn f (k+1) (by omega) (by omega) up).mono λm hm=>⟨by omega,hm.2⟩
theorem HB(O:Strict lt n)(hn:0<n){p:Array Nat}(h:Pm n p):∀(f k:Nat),1<=k->k+f=n->Dn lt p k->TruT lt n (kas_desc f p k 0) λr=>r.1=p/\r.2.2=0/\k<=r.2.1/\r.2.1<=n/\Dn lt p r.2.1
 | 0,k,_,h2,d=>⟨rfl,rfl,tL _,(show k<=n by omega),d⟩
 | f+1,k,h1,h2,d=>by
  refine⟨h.lt hn,h.lt hn, ?_⟩;cases hb:lt (p.getD k 0) (p.getD (k-1) 0)with
  | true=>
   have dn:Dn lt p (k+1):=d.snoc O λ_=>hb;exact(HB O hn h f (k+1) (by omega) (by omega) dn).mono λr hr=>⟨hr.1,hr.2.1,by omega,hr.2.2.2⟩
  | false=>
   refine⟨h.lt hn,h.lt hn, ?_⟩;have:lt (p.getD (k-1) 0) (p.getD k 0)=true:=O.tot _ _ (h.lt hn) (h.lt hn) (Ne.symm (h.ne (by omega) (by omega))) hb;rw[this];exact⟨rfl,rfl,tL _,(show k<=n by omega),d⟩
theorem getD_of?{p:Array Nat}{i:Nat}{q:Array Nat}{j:Nat}(h:p[i]? = q[j]?):p.getD i 0=q.getD j 0:=by
 rw[Array.getD_eq_getD_getElem?,Array.getD_eq_getD_getElem?,h]
theorem ZG{p:Array Nat}(sz:p.size=n){k:Nat}(hk:k<=n)(d:Dn lt p k):Up lt (kas_rev p 0 k) k:=by
 intro a b hab hb;have e:∀c,c<k->(kas_rev p 0 k).getD c 0=p.getD (k-1-c) 0:=λc hc=>by
  refine getD_of? ?_;unfold kas_rev;rw[getElem?_mirror_all (by omega),tW ⟨tM _,hc⟩,Nat.zero_add]
 rw[e a (by omega),e b hb];exact d (k-1-b) (k-1-a) (by omega) (by omega)
theorem NU(O:Strict lt n)(hn:0<n):TruT lt n (kas_count n (List.toArray (List.range n))) λr=>Pm n r.2/\1<=r.1/\r.1<=n/\Up lt r.2 r.1:=by
 have h:Pm n (List.toArray (List.range n)):=by unfold Pm;simp
 generalize List.toArray (List.range n)=p at h;have u1:Up lt p 1:=λa b h1 h2=>by omega
 refine(EM O h hn (n-1) 1 (by omega) (by omega) u1).bind λm hm=>?_;obtain⟨m1,m2,um,hlt⟩:=hm;by_cases e:m=n
 ·rw[tW (by simp [e])];exact⟨h,m1,m2,um⟩
 ·rw[tV (by simp [e])];by_cases m3:m>1
  ·rw[tW m3];refine⟨h.lt hn,h.lt hn, ?_⟩;rw[um 0 (m-1) (by omega) (by omega)];exact⟨h,m1,m2,um⟩
  ·rw[tV m3];have m4:m=1:=by omega
   subst m4;have d2:Dn lt p 2:=by
    intro a b hab hb;have hl:=hlt (by omega);have:a=0/\b=1:=by omega
    rw[this.1,this.2];exact hl
   unfold kas_descPart;refine(HB O hn h (n-(1+1)) (1+1) (by omega) (by omega) d2).bind λr hr=>?_;obtain⟨r1,r2,r3,r4,r5⟩:=hr;rw[tV (by rw[r2];decide),r1];unfold kas_tail3;have hv:Pm n (kas_rev p 0 r.2.1):=h.rev _ _;refine(EM O hv hn (n-r.2.1) r.2.1 (by omega) (by omega) (ZG h.size r4 r5)).bind λk hk=>?_;exact⟨hv,by omega,hk.2.1,hk.2.2.1⟩
theorem uA(O:Strict lt n)(hn:0<n){p:Array Nat}(h:Pm n p){k:Nat}(hk:k<n)(u:Up lt p k):∀(f l r:Nat),l<=r->r<=k->r-l<=f->(∀a,a<l->lt (p.getD a 0) (p.getD k 0)=true)->(∀a,r<=a->a<k->lt (p.getD k 0) (p.getD a 0)=true)->
  TruT lt n (kas_place p k f l r) λx=>x<=k/\(∀a,a<x->lt (p.getD a 0) (p.getD k 0)=true)/\∀a,x<=a->a<k->lt (p.getD k 0) (p.getD a 0)=true
 | 0,l,r,h1,h2,h3,hl,hr=>⟨by omega,hl,λa ha=>hr a (by omega)⟩
 | f+1,l,r,h1,h2,h3,hl,hr=>by
  show TruT lt n (if l ≥ r then _ else _) _;split
  ·exact⟨by omega,hl,λa ha=>hr a (by omega)⟩
  ·refine⟨h.lt hn,h.lt hn, ?_⟩;have mk:(l+r)/2<k:=by omega
   cases hb:lt (p.getD k 0) (p.getD ((l+r)/2) 0)with
   | true=>
    refine uA O hn h hk u f l ((l+r)/2) (by omega) (by omega) (by omega) hl λa ha hak=>?_;by_cases e:a=(l+r)/2
    ·rw[e];exact hb
    ·exact O.tr _ _ _ hb (u _ _ (by omega) hak)
   | false=>
    have hm:lt (p.getD ((l+r)/2) 0) (p.getD k 0)=true:=O.tot _ _ (h.lt hn) (h.lt hn) (Ne.symm (h.ne mk hk)) hb;refine uA O hn h hk u f ((l+r)/2+1) r (by omega) h2 (by omega) (λa ha=>?_) hr;by_cases e:a=(l+r)/2
    ·rw[e];exact hm
    ·exact O.tr _ _ _ (u a _ (by omega) mk) hm
theorem bub_up{p:Array Nat}(sz:p.size=n){k l:Nat}(hk:k<n)(hl:l<=k)(u:Up lt p k)(h1:∀a,a<l->lt (p.getD a 0) (p.getD k 0)=true)(h2:∀a,l<=a->a<k->lt (p.getD k 0) (p.getD a 0)=true):Up lt (bubble p k (k-l)) (k+1):=by
 have e:∀c,(bubble p k (k-l)).getD c 0=if c=l then p.getD k 0 else if l<c/\c<=k then p.getD (c-1) 0 else p.getD c 0:=λc=>by
  have:=getElem?_bubble (xs:=p) (src:=k) (by omega) (k-l) (by omega) c;have z:k-(k-l)=l:=by omega
  rw[z]at this;split
  ·rename_i hc;rw[tW hc]at this;exact getD_of? this
  ·rename_i hc;rw[tV hc]at this;split
   ·rename_i hc2;rw[tW hc2]at this;exact getD_of? this
   ·rename_i hc2;rw[tV hc2]at this;exact getD_of? this
 intro a b hab hb;rw[e a,e b];by_cases a1:a=l
 ·rw[tW a1,tV (by omega),tW ⟨by omega,by omega⟩];exact h2 _ (by omega) (by omega)
 ·rw[tV a1];by_cases a2:l<a/\a<=k
  ·rw[tW a2,tV (by omega),tW ⟨by omega,by omega⟩];exact u _ _ (by omega) (by omega)
  ·rw[tV a2];by_cases b1:b=l
   ·rw[tW b1];exact h1 a (by omega)
   ·rw[tV b1];by_cases b2:l<b/\b<=k
    ·rw[tW b2];by_cases ab:a=b-1
     ·omega
     ·exact u _ _ (by omega) (by omega)
    ·rw[tV b2];exact u _ _ hab (by omega)
theorem LC(O:Strict lt n)(hn:0<n):∀(f:Nat) {p:Array Nat} (_:Pm n p) (k:Nat),k+f=n->Up lt p k->TruT lt n (kas_bin f p k) λq=>Pm n q/\Up lt q n
 | 0,p,h,k,hk,u=>⟨h,by have:k=n:=(by omega);rw[<-this];exact u⟩
 | f+1,p,h,k,hk,u=>by
  refine(uA O hn h (by omega) u k 0 k (tM _) uV (by omega) (λa ha=>by omega) (λa h1 h2=>by omega)).bind λl hl=>?_;exact LC O hn f (h.bub _ _) (k+1) (by omega) (bub_up h.size (by omega) hl.1 u hl.2.1 hl.2.2)
theorem QN(O:Strict lt n)(hn:0<n):TruT lt n (kas_sort n) λq=>Pm n q/\Up lt q n:=by
 refine(NU O hn).bind λr hr=>?_;obtain⟨h1,h2,h3,h4⟩:=hr;split
 ·rw[show max r.1 1=r.1 by omega];exact LC O hn _ h1 _ (by omega) h4
 ·have:r.1=n:=by omega
  exact⟨h1,this▸h4⟩
theorem QI{α:Type}{cmp:Nat->Nat->(Bool->Shared->Prop)->Shared->Prop}{s:Shared}(hc:∀i j C,i<n->j<n->C (lt i j) s->cmp i j C s){P:α->Prop}{Q:α->Shared->Prop}(hq:∀a,P a->Q a s):∀{t:KasT α},TruT lt n t P->t.kasWp cmp Q s
 | .ret a,h=>hq a h
 | .ask i j k,h=>hc i j _ h.1 h.2.1 (QI hc hq h.2.2)
end
end LwD
namespace LwD
open PySem PySem.Spec PyProof.Rows L2 Lw
def vJ:List Int->List Int->Bool
 | x::xs,y::ys=>if x=y then vJ xs ys else decide (x<y)
 | [],_::_=>true
 | _,[]=>false
theorem MO:∀a b c:List Int,vJ a b=true->vJ b c=true->vJ a c=true
 | [],[],_,h,_=>by simp [vJ]at h
 | [],_::_,[],_,h=>by simp [vJ]at h
 | [],_::_,_::_,_,_=>by simp [vJ]
 | _::_,[],_,h,_=>by simp [vJ]at h
 | _::_,_::_,[],_,h=>by simp [vJ]at h
 | x::xs,y::ys,z::zs,h1,h2=>by
  have ih:=MO xs ys zs;simp only[vJ]at h1 h2 ⊢;by_cases e1:x=y
  ·subst e1;rw[tW rfl]at h1;by_cases e2:x=z
   ·rw[tW e2]at h2 ⊢;exact ih h1 h2
   ·rw[tV e2]at h2 ⊢;exact h2
  ·rw[tV e1]at h1;have h1:=mL h1;by_cases e2:y=z
   ·subst e2;rw[tV e1];exact nG h1
   ·rw[tV e2]at h2;have h2:=mL h2;rw[tV (by omega)];exact nG (by omega)
theorem MP:∀a b:List Int,vJ a b=true->vJ b a=false
 | [],[],h=>by simp [vJ]at h
 | [],_::_,_=>by simp [vJ]
 | _::_,[],h=>by simp [vJ]at h
 | x::xs,y::ys,h=>by
  have ih:=MP xs ys;simp only[vJ]at h ⊢;by_cases e1:x=y
  ·subst e1;rw[tW rfl]at h ⊢;exact ih h
  ·rw[tV e1]at h;have h:=mL h;rw[tV (by omega)];exact nA (by omega)
theorem IB:∀a b:List Int,a≠b->vJ a b=false->vJ b a=true
 | [],[],n,_=>absurd rfl n
 | [],_::_,_,h=>by simp [vJ]at h
 | _::_,[],_,_=>by simp [vJ]
 | x::xs,y::ys,n,h=>by
  have ih:=IB xs ys;simp only[vJ]at h ⊢;by_cases e1:x=y
  ·subst e1;rw[tW rfl]at h ⊢;exact ih (λz=>n (by rw[z])) h
  ·rw[tV e1]at h;have h:=of_decide_eq_false h;rw[tV (by omega)];exact nG (by omega)
def FL(fin:Bool):List Int->List Int->Bool
 | x::xs,y::ys=>if x=y then FL fin xs ys else decide (x<y)
 | _,_=>fin
theorem MQ:∀a b:List Int,FL (decide (a.length<b.length)) a b=vJ a b
 | [],[]=>rfl
 | [],_::_=>by simp [FL,vJ]
 | _::_,[]=>by simp [FL,vJ]
 | x::xs,y::ys=>by
  have ih:=MQ xs ys;simp only[FL,vJ,mT,Nat.add_lt_add_iff_right];rw[ih]
def yH(k:List Key):List Int:=k.filterMap fun | .inl i=>some i | .inr _=>none
theorem TK(ns:List Int):yH (ik ns)=ns:=by
 unfold yH ik;induction ns with
 | nil=>rfl
 | cons n r ih=>simp [ih]
theorem KTkeys{H:Hp}{ag:List (List Key×V)}{xs:List (List Key×Addr×Value)}(r:KT H ag xs):ag.map (·.1)=xs.map (·.1):=by
 induction r with
 | nil=>rfl
 | cons h _ ih=>rw[nO,nO,ih,h.1]
section
variable{prog:Program}{w:World}{A:Around}{E:Value->Shared->Prop}{s:Shared}
theorem IA{b fin:Bool}{Q:Bool->Shared->Prop} :∀{as bs:List Value} {xs ys:List Int} (_:IntsAre as xs) (_:IntsAre bs ys) (_:Q (FL fin xs ys) s) (i:Nat),PySem.W.KatLex prog w A b fin Q (as.zip bs) i s
 | _,_,_,_,.nil,_,h,_=>by
  rw[List.zip_nil_left];exact PySem.W.kat_nil (by simpa [FL]using h)
 | _,_,_,_,.cons _ _ _,.nil,h,_=>by
  rw[List.zip_nil_right];exact PySem.W.kat_nil (by simpa [FL]using h)
 | _,_,_,_,.cons n t r,.cons m u r2,h,i=>by
  rw[List.zip_cons_cons];simp only[FL]at h;refine PySem.W.kat_cons (SeqAt.EqAt.int_int _ _ _ _ prog w _ _ ?_);refine PySem.W.kat_go (λe=>PySem.W.kat_yes (IA r r2 (by rwa [tW (by simpa using e)]at h) (i+1))) λe=>PySem.W.kat_no ?_;rw[tV (by simpa using e)]at h;cases hb:(b&&i==0)with
  | true=>exact oneLt_int h
  | false=>exact PySem.W.kat_one _ _ (lt_int h)
end
section
variable{X:Cx}
def rSortS:List V->Hp->VK->Prop:=λxs H Q=>∃(a:Addr) (ag:List (List Key×V)),xs=[.ref a]/\Rd H a (.dT ag)/\ag.length<64/\(∀p∈ag,∃ns:List Int,p.1=ik ns/\ns≠[])/\
 ∀(ys:List V) (zs:List (List Key×V)),zs.Perm ag->Keyed H ys zs->zs.Pairwise (λp q=>vJ (yH p.1) (yH q.1)=true)->New H (.lst ys) Q
theorem KW(hc:X.calm=true):CallR X (.builtin "sorted") rSortS:=by
 intro ac s σ H xs us Q I r h;obtain⟨a,ag,rfl,ha,h64,hk,q⟩:=h;obtain⟨u,rfl,ru⟩:=xK r;cases ru;obtain⟨z,lo,ks,rel,dd⟩:=xZ I.hok ha;obtain⟨o,es,ep,hd1,hd2,hd3,he,his,hn⟩:=id dd;have raw:Raw s.heap a es ep:=⟨o,hd1,hd2,hd3⟩;have esz:es.size=ag.length:=by rw[size_of_entries he,<-Paired.length rel]
 obtain⟨m,F⟩:=I.fr;have kn:(ag.map (·.1)).Nodup:=by rw[KTkeys rel];exact hn
 have itup:∀(j:Nat) (h:j<es.size),∃(b:Addr) (ns:List Int) (v:V),es[j].key=.ref b/\H b=some (.tup (ns.map V.int))/\ag[j]? = some (ik ns,v)/\ns≠[]:=λj hj=>by
  have e1:=entry_at he j;rw[Array.getElem?_eq_getElem hj]at e1;cases e2:ks[j]? with
  | none=>rw[e2]at e1;cases e1
  | some x=>
   rw[e2]at e1;have e3:es[j]=entryOfKey _ x:=Option.some.inj e1;obtain⟨v,m1,m2⟩:=KTgetI rel e2;obtain⟨ns,n1,n2⟩:=hk _ (gS m1);dsimp only at n1;rw[n1]at m1 m2;rw[wK]at m2;exact⟨x.2.1,ns,v,by rw[e3];rfl,m2,m1,n2⟩
 refine PySem.W.kdu_sorted (VR lo) (I.ok.hd hc) F SO raw (by rw[esz];exact z) λD h' tk vs F' N' lt hlen hP=>?_;have vtup:∀(j:Nat) (hj:j<vs.length),∃(b:Addr) (ns:List Int) (v:V),vs[j]=.ref b/\H b=some (.tup (ns.map V.int))/\ag[j]? = some (ik ns,v)/\ns≠[]:=λj hj=>by
  obtain⟨h1,h2⟩:=hP j vs[j] (by simp [hj]);rw[h2];exact itup j h1
 have vl:vs.length=ag.length:=by rw[hlen,esz]
 have kvI:∀(j:Nat) (ns:List Int) (v:V),ag[j]? = some (ik ns,v)->yH (ag.getD j ([],.non)).1=ns:=λj ns v e=>by rw[gA,e];exact TK ns
 have O:Strict (λi j=>vJ (yH (ag.getD i ([],.non)).1) (yH (ag.getD j ([],.non)).1)) vs.length:=by
  refine⟨λa b c=>MO _ _ _,λa b=>MP _ _,λa b ha hb hab hf=>?_⟩;obtain⟨_,ns,v,_,_,e3,_⟩:=vtup a ha;obtain⟨_,ms,v',_,_,e3',_⟩:=vtup b hb;rw[kvI _ _ _ e3,kvI _ _ _ e3']at hf;show vJ (yH (ag.getD b ([],.non)).1) (yH (ag.getD a ([],.non)).1)=true;rw[kvI _ _ _ e3,kvI _ _ _ e3'];refine IB _ _ (λz=>hab ?_) hf;have i1:(ag.map (·.1))[a]? = some (ik ns):=by rw[mH,e3];rfl
  have i2:(ag.map (·.1))[b]? = some (ik ns):=by rw[mH,e3',z];rfl
  exact(List.getElem?_inj (by rw[mY];omega) kn).mp (i1.trans i2.symm)
 have fin:∀(idx:List Nat) (h3:Heap) (c tk3:Nat),idx.Perm (List.range ag.length)->idx.Pairwise (λi j=>vJ (yH (ag.getD i ([],.non)).1) (yH (ag.getD j ([],.non)).1)=true)->Fr X.base X.env.locals h3 m->News X.base X.env.locals h3 ((D,PySem.W.listOf (idx.map λi=>vs.getD i Value.none).toArray c)::yT X.base s.heap X.env.locals)->
   EP X ac σ Q (.ref D) { s with heap:=h3,toks:=tk3 } :=λidx h3 c tk3 pm pw F3 N3=>by
  have il:idx.length=ag.length:=by rw[pm.length_eq,mM]
  have im:∀i∈idx,i<ag.length:=λi hi=>nI.mp (pm.mem_iff.mp hi);have tr:∀js:List Nat,(∀i∈js,i<ag.length)->∃ys:List V,Vals ys (js.map λi=>vs.getD i Value.none)/\Keyed H ys (js.map λi=>ag.getD i ([],.non)):=by
   intro js;induction js with
   | nil=>exact λ_=>⟨[],.nil,rfl,λi y p e=>by simp at e⟩
   | cons j js ih=>
    intro hj;obtain⟨ys,r1,r2,r3⟩:=ih λi hi=>hj i (gT _ hi);have hj1:=hj j (mF ..);obtain⟨b,ns,x,e1,e2,e3,_⟩:=vtup j (by rw[vl];exact hj1);refine⟨.ref b::ys, ?_,by simp [r2],λi y p ey ep=>?_⟩
    ·rw[nO];refine .cons ?_ r1;rw[gA,gG (by rw[vl];exact hj1),e1]
     rfl
    ·cases i with
     | zero=>
      simp only[nO,List.getElem?_cons_zero,Option.some.injEq]at ey ep;rw[gA,e3]at ep;subst ey;subst ep;exact⟨b,ns,rfl,e2,rfl⟩
     | succ i=>
      simp only[nO,gJ]at ey ep;exact r3 i y p ey ep
  obtain⟨ys,rv,hy⟩:=tr idx im;have yl:ys.length=ag.length:=by rw[hy.1,mY];exact il
  have nb:=HW (ho:=.lst ys) (tk:=tk3) I F F3 N3 lt λe=>⟨by rw[yl];exact z,_,c,rv,e⟩;have pz:(idx.map λi=>ag.getD i ([],.non)).Perm ag:=by
   have:=pm.map λi=>ag.getD i ([],V.non);rw[BW]at this;exact this
  exact⟨.ref D,_,nb.2,rfl,(q ys _ pz hy (List.pairwise_map.mpr pw)).at nb.1⟩
 have nD:=N' (D,PySem.W.listOf vs.toArray 0) (mF ..);by_cases h2:vs.length<2
 ·refine JN (n:=0) nD.1 h2 ?_;obtain⟨c,hat⟩:=sortedHeap_at (vs:=vs) (n:=0) (out:=vs.toArray) nD.1;have old:∀b u,b≠D->h'.get? b=some u->(sortedHeap h' D vs vs.toArray).get? b=some u:=λb u hb e=>by
   rw[sortedHeap_old hb (nX e)];exact e
  have er:(List.range ag.length).map (λi=>vs.getD i Value.none)=vs:=by rw[<-vl];exact BW vs _
  refine fin (List.range ag.length) _ c tk (List.Perm.refl _) (by
   rw[<-vl];have:vs.length=0∨vs.length=1:=by omega
   rcases this with z | z<;>rw[z]<;>simp) ⟨?_,λb u e=>old b u (λy=>by rw[y,nD.2.2]at e;cases e) (F'.keep b u e),F'.above⟩ (λp hp=>?_)
  ·obtain⟨ob,es',ep',e1,e2⟩:=F'.ns;exact⟨ob,es',ep',old _ _ (Ne.symm nD.2.1) e1,e2⟩
  ·rw[er]at hp;rcases nP.mp hp with rfl | hp
   ·exact⟨hat,nD.2⟩
   ·have y:=N' p (gT _ hp);exact⟨old _ _ (nZ (lt p hp)) y.1,y.2⟩
 ·have hd:∀q∈yT X.base s.heap X.env.locals,q.1≠D:=λq hq=>nZ (lt q hq);refine PySem.W.kat_lsort (vs:=vs) (its:=vs.toArray) F' N' (.head hd) rfl (by omega) (by omega) λe1 h4 F4 N4=>?_;have in4:∀b xs,H b=some (.tup xs)->∃its:List Value,Vals xs its/\IsTup h4 b its.toArray:=λb xs e=>by
   obtain⟨_,its,rv,⟨ob,ho,hc2⟩,_⟩:=(show ObjOk X.prog X.w H s.heap b (.tup xs)from I.hok b _ e);refine⟨its,rv,ob, ?_,hc2⟩;cases y:X.base.get? b with
   | some u=>
    have y2:=I.bk b u y;rw[ho]at y2;cases y2;exact F4.keep b _ y
   | none=>exact(N4 (b,ob) (gT _ (zI (λy2=>by rw[y2,I.free]at e;cases e) y ho))).1
  have tups:∀l:List Value,(∀v∈l,v∈vs)->∃fs:List Value,PySem.W.KatTups h4 l fs/\fs.length=l.length/\∀f∈fs,∃n t,f=Value.int n t:=by
   intro l;induction l with
   | nil=>exact λ_=>⟨[],.nil,rfl,λ_ y=>nomatch y⟩
   | cons v r ih=>
    intro hm;obtain⟨fs,t1,t2,t3⟩:=ih λv' hv'=>hm v' (gT _ hv');obtain⟨j,hj,ev⟩:=List.getElem_of_mem (hm v (mF ..));obtain⟨b,ns,x,g1,g2,g3,g4⟩:=vtup j hj;obtain⟨its,rv,ob,ho,hc2,nn,hdt⟩:=in4 b _ g2
    match ns,g4,rv with
    | n::nr,_,.cons (b:=iv) (l₂:=ir) rr rt=>
     obtain⟨tt,rfl⟩:=rr;rw[<-ev,g1];exact⟨.int n tt::fs,.cons ho hc2 hdt (by simp) t1,by simp [t2],λf hf=>(nP.mp hf).elim (λy=>⟨n,tt,y⟩) (t3 f)⟩
  obtain⟨fs,t1,t2,t3⟩:=tups vs λ_ y=>y;refine PySem.W.kat_kind (T:=.type "int") t1 (by omega) (λf hf=>?_) (by decide) ?_
  ·obtain⟨n,t,rfl⟩:=t3 f hf;exact PySem.W.Looks.of_pure rfl
  ·refine QI (n:=vs.length) (P:=λq=>Pm vs.length q/\Up (λi j=>vJ (yH (ag.getD i ([],.non)).1) (yH (ag.getD j ([],.non)).1)) q vs.length) (λi j C hi hj hC=>?_) (λp hp=>?_) (QN O (by omega))
   ·obtain⟨b,ns,x,g1,g2,g3,_⟩:=vtup i hi;obtain⟨b',ns',x',g1',g2',g3',_⟩:=vtup j hj;obtain⟨its,rv,ob,ho,hc2,nn,hdt⟩:=in4 b _ g2;obtain⟨its',rv',ob',ho',hc2',nn',hdt'⟩:=in4 b' _ g2';unfold PySem.W.kas_ask;rw[show vs.getD i Value.none=.ref b by rw[gA,gG hi,g1];rfl,show vs.getD j Value.none=.ref b' by rw[gA,gG hj,g1'];rfl];rw[kvI _ _ _ g3,kvI _ _ _ g3']at hC;have i1:=yQ rv;have i2:=yQ rv';refine PySem.W.kat_lt ho hdt ho' hdt' (IA i1 i2 ?_ 0);rw[mI,mI,zJ i1,zJ i2,MQ];exact hC
   ·refine PySem.W.KasFin.intro F4 N4 (.head hd) λh5 c F5 N5=>fin p.toList h5 c tk ?_ ?_ F5 N5
    ·rw[<-vl];exact hp.1
    ·have sz:=hp.1.size;refine List.pairwise_iff_getElem.mpr λa b ha hb hab=>?_;have ha':a<p.size:=by simpa using ha
     have hb':b<p.size:=by simpa using hb
     have:=hp.2 a b hab (by omega);simpa [Array.getD,ha',hb']using this
end
section
variable{prog:Program}{w:World}{A:Around}{E:Value->Shared->Prop}{h:Heap}{g:Array GenState}{d:Drawn}{t:Nat}{os:OsState}{a:Addr}{o:Obj}
end
section
variable{prog:Program}{w:World}{A:Around}{E:Value->Shared->Prop}
abbrev tkd(prog:Program)(w:World):=tupleKind (qD prog w)
end
section
variable{prog:Program}{w:World}{A:Around}{E:Value->Shared->Prop}{s:Shared}
end
section
variable{X:Cx}
end
section
variable{prog:Program}{w:World}{A:Around}{E:Value->Shared->Prop}{s:Shared}
theorem BX{α:Type}(f:α->Int):∀(l:List α),(l.map f).Nodup->∀e∈l,(l.filter λx=>f x==f e).length<=1
 | [],_,e,he=>nomatch he
 | a::l,hn,e,he=>by
  rw[nO,List.nodup_cons]at hn;by_cases z:f a=f e
  ·have:(l.filter λx=>f x==f e)=[]:=by
    rw[List.filter_eq_nil_iff];intro x hx;simp only[beq_iff_eq];exact λy=>hn.1 (z▸y▸tD.mpr ⟨x,hx,rfl⟩)
   rw[mX,this];split<;>simp
  ·rw[mX,tV (by simpa using z)];rcases nP.mp he with rfl | he
   ·exact absurd rfl z
   ·exact BX f l hn.2 e he
theorem KG{nm:String}{d o:Addr}{xs:List (List Key×Addr×Value)}{Q:Unit->Shared->Prop}(hdo:d≠o)(hoS:(o==sysModules)=false)(hd:s.heap.DictOfH (tkd prog w) d [])(ho:s.heap.DictOfH (tkd prog w) o xs)
  (hh:(xs.map λx=>(tkd prog w).hash x.1).Nodup) (hz:xs.length<=sizeLine) (hQ:∀h',h'.DictOfH (tkd prog w) d xs->Heap.SameBut d s.heap h'->Q () { s with heap:=h' }):wpAny (model prog w) A (Builtin.Dict.mergeDict nm d o) Q E s:=by
 obtain⟨od,esd,epd,hod,hcd,hdd,hed,hid,hnd⟩:=id hd;obtain⟨oo,eso,epo,hoo,hco,hdo',heo,hio,hno⟩:=id ho;have d0:esd = #[]:=by simpa using hed
 subst d0;have lz:eso.size=xs.length:=size_of_entries heo;unfold Builtin.Dict.mergeDict;rw[tV (by simpa using hdo)];unfold Builtin.Dict.showsAll;rw[tV (by rw[hoS];exact hZ)];refine tS (tT ?_);refine tS (wpAny_dictEntries hoo hdo' ?_);dsimp only;by_cases he:xs=[]
 ·subst he;have e0:eso = #[]:=by simpa using heo
  subst e0;rw[tV (by simp)];refine tS (wpAny_dictEpoch hoo hdo' ?_);refine tS (wpAny_dictEntries hoo hdo' ?_);refine tS ?_;rw[Std.Legacy.Range.forIn_eq_forIn_range'];refine tT ?_;exact tT (hQ s.heap hd (Heap.SameBut.refl _ _))
 ·have few:(decide (eso.size<=8)&&eso.all λe=>(keyPart e.key).isSome)=false:=by
   obtain⟨x,r,rfl⟩:∃x r,xs=x::r:=by cases xs with | nil=>exact absurd rfl he | cons x r=>exact⟨x,r,rfl⟩
   have:eso.all (λe=>(keyPart e.key).isSome)=false:=by
    rw[<-Array.all_toList,heo]
    rfl
   rw[this,Bool.and_false]
  rw[few,tW (by decide)];refine tS (wpAny_dictEntries hod hdd ?_);rw[tW (by decide)];refine tS ?_;unfold Builtin.Dict.entriesForEmpty;refine tS (wpAny_dictEntries hoo hdo' ?_);have body:∀e∈eso.toList,∀(s':Shared),s'=s->∀{Q':ForInStep PUnit->Shared->Prop},Q' (.yield PUnit.unit) s'->wpAny (model prog w) A (do
   let q<-Builtin.Dict.quietEq e.key
   if (!q)=true then
    if (eso.filter (·.hash==e.hash)).size>1 then(do let _<-(unsupported s!"{nm}:keys-of-equal-hash" :Sem PUnit);pure (ForInStep.yield PUnit.unit))else pure (ForInStep.yield PUnit.unit)
   else pure (ForInStep.yield PUnit.unit):Sem (ForInStep PUnit)) Q' E s':=by
   rintro e hm s' rfl Q' hq;have hm':=hm;rw[heo]at hm;obtain⟨x,hx,rfl⟩:=tD.mp hm;refine tS ?_;show wpAny _ _ (Builtin.Dict.quietEq (.ref x.2.1)) _ _ _;unfold Builtin.Dict.quietEq;refine tS (wpAny_specialOf (hio x hx).typeIs F.slot_tuple_eq.lookup (tT ?_));rw[tW (by decide),tV ?_]
   ·exact tT hq
   ·have:=BX (λe:DictEntry=>e.hash) eso.toList (by rw[heo,tJ];exact hh) _ hm';rw[<-Array.toList_filter,Array.length_toList]at this;exact Nat.not_lt.mpr this
  refine tS ?_;rw[<-Array.forIn_toList];refine wpAny_forIn_list _ (λrest _ s'=>s'=s/\∃pre,eso.toList=pre++rest) _ ?_ ?_ _ _ ⟨rfl,[],rfl⟩
  ·rintro e rest b s' ⟨rfl,pre,hp⟩;refine body e (by rw[hp];simp) _ rfl ?_;exact⟨rfl,pre++[e],by rw[hp];simp⟩
  ·rintro b s' ⟨rfl,_⟩;refine tT ?_;rw[tW (by
    have:eso≠#[]:=λz=>he (List.length_eq_zero_iff.mp (by rw[<-lz,z];rfl));simpa using this)]
   refine tS (wpAny_updateDictKeysTo hod hdd (tT (hQ _ ⟨_,_,epd+1,Heap.get?_update_self _ hod (Obj.isFreed_of_dict (Obj.data_mapDictKeys hdd _)),hcd.mapDictKeys _,Obj.data_mapDictKeys hdd _,heo,λx hx=>?_,hno⟩ (Heap.SameBut.update ..))) (by omega));exact(tkd prog w).keeps (hio x hx) hod hdd (Heap.SameBut.update ..)
theorem PR{o:Addr}{xs:List (List Key×Addr×Value)}{Q:Value->Shared->Prop}(hoS:(o==sysModules)=false)(ho:s.heap.DictOfH (tkd prog w) o xs)(hh:(xs.map λx=>(tkd prog w).hash x.1).Nodup)(hz:xs.length<=sizeLine)
  (h:∀h',h'.DictOfH (tkd prog w) s.heap.objs.size xs->(∀b u,s.heap.get? b=some u->h'.get? b=some u)->Q (.ref s.heap.objs.size) { s with heap:=h' }) :
  wpAny (model prog w) A (call (.type "dict") [.ref o]) Q E s:=by
 refine callType_codes (Q₁:=λobj s₁=>obj=.ref s.heap.objs.size/\s₁ = { s with heap:=s.heap.push { cls:=.type "dict",data:=.dict #[] } }) F.kt_called_dict (F.kt_typeCall_dict_1 _) F.entry_dict_init (kt_code_dict_new _ ⟨rfl,rfl⟩) ?_;rintro obj s₁ ⟨rfl,rfl⟩;have hnew:(s.heap.push { cls:=.type "dict",data:=.dict #[] }).DictOfH (tkd prog w) s.heap.objs.size []:=⟨_,#[],0,gZ _ rfl,⟨rfl,rfl,rfl⟩,rfl,rfl,(λx hx=>nomatch hx),List.nodup_nil⟩;have ho':(s.heap.push { cls:=.type "dict",data:=.dict #[] }).DictOfH (tkd prog w) o xs:=by
  obtain⟨oo,es,ep,g1,g2,g3,g4,g5,g6⟩:=ho;exact⟨oo,es,ep,gK _ g1,g2,g3,g4,λx hx=>let ⟨q,its,n,i1,i2⟩:=g5 x hx;⟨q,its,n,gK _ i1,i2⟩,g6⟩
 have hdo:s.heap.objs.size≠o:=by
  obtain⟨_,_,_,hg,_⟩:=ho;exact λe=>absurd (nX hg) (by rw[e];exact nQ _)
 have ty:∀{h1:Heap} {a:Addr} {ys:List (List Key×Addr×Value)},h1.DictOfH (tkd prog w) a ys->(⟨h1,s.gens,s.drawn,s.toks,s.os⟩:Shared).TypeIs (.ref a) "dict":=λD=>let ⟨q,_,_,g1,g2,_⟩:=D;⟨q,g1,g2.1⟩;refine⟨ty hnew,F.args_dict_init_2 _ _, ?_⟩;unfold Builtin.«dict.__init__»;refine tS ?_;unfold Builtin.Dict.selfAndRest;refine tS (wpAny_notOrdered_dict (ty hnew) ?_);show wpAny _ _ (pure (s.heap.objs.size,[Value.ref o])) _ _ _;refine tT ?_;show wpAny _ _ (Builtin.Dict.updateFrom "dict.__init__" s.heap.objs.size (.ref o) [] .none) _ _ _;unfold Builtin.Dict.updateFrom;refine tS (wpAny_typeOf (ty ho') ?_);rw[tV (by decide)];refine tS ?_;unfold Builtin.Dict.merge;refine tS ?_;unfold Builtin.Dict.readDirectly;refine tS (wpAny_isInstance (ty ho') isSubtype_dict_dict ?_);simp only[Bool.not_true,Bool.false_eq_true,if_false];refine tS (wpAny_specialOf (ty ho') F.slot_dict_iter.lookup (tT ?_));simp only[beq_self_eq_true,if_true];refine tS (tT ?_);refine KG hdo hoS hnew ho' hh hz λh' hd' hs'=>?_;show wpAny _ _ (Builtin.Dict.addKeywords s.heap.objs.size [] >>= _) _ _ _;refine tS (tT (tT ⟨rfl,h h' hd' λb u e=>?_⟩));exact(hs'.2 b (nZ (nX e))).trans (gK _ e)
end
section
variable{X:Cx}
end
def QD:Nat->Nat->List (List Int)
 | 0,_=>[[]]
 | m+1,s=>(List.range (s+1)).flatMap λi=>(QD m (s-i)).map λr=>(i:Int)::r
theorem CH:∀(m s:Nat) (ns:List Int),ns.length=m->(∀n∈ns,0<=n)->ns.sum<=s->ns∈QD m s
 | 0,_,ns,h,_,_=>by rw[List.length_eq_zero_iff.mp h];exact mC.mpr rfl
 | m+1,s,[],h,_,_=>by cases h
 | m+1,s,n::r,h,hp,hs=>by
  have hn:=hp n (mF ..);obtain⟨i,rfl⟩:=gI hn;have hr:0<=r.sum:=by
   have:∀l:List Int,(∀x∈l,0<=x)->0<=l.sum:=λl=>by
    induction l with
    | nil=>exact λ_=>tQ _
    | cons a l ih=>
     intro h;have h1:=h a (mF ..);have h2:=ih λx hx=>h x (gT _ hx);rw[nU];omega
   exact this r λx hx=>hp x (gT _ hx)
  rw[nU]at hs;have hi:i<=s:=by omega
  refine List.mem_flatMap.mpr ⟨i,nI.mpr (by omega),tD.mpr ⟨r, ?_,rfl⟩⟩;exact CH m (s-i) r (by simpa using h) (λx hx=>hp x (gT _ hx)) (by omega)
def hT(ns:List Int):Int:=reduceHash (Builtin.Tuple.tupleHashOf (ns.map hashInt))
theorem hT1:((QD 1 8).map hT).Nodup:=by decide +kernel
theorem hT2:((QD 2 8).map hT).Nodup:=by decide +kernel
theorem hT3:((QD 3 8).map hT).Nodup:=by decide +kernel
theorem hT4:((QD 4 8).map hT).Nodup:=by decide +kernel
structure PwS(aa:Nat)(ns:List Int):Prop where
 len:ns.length=aa
 nn:∀n∈ns,0<=n
 deg:ns.sum<=8
theorem yG{α β:Type}{f:α->β} :∀{l:List α},(l.map f).Nodup->∀{a b:α},a∈l->b∈l->f a=f b->a=b
 | [],_,_,_,h,_,_=>nomatch h
 | x::r,hn,a,b,ha,hb,e=>by
  rw[nO,List.nodup_cons]at hn;rcases nP.mp ha with ea | ka
  ·rcases nP.mp hb with eb | kb
   ·rw[ea,eb]
   ·exact absurd (tD.mpr ⟨b,kb,by rw[<-e,ea]⟩) hn.1
  ·rcases nP.mp hb with eb | kb
   ·exact absurd (tD.mpr ⟨a,ka,by rw[e,eb]⟩) hn.1
   ·exact yG hn.2 ka kb e
theorem hT_inj{aa:Nat}(m1:1<=aa)(m4:aa<=4){a b:List Int}(ha:PwS aa a)(hb:PwS aa b)(e:hT a=hT b):a=b:=by
 have h1:=CH aa 8 a ha.len ha.nn ha.deg;have h2:=CH aa 8 b hb.len hb.nn hb.deg;have:aa=1∨aa=2∨aa=3∨aa=4:=by omega
 rcases this with rfl | rfl | rfl | rfl
 ·exact yG hT1 h1 h2 e
 ·exact yG hT2 h1 h2 e
 ·exact yG hT3 h1 h2 e
 ·exact yG hT4 h1 h2 e
def KeyS(aa:Nat)(k:List Key):Prop:=∃ns,k=ik ns/\PwS aa ns
theorem MU(P:Program)(w:World)(ns:List Int):(tkd P w).hash (ik ns)=hT ns:=by
 show reduceHash (Builtin.Tuple.tupleHashOf ((ik ns).map (keyH w)))=_;unfold hT
 congr 2
 show List.map (keyH w) (ns.map Sum.inl)=_;rw[tJ]
 rfl
theorem TJ{P:Program}{w:World}{aa:Nat}(m1:1<=aa)(m4:aa<=4){k k':List Key}(h:KeyS aa k)(h':KeyS aa k')(e:(tkd P w).hash k=(tkd P w).hash k'):k=k':=by
 obtain⟨ns,rfl,hn⟩:=h;obtain⟨ms,rfl,hm⟩:=h';rw[MU,MU]at e;rw[hT_inj m1 m4 hn hm e]
section
variable{X:Cx}
def rDictS:List V->Hp->VK->Prop:=λxs H Q=>∃(a:Addr) (aa:Nat) (ag:List (List Key×V)),xs=[.ref a]/\Rd H a (.dT ag)/\1<=aa/\aa<=4/\(∀p∈ag,KeyS aa p.1)/\New H (.dT ag) Q
theorem KZ:CallR X (.type "dict") rDictS:=by
 intro ac s σ H xs us Q I r h;obtain⟨a,aa,ag,rfl,ha,m1,m4,hn,q⟩:=h;obtain⟨u,rfl,ru⟩:=xK r;cases ru;obtain⟨z,lo,ks,rel,dd⟩:=xZ I.hok ha;have lz:=Paired.length rel;refine PR lo dd ?_ (by omega) λh' D kk=>?_
 ·have e:=KTkeys rel;obtain⟨_,_,_,_,_,_,_,_,nd⟩:=id dd;have sm:∀x∈ks.map (·.1),KeyS aa x:=λx hx=>by
   rw[<-e]at hx;obtain⟨p,hp,rfl⟩:=tD.mp hx;exact hn p hp
  have:(ks.map λx=>(tkd X.prog X.w).hash x.1)=(ks.map (·.1)).map λk=>(tkd X.prog X.w).hash k:=by rw[tJ];rfl
  rw[this];generalize ks.map (·.1)=l at nd sm;refine List.pairwise_map.mpr (List.Pairwise.imp_of_mem (fun {a b} ha hb hab hs=>hab (TJ m1 m4 (sm a ha) (sm b hb) hs)) nd)
 ·obtain⟨ob,es,ep,g1,g2,g3,g4,_,g5⟩:=D;refine⟨.ref s.heap.objs.size,_,I.laid (a:=s.heap.objs.size) (o:=.dT ag) (t':=s.toks) kk uV ⟨by omega,beq_eq_false_iff_ne.mpr (Ne.symm (nZ I.big)),ks,(KT.keeps rel λc ys e=>?_),ob,es,ep,g1,g2,g3,g4,g5⟩,rfl,q.at (I.hok.fresh uV)⟩;rw[jH (λz=>by rw[z,I.hok.fresh uV]at e;cases e)];exact e
end
section
variable{prog:Program}{w:World}{A:Around}{E:Value->Shared->Prop}{s:Shared}
end
section
variable{X:Cx}
end
section
variable{prog:Program}{w:World}{A:Around}{E:Value->Shared->Prop}{s:Shared}{d it:Addr}{es:Array DictEntry}{ep i:Nat}
end
section
variable{X:Cx}
end
end LwD
namespace Lw
open PySem PySem.Spec PyProof.Rows L2
section
variable{X:Cx}
end
section
variable{X:Cx}
theorem yN{i:Nat}{y:Str}{py spos:Pos}(hN:X.N.Nodup)(hi:X.N[i]? = some y)(hx:Loc X.env.scope y){own:Nat}{idx:List Nat}{N:List Str}{elt target iter:Expr}{scope:Scope}{cl:List (Str×Addr)}{pos:Pos}{wi:TI}{g:TG}{te:TE}(hc:X.calm=true)
  (hk:scope.kind=.function) (hclos:closureFor scope X.env=pure cl) (hcell:∀x∈scope.names,x.2≠.cell) (hnames:∀x∈scope.names,x.2=.local->scope.names.lookup x.1=some .local)
  (hsub:∀x c,cl.lookup x=some c->X.env.cells.lookup x=some c) (hhas:∀x,((relabel scope X.env).names.lookup x=some .cell∨(relabel scope X.env).names.lookup x=some .free)->∃c,cl.lookup x=some c)
  (hlen:N.length=own+idx.length)
  (hidx:∀(k j:Nat) (x:Str),idx[k]? = some j->N[own+k]? = some x->X.N[j]? = some x/\X.env.kindOf x=some .cell/\(relabel scope X.env).names.lookup x=some .cell/\X.env.scope.names.lookup x=some .cell)
  (hit:PI X target iter wi) (hg:∀C fp s2 H2,PG (jJ X N scope cl C fp s2 H2) target g) (he:∀C fp s2 H2,PE (jJ X N scope cl C fp s2 H2) elt te)
  (hsw:swapsWith (.ListComp elt [⟨target,iter,[],0⟩] scope pos) (some (.Name y py)) spos.line X.env=pure true:=by rfl)
  (hs:∀x,foldedSetIterable iter X.env x=pure x:=by intro _;rfl) (hfn:X.fn y=true∨X.env.scope.names.lookup y=some .local:=by first | exact .inl rfl | exact .inr rfl | assumption):PS X (.Assign [.Name y py] (.ListComp elt [⟨target,iter,[],0⟩] scope pos) spos) (yC (QQ own idx wi g te) (kR i)):=by
 intro ac s σ H D I h;rw[exec_Assign_Name_used _ _ _ _ hsw];refine tS (wpAny_standAt (tS ?_));show wpAny _ X.A (do let _<-comprehension (.ListComp elt [⟨target,iter,[],0⟩] scope pos) scope X.env _ (newList []) false (eval iter X.env) (some (assign (.Name y py) X.env))) _ _ s;refine tS (tU (wpAny_comprehension_free (use:=some (assign (.Name y py) X.env)) (Q:=λ_ s'=>∃σ' H',Inv X ac σ' H' s'/\D.nx σ' H') rfl hs hclos hk hnames (thn (hit ac s σ H _ I h) λv s1 h1=>thn h1 λitv s2 h2=>?_)) (λ_ s' hq=>tT (tT hq)) λ_ _ e=>e);obtain⟨it,fp,tn,J,H1,e,I2,T,st2,f2,hR⟩:=h2;subst e;have hlt:∀b∈fp,b<s2.heap.objs.size:=λb hb=>by
  obtain⟨o,ho,_⟩:=T.obj 0 _ st2 b hb;exact nX ho
 refine wpAny_newObj_type (wpAny_newFunctionEnv hcell (by intro y hy;simp at hy) (λh₁ hns₁ hsb₁=>?_) hk);dsimp only at hns₁ hsb₁ ⊢;generalize hHH:s2.heap.push { cls:=.type "list",dict:=none,data:=.seq ([]:List Value).toArray } = HH at hns₁ hsb₁ ⊢;have hCe:HH.objs.size=s2.heap.objs.size+1:=by rw[<-hHH,nN]
 have hDC:s2.heap.objs.size≠HH.objs.size:=by rw[hCe];exact nZ (mW _)
 have hCle:s2.heap.objs.size<=HH.objs.size:=by rw[hCe];exact Nat.le_succ _
 have old:∀b o,s2.heap.get? b=some o->h₁.get? b=some o:=λb o e=>hsb₁.extBut b o (by rw[hCe];exact nZ (Nat.lt_succ_of_lt (nX e))) (gK _ (hHH▸gK _ e));have hD:h₁.get? s2.heap.objs.size=some { cls:=.type "list",dict:=none,data:=.seq ([]:List Value).toArray } :=hsb₁.extBut _ _ hDC (gK _ (hHH▸gZ _ rfl));have nD:H1 s2.heap.objs.size=none:=I2.hok.fresh uV ;obtain⟨W,⟨m0,w0⟩,turn⟩:=hR s2.heap.objs.size _ nD (kF (.lst []) nD) jF;generalize hσ:(List.replicate own none++idx.map λj=>(σ[j]?).getD none:L2.St)=σ0 at turn;have lσ:σ0.length=N.length:=by rw[<-hσ,hV,gO,mY,hlen]
 have ok:=xT (N:=N) (cl:=cl) (C:=HH.objs.size) I2 hk hsub hhas hCle f2 hlt;have oldC:∀c v,s2.heap.IsCell c v->h₁.IsCell c v:=λc v ⟨o,ho,hd⟩=>⟨o,old c o ho,hd⟩;have I4:Inv (jJ X N scope cl HH.objs.size fp s2 H1) [] σ0 (upd H1 s2.heap.objs.size (.lst [])) { s2 with heap:=h₁,toks:=s2.toks+([]:List (Str×Value)).length } :=by
  refine⟨ok,rfl,I2.bare,Un.laid old uV nD,⟨_,hns₁,λi x v e1 e2 _=>?_⟩,(λx c z=>?_), ?_,(λx c z=>?_),(λp hp=>nomatch hp),I2.hok.laid old uV ?_,lσ⟩
  ·
   rw[<-hσ]at e2;by_cases hi':i<own
   ·rw[gF (by rw[gO];exact hi'),List.getElem?_replicate]at e2;split at e2<;>cases e2
   ·obtain⟨k,rfl⟩:∃k,i=own+k:=⟨i-own,by omega⟩;rw[gC (by rw[gO];omega),gO,Nat.add_sub_cancel_left,mH]at e2;cases ej:idx[k]? with
    | none=>rw[ej]at e2;cases e2
    | some j=>
     rw[ej,Option.map_some]at e2;have e2:=Option.some.inj e2;obtain⟨n1,n2,n3,n4⟩:=hidx k j x ej e1;have e3:σ[j]? = some (some v):=by
      cases q:σ[j]? with
      | none=>rw[q]at e2;cases e2
      | some y=>rw[q,Option.getD_some]at e2;rw[e2]
     obtain⟨m,hm,hl⟩:=I2.loc;obtain⟨u,ru,lk⟩:=hl j x v n1 e3 (.inr (.inl n4));refine⟨u,ru, ?_⟩;rcases lk with⟨kl,_⟩ | ⟨_,c,hcl,hic⟩
     ·rw[n2]at kl;cases kl
     ·obtain⟨c',hc'⟩:=hhas x (.inl n3);have:c'=c:=Option.some.inj ((hsub x c' hc').symm.trans hcl);subst this;exact .inr ⟨.inl n3,c',hc',oldC _ _ hic⟩
  ·obtain⟨v,hv⟩:=I2.cell x c (hsub x c z);exact⟨v,oldC _ _ hv⟩
  ·show(upd H1 s2.heap.objs.size (.lst [])) HH.objs.size=none;rw[jH (Ne.symm hDC)];exact I2.hok.fresh hCle
  ·obtain⟨v,hv⟩:=I2.cell x c (hsub x c z);show(upd H1 s2.heap.objs.size (.lst [])) c=none;rw[jH (nZ hv.lt)];exact I2.freeC x c (hsub x c z)
  ·exact⟨by show 0<=sizeLine;decide,[],0,.nil,hD⟩
 have stat:∀{H':Hp},(∀b∈fp,H' b=none)->∀b∈fp,FpOk (jJ X N scope cl HH.objs.size fp s2 H1) [] H' b:=λhn b hb=>
  ⟨hn b hb,(ok.exf b hb).1,ok.exfs b hb,.inl hb,(ok.exf b hb).2,λp hp=>nomatch hp⟩
 have st4:tn 0 h₁:=T.keep _ _ _ st2 λb _ o e=>old b o e;have fr4:∀b∈fp,(upd H1 s2.heap.objs.size (.lst [])) b=none:=λb hb=>by
  rw[jH (nZ (hlt b hb))];exact(f2 b hb).1
 have loop:codeAny (model X.prog X.w) X.A (.compLoop (.ListComp elt [⟨target,iter,[],0⟩] scope pos) 0 (.ref it) (.ref s2.heap.objs.size) (compEnvC scope cl HH.objs.size X.env))
   (compPost (model X.prog X.w) X.A X.xe (some (assign (.Name y py) X.env)) (λ_ s'=>∃σ' H',Inv X ac σ' H' s'/\D.nx σ' H') (.ref s2.heap.objs.size) HH.objs.size) { s2 with heap:=h₁,toks:=s2.toks+([]:List (Str×Value)).length } :=by
  refine yR (λn s'=>∃i ys H',Inv (jJ X N scope cl HH.objs.size fp s2 H1) [] σ0 H' s'/\tn i s'.heap/\(∀b∈fp,H' b=none)/\W i n ys H') ?_ m0 ⟨0,[],_,I4,st4,fr4,w0⟩;rintro n s3 ⟨i,ys,H3,I3,st3,fr3,w3⟩;obtain⟨hp3,hz3,hw⟩:=turn i n ys H3 w3;rcases hw with⟨stop,qn⟩ | ⟨go,step⟩
  ·refine thn (T.done (jJ X N scope cl HH.objs.size fp s2 H1) rfl rfl rfl hc i [] s3 _ H3 _ I3 (stat fr3) st3 stop) λr s4 ⟨hr,I5⟩=>?_;subst hr;obtain⟨m,hm,_⟩:=id I5.loc;have U:=I5.base;have fC:H3 HH.objs.size=none:=I5.free;have IX:Inv X ac σ H3 s4:=I2.call' (ch:=fp) (s':=s4) I5.os U I5.hok I5.bare (λb hb=>⟨(f2 b hb).2.2.2.1,(f2 b hb).2.1,(f2 b hb).2.2.2.2.1,(f2 b hb).2.2.2.2.2⟩);have ltC:∀b,b<s2.heap.objs.size->b≠HH.objs.size:=λb hb=>nZ (mB hb hCle);show wpAny _ X.A (assign (.Name y py) X.env (.ref s2.heap.objs.size)) _ _ s4;refine wpAny_assign_Name (uC IX hN hi hx (v:=.ref s2.heap.objs.size) rfl (λs5 I6 ⟨a,sb,ha⟩=>?_) hfn);have aC:a≠HH.objs.size:=by
    rcases ha with ha | ha
    ·rw[ha];exact ltC _ I2.lt
    ·obtain⟨v,hv⟩:=I2.cell y a ha;exact ltC _ hv.lt
   refine⟨m,hm.sameBut sb (Ne.symm aC),λh' sb'=>⟨_,H3, ?_,qn⟩⟩;refine I6.turned (it:=HH.objs.size) (t':=s5.toks) (λb o hb e=>sb'.extBut b o hb e) fC (Ne.symm (ltC _ I2.lt)) (.inr (nY I2.sz hCle)) (λx c hc=>?_) (λp hp=>?_)
   ·obtain⟨v,hv⟩:=I2.cell x c hc;exact ltC _ hv.lt
   ·exact ltC _ (nX (I2.pin p hp).1)
  ·refine tU (T.item (jJ X N scope cl HH.objs.size fp s2 H1) rfl rfl rfl hc i [] s3 _ H3 (λ_ _=>False) I3 (stat fr3) st3 go) (λr s4 ⟨u,hr,h4⟩=>?_) λ_ _ z=>z.elim;subst hr;refine tU h4 (λ_ s5 ⟨x,H5,I5,r5,y5,st5,fr5⟩=>?_) λ_ _ z=>z.elim;have I5':=I5.pinned (stat fr5) (T.obj _ _ st5);refine tU (hg _ _ _ _ _ s5 _ H5 x u _ I5' r5 (step x H5 y5)) (λ_ s6 ⟨σ6,H6,I6,kp6,q6⟩=>?_) λ_ _ z=>z.elim;refine tU (he _ _ _ _ _ s6 σ6 H6 _ I6 q6) (λy s7 ⟨yv,H7,I7,r7,q7⟩=>?_) λ_ _ z=>z.elim;obtain⟨e7,m',hm',w7⟩:=q7;refine tU (vC (X:=jJ X N scope cl HH.objs.size fp s2 H1) _ s7 σ6 H7 (.ref s2.heap.objs.size) [yv] (.ref s2.heap.objs.size) [y] (λ_ H8=>H8=upd H7 s2.heap.objs.size (.lst (ys++[yv]))) I7 rfl (.cons r7 .nil) ⟨_,ys,yv,rfl,rfl,e7,hz3,rfl⟩) (λ_ s8 ⟨_,H8,I8,_,q8⟩=>?_) λ_ _ z=>z.elim;subst q8;refine⟨m',hm',i+1,_,_,(I8.unpinned).weak (by rw[lσ,I8.len];rfl) kp6,T.keep _ _ _ st5 λb hb o e=>(I8.pin (b,o) (gN _ (gN _ (jS hb e)))).1,λb hb=>?_,w7⟩;obtain⟨o,e,d⟩:=T.obj _ _ st5 b hb;exact(I8.pin (b,o) (gN _ (gN _ (jS hb e)))).2.1
 exact codeAny_compStart_list loop (T.self _ 0 _ _ _ st4 loop)
end
section
variable{prog:Program}{w:World}{A:Around}{R:Result->Shared->Prop}{s:Shared}
theorem zO{elt target iter c:Expr}{scope:Scope}{pos:Pos}{it acc:Value}{env:Env}(I:Nat->Shared->Prop)
  (turn:∀n s,I n s->wpAny (model prog w) A (pyNext it) (λr s₁=>match r with
   | none=>R (.ok .next) s₁
   | some v=>wpAny (model prog w) A (letOwnedTupleGo target it v) (λ_ s₁'=>wpAny (model prog w) A (assign target env v) (λ_ s₂=>wpAny (model prog w) A (isTrue c env (eval c env)) (λb s₂'=>if b=true then wpAny (model prog w) A (eval elt env) (λx s₃=>
     wpAny (model prog w) A (call (.builtin "list.append") [acc,x]) (λ_ s₄=>∃m,m<n/\I m s₄) (notedBy (model prog w) A env λe s'=>R (.error e) s') s₃)
     (notedBy (model prog w) A env λe s'=>R (.error e) s') s₂' else ∃m,m<n/\I m s₂') (notedBy (model prog w) A env λe s'=>R (.error e) s') s₂) (notedBy (model prog w) A env λe s'=>R (.error e) s') s₁') (notedBy (model prog w) A env λe s'=>R (.error e) s') s₁) (notedBy (model prog w) A env λe s'=>R (.error e) s') s)
  (n:Nat) (h:I n s) :
  codeAny (model prog w) A (.compLoop (.ListComp elt [⟨target,iter,[c],0⟩] scope pos) 0 it acc env) R s:=by
 refine codeAny_loop rfl I (λn s hI=>?_) n h;show wpAny _ _ ((compTurn (.ListComp elt [⟨target,iter,[c],0⟩] scope pos) 0 it acc env).onRaise (λx=>do noteFrame x env;theTreesLotGoes x)) _ _ s;refine wpAny_noted ?_;rw[compTurn_list];refine tS (wpAny_standAt (tS (tU (turn n s hI) (λr s₁ h₁=>?_) λ_ _ h'=>h')));cases r with
 | none=>exact tT h₁
 | some v=>
  refine tS (tU h₁ (λ_ s₁' h₁'=>?_) λ_ _ h'=>h');refine tS (tU h₁' (λ_ s₂ h₂=>?_) λ_ _ h'=>h');refine tS ?_;rw[List.forIn_cons];dsimp only;rw[tW rfl];refine tS (tS (tU h₂ (λb s₂' hb=>tT ?_) λ_ _ h'=>h'));dsimp only;rw[List.forIn_nil];refine tT ?_;cases b with
  | true=>
   rw[tW rfl]at hb ⊢;refine tS ?_;exact(tS (tU hb (λx s₃ h₃=>tS (tU h₃
    (λ_ s₄ h₄=>tT (tT ⟨rfl,h₄⟩)) λ_ _ h'=>h')) λ_ _ h'=>h'))
  | false=>
   rw[tV hZ]at hb ⊢;exact tT ⟨rfl,hb⟩
end
def CompGoI(n:Nat)(J:It)(g:TG)(tt:TT)(te:TE)(Q:VK)(p:Addr)(H':Hp):Prop:=
 ∃W:Nat->Nat->List V->Hp->Prop,(∃m,W 0 m [] H')/\∀i m ys H2,W i m ys H2->H2 p=some (.lst ys)/\ys.length<sizeLine/\
  ((J.stop i H2/\Q (.ref p) H2)∨(J.go i H2/\∀x H3,J.yld i H2 x H3->g x (List.replicate n none) H3 fun σ4 H4=>tt σ4 H4 λb H5=>if b=true then te σ4 H5 λy H6=>H6 p=some (.lst ys)/\∃m',m'<m/\W (i+1) m' (ys++[y]) (upd H6 p (.lst (ys++[y])))else ∃m',m'<m/\W (i+1) m' ys H5))
def QP(n:Nat)(wi:TI)(g:TG)(tt:TT)(te:TE):TE:=fun σ H Q=>wi σ H λJ H1=>∀p H',H1 p=none->Same H1 H'->H' p=some (.lst [])->CompGoI n J g tt te Q p H'
section
variable{X:Cx}
theorem RW{N:List Str}{elt target iter c:Expr}{scope:Scope}{pos:Pos}{wi:TI}{g:TG}{tt:TT}{te:TE}(hc:X.calm=true)
  (hk:scope.kind=.function) (hn:∀x,scope.names.lookup x≠some .cell/\scope.names.lookup x≠some .free) (hfree:∀x∈scope.names,x.2≠.free) (hcell:∀x∈scope.names,x.2≠.cell) (hnames:∀x∈scope.names,x.2=.local->scope.names.lookup x.1=some .local)
  (hi:PI X target iter wi) (hg:∀C fp s2 H2,PG (kO X N scope C fp s2 H2) target g) (ht:∀C fp s2 H2,PT (kO X N scope C fp s2 H2) c tt) (he:∀C fp s2 H2,PE (kO X N scope C fp s2 H2) elt te)
  (hs:∀x,foldedSetIterable iter X.env x=pure x:=by intro _;rfl):PE X (.ListComp elt [⟨target,iter,[c],0⟩] scope pos) (QP N.length wi g tt te):=by
 intro ac s σ H Q I h;refine wpAny_ListComp hfree hk hnames (thn (hi ac s σ H _ I h) λv s1 h1=>thn h1 λitv s2 h2=>?_) hs;obtain⟨it,fp,tn,J,H1,e,I2,T,st2,f2,hR⟩:=h2;subst e;have hlt:∀b∈fp,b<s2.heap.objs.size:=λb hb=>by
  obtain⟨o,ho,_⟩:=T.obj 0 _ st2 b hb;exact nX ho
 refine wpAny_newObj_type (wpAny_newFunctionEnv hcell (by intro y hy;simp at hy) (λh₁ hns₁ hsb₁=>?_) hk);dsimp only at hns₁ hsb₁ ⊢;generalize hHH:s2.heap.push { cls:=.type "list",dict:=none,data:=.seq ([]:List Value).toArray } = HH at hns₁ hsb₁ ⊢;have hCe:HH.objs.size=s2.heap.objs.size+1:=by rw[<-hHH,nN]
 have hDC:s2.heap.objs.size≠HH.objs.size:=by rw[hCe];exact nZ (mW _)
 have hCle:s2.heap.objs.size<=HH.objs.size:=by rw[hCe];exact Nat.le_succ _
 have old:∀b o,s2.heap.get? b=some o->h₁.get? b=some o:=λb o e=>hsb₁.extBut b o (by rw[hCe];exact nZ (Nat.lt_succ_of_lt (nX e))) (gK _ (hHH▸gK _ e));have hD:h₁.get? s2.heap.objs.size=some { cls:=.type "list",dict:=none,data:=.seq ([]:List Value).toArray } :=hsb₁.extBut _ _ hDC (gK _ (hHH▸gZ _ rfl));have nD:H1 s2.heap.objs.size=none:=I2.hok.fresh uV ;obtain⟨W,⟨m0,w0⟩,turn⟩:=hR s2.heap.objs.size _ nD (kF (.lst []) nD) jF;have ok:=EA (N:=N) (C:=HH.objs.size) I2 hk hn hCle f2 hlt;have I4:Inv (kO X N scope HH.objs.size fp s2 H1) [] (List.replicate N.length none) (upd H1 s2.heap.objs.size (.lst [])) { s2 with heap:=h₁,toks:=s2.toks+([]:List (Str×Value)).length } :=by
  refine⟨ok,rfl,I2.bare,Un.laid old uV nD,⟨_,hns₁,λi x v _ e2 _=>?_⟩,(λx c z=>nomatch z), ?_,(λx c z=>nomatch z),(λp hp=>nomatch hp),I2.hok.laid old uV ?_,by rw[gO];rfl⟩
  ·rw[List.getElem?_replicate]at e2;split at e2<;>cases e2
  ·show(upd H1 s2.heap.objs.size (.lst [])) HH.objs.size=none;rw[jH (Ne.symm hDC)];exact I2.hok.fresh hCle
  ·exact⟨by show 0<=sizeLine;decide,[],0,.nil,hD⟩
 have stat:∀{H':Hp},(∀b∈fp,H' b=none)->∀b∈fp,FpOk (kO X N scope HH.objs.size fp s2 H1) [] H' b:=λhn b hb=>
  ⟨hn b hb,(ok.exf b hb).1,ok.exfs b hb,.inl hb,(ok.exf b hb).2,λp hp=>nomatch hp⟩
 have st4:tn 0 h₁:=T.keep _ _ _ st2 λb _ o e=>old b o e;have fr4:∀b∈fp,(upd H1 s2.heap.objs.size (.lst [])) b=none:=λb hb=>by
  rw[jH (nZ (hlt b hb))];exact(f2 b hb).1
 have loop:codeAny (model X.prog X.w) X.A (.compLoop (.ListComp elt [⟨target,iter,[c],0⟩] scope pos) 0 (.ref it) (.ref s2.heap.objs.size) (compEnv scope HH.objs.size X.env))
   (λr s'=>∃m,s'.heap.Ns HH.objs.size m/\∀h',Heap.SameBut HH.objs.size s'.heap h'->
      match r with | .ok _=>EP X ac σ Q (.ref s2.heap.objs.size) { s' with heap:=h' } | .error x=>wpAny (model X.prog X.w) X.A (passOn "comprehension.variables-let-go" x (compEnv scope HH.objs.size X.env)) (EP X ac σ Q) X.xe { s' with heap:=h' })
   { s2 with heap:=h₁,toks:=s2.toks+([]:List (Str×Value)).length } :=by
  refine zO (λn s'=>∃i ys H',Inv (kO X N scope HH.objs.size fp s2 H1) [] (List.replicate N.length none) H' s'/\tn i s'.heap/\(∀b∈fp,H' b=none)/\W i n ys H') ?_ m0 ⟨0,[],_,I4,st4,fr4,w0⟩;rintro n s3 ⟨i,ys,H3,I3,st3,fr3,w3⟩;obtain⟨hp3,hz3,hw⟩:=turn i n ys H3 w3;rcases hw with⟨stop,qn⟩ | ⟨go,step⟩
  ·refine thn (T.done (kO X N scope HH.objs.size fp s2 H1) rfl rfl rfl hc i [] s3 _ H3 _ I3 (stat fr3) st3 stop) λr s4 ⟨hr,I5⟩=>?_;subst hr;obtain⟨m,hm,_⟩:=id I5.loc;refine⟨m,hm,λh' sb=>⟨.ref s2.heap.objs.size,H3, ?_,rfl,qn⟩⟩;have k:∀b o,b≠HH.objs.size->s4.heap.get? b=some o->h'.get? b=some o:=λb o hb e=>sb.extBut b o hb e;have nb:∀b o,s2.heap.get? b=some o->b≠HH.objs.size:=λb o e=>by rw[hCe];exact nZ (Nat.lt_succ_of_lt (nX e))
   have U:=I5.base;have fC:H3 HH.objs.size=none:=I5.free;refine I2.call' (ch:=fp) (s':={ s4 with heap:=h' }) I5.os ⟨λb o e n hb hx=>k b o (nb b o e) (U.keep b o e n hb hx),λb o e n hb hx=>?_,U.free,λb o e hx=>?_,U.tups,U.frzs,U.tbls⟩ (λb u e=>?_) I5.bare (λb hb=>⟨(f2 b hb).2.2.2.1,(f2 b hb).2.1,(f2 b hb).2.2.2.2.1,(f2 b hb).2.2.2.2.2⟩)
   ·obtain⟨sl,q⟩:=U.slot b o e n hb hx;exact⟨sl,k b _ (nb b o e) q⟩
   ·obtain⟨o',q⟩:=U.there b o e hx;exact⟨o',k b _ (nb b o e) q⟩
   ·refine(I5.hok b u e).stay (λc v hcc q=>k c v ?_ q) (λ_ q=>q) λ_ _ q=>q;rcases hcc with z | z
    ·rw[z];intro y;rw[y,fC]at e;cases e
    ·intro y;rw[y,fC]at z;cases z
  ·refine tU (T.item (kO X N scope HH.objs.size fp s2 H1) rfl rfl rfl hc i [] s3 _ H3 (λ_ _=>False) I3 (stat fr3) st3 go) (λr s4 ⟨u,hr,h4⟩=>?_) λ_ _ z=>z.elim;subst hr;refine tU h4 (λ_ s5 ⟨x,H5,I5,r5,y5,st5,fr5⟩=>?_) λ_ _ z=>z.elim;have I5':=I5.pinned (stat fr5) (T.obj _ _ st5);refine tU (hg _ _ _ _ _ s5 _ H5 x u _ I5' r5 (step x H5 y5)) (λ_ s6 ⟨σ6,H6,I6,q6⟩=>?_) λ_ _ z=>z.elim;refine tU (ht _ _ _ _ _ s6 σ6 H6 _ I6 q6) (λb s6' ⟨H6',I6',q6'⟩=>?_) λ_ _ z=>z.elim;cases b with
   | false=>
    rw[tV hZ]at q6' ⊢;obtain⟨m',hm',w7⟩:=q6';refine⟨m',hm',i+1,_,_,(I6'.unpinned).weak (by rw[gO,I6'.len];rfl) (λj v ev=>?_),T.keep _ _ _ st5 λb hb o e=>(I6'.pin (b,o) (gN _ (gN _ (jS hb e)))).1,λb hb=>?_,w7⟩
    ·rw[List.getElem?_replicate]at ev;split at ev<;>cases ev
    ·obtain⟨o,e,d⟩:=T.obj _ _ st5 b hb;exact(I6'.pin (b,o) (gN _ (gN _ (jS hb e)))).2.1
   | true=>
    rw[tW rfl]at q6' ⊢;refine tU (he _ _ _ _ _ s6' σ6 H6' _ I6' q6') (λy s7 ⟨yv,H7,I7,r7,q7⟩=>?_) λ_ _ z=>z.elim;obtain⟨e7,m',hm',w7⟩:=q7;refine tU (vC (X:=kO X N scope HH.objs.size fp s2 H1) _ s7 σ6 H7 (.ref s2.heap.objs.size) [yv] (.ref s2.heap.objs.size) [y] (λ_ H8=>H8=upd H7 s2.heap.objs.size (.lst (ys++[yv]))) I7 rfl (.cons r7 .nil) ⟨_,ys,yv,rfl,rfl,e7,hz3,rfl⟩) (λ_ s8 ⟨_,H8,I8,_,q8⟩=>?_) λ_ _ z=>z.elim;subst q8;refine⟨m',hm',i+1,_,_,(I8.unpinned).weak (by rw[gO,I8.len];rfl) (λj v ev=>?_),T.keep _ _ _ st5 λb hb o e=>(I8.pin (b,o) (gN _ (gN _ (jS hb e)))).1,λb hb=>?_,w7⟩
    ·rw[List.getElem?_replicate]at ev;split at ev<;>cases ev
    ·obtain⟨o,e,d⟩:=T.obj _ _ st5 b hb;exact(I8.pin (b,o) (gN _ (gN _ (jS hb e)))).2.1
 exact codeAny_compStart_list loop (T.self _ 0 _ _ _ st4 loop)
end
end Lw
namespace LwD
open PySem PySem.Spec PyProof.Rows L2 Lw
section
variable{prog:Program}{w:World}{A:Around}{E:Value->Shared->Prop}{s:Shared}
theorem NB{h1:Heap}{a:Addr}{ys:List (List Key×Addr×Value)}{g:Array GenState}{d:Drawn}{t:Nat}{os:OsState}(D:h1.DictOfH (tkd prog w) a ys):(⟨h1,g,d,t,os⟩:Shared).TypeIs (.ref a) "dict":=let ⟨q,_,_,g1,g2,_⟩:=D;⟨q,g1,g2.1⟩
end
section
variable{X:Cx}
end
section
variable{prog:Program}{w:World}{A:Around}{E:Value->Shared->Prop}{s:Shared}
theorem JF{nm:String}{a b:Addr}{xs ys:List (List Key×Addr×Value)}{Q:Bool->Shared->Prop}(ha:(a==sysModules)=false)(hb:(b==sysModules)=false)
  (da:s.heap.DictOfH (tkd prog w) a xs) (db:s.heap.DictOfH (tkd prog w) b ys) (hl:xs.length≠ys.length) (h:Q false s):wpAny (model prog w) A (Builtin.Dict.samePairs nm a b) Q E s:=by
 obtain⟨od,esd,epd,hod,hcd,hdd,hed,hid,hnd⟩:=id db;obtain⟨oo,eso,epo,hoo,hco,hdo',heo,hio,hno⟩:=id da;have lz:eso.size=xs.length:=size_of_entries heo;have lz':esd.size=ys.length:=size_of_entries hed;unfold Builtin.Dict.samePairs;unfold Builtin.Dict.showsAll;rw[tV (by rw[ha];exact hZ),tV (by rw[hb];exact hZ)];refine tS (tT (tS (tT ?_)));refine tS (wpAny_dictEntries hoo hdo' ?_);refine tS (wpAny_dictEntries hod hdd ?_);rw[tW (by
  have:eso.size≠esd.size:=by omega
  simpa using this)]
 exact tS (wpAny_rule (tT h))
theorem IL{a b:Addr}{xs ys:List (List Key×Addr×Value)}{c:Bool}{Q:Value->Shared->Prop}(da:s.heap.DictOfH (tkd prog w) a xs)(db:s.heap.DictOfH (tkd prog w) b ys)(hu:A.units<cLine)
  (hs:∀(nm:String) (Q':Bool->Shared->Prop),Q' c s->wpAny (model prog w) A.in1 (Builtin.Dict.samePairs nm a b) Q' E s) (h:Q (.bool c) s) :
  wpAny (model prog w) A (compareOp .Eq (.ref a) (.ref b)) Q E s:=by
 have ta:s.TypeIs (.ref a) "dict":=NB da;have tb:s.TypeIs (.ref b) "dict":=NB db;refine wpAny_richCompare_same_room (op:=.Eq) ta tb PySem.F.slot_dict_eq (wpAny_call_entry PySem.F.slot_dict_eq ta PySem.F.entry_dict_eq ?_ (PySem.F.args_dict_eq_2 _ _)) hu;show wpAny _ _ (Builtin.Dict.dictSlotArgs "__eq__" ⟨[.ref a,.ref b],[]⟩ >>= _) _ _ s;refine tS ?_;unfold Builtin.Dict.dictSlotArgs;refine tS (wpAny_notOrdered_dict ta ?_);show wpAny _ _ (pure (Value.ref a,Value.ref b)) _ _ s;refine tT ?_;refine tS (wpAny_isInstance (T:="dict") tb PySem.F.sub_dict_dict ?_);simp only[Bool.not_true,Bool.false_eq_true,if_false];refine tS (tT (tS (tT ?_)));refine tS (hs _ _ ?_);refine tT ⟨_,rfl, ?_, ?_⟩
 ·exact λx=>nomatch x
 ·simpa using h
end
section
variable{X:Cx}
def rEqN:R2:=λx y H Q=>∃(a b:Addr) (ag kvt:List (List Key×V)),x=.ref a/\y=.ref b/\Rd H a (.dT ag)/\Rd H b (.dT kvt)/\ag.length≠kvt.length/\Q (.bl false) H
theorem ZY(hu:X.A.units<cLine):OpR X (compareOp .Eq) rEqN:=by
 intro ac s σ H x y v u Q I rx ry h;obtain⟨a,b,ag,kvt,rfl,rfl,ha,hb,hl,q⟩:=h;cases rx;cases ry;obtain⟨_,lo,ks,rel,dd⟩:=xZ I.hok ha;obtain⟨_,lo',ks',rel',dd'⟩:=xZ I.hok hb;have l1:=Paired.length rel;have l2:=Paired.length rel';exact IL (c:=false) dd dd' hu (λnm Q' h'=>JF lo lo' dd dd' (by omega) h') ⟨.bl false,H,I,rfl,q⟩
end
section
variable{prog:Program}{w:World}{A:Around}{E:Value->Shared->Prop}{s:Shared}
theorem UE{v:Value}{Q:Bool->Shared->Prop}(hv:(v==v)=true)(h:Q true s):wpAny (model prog w) A (eqBool v v) Q E s:=by
 unfold eqBool;refine wpAny_holding ?_;rw[tW hv];exact tS (wpAny_rule (tT h))
theorem NZ{nm:String}{a:Addr}{xs:List (List Key×Addr×Value)}{Q:Bool->Shared->Prop}(hr:(tkd prog w).room A)(ha:(a==sysModules)=false)
  (da:s.heap.DictOfH (tkd prog w) a xs) (hv:∀x∈xs,(x.2.2==x.2.2)=true) (h:Q true s):wpAny (model prog w) A (Builtin.Dict.samePairs nm a a) Q E s:=by
 obtain⟨oo,eso,epo,hoo,hco,hdo',heo,hio,hno⟩:=id da;have lz:eso.size=xs.length:=size_of_entries heo;unfold Builtin.Dict.samePairs;unfold Builtin.Dict.showsAll;rw[tV (by rw[ha];exact hZ)];refine tS (tT (tS (tT ?_)));refine tS (wpAny_dictEntries hoo hdo' ?_);refine tS (wpAny_dictEntries hoo hdo' ?_);rw[tV (by simp)];refine tS (wpAny_dictEpoch hoo hdo' ?_);refine tS ?_;rw[Std.Legacy.Range.forIn_eq_forIn_range'];refine wpAny_forIn_list _ (λrest b s'=>b=(none,())/\s'=s/\∀i∈rest,i<eso.size) _ ?_ ?_ _ _ ⟨rfl,rfl,λi hi=>?_⟩
 ·rintro i rest b s' ⟨rfl,rfl,hm⟩;have hi:i<eso.size:=hm i (mF ..);refine tS (wpAny_dictEntries hoo hdo' ?_);have e1:=entry_at heo i;rw[Array.getElem?_eq_getElem hi]at e1;rw[Array.getElem?_eq_getElem hi];cases e2:xs[i]? with
  | none=>rw[e2]at e1;cases e1
  | some x=>
   rw[e2]at e1;have e3:eso[i]=entryOfKey _ x:=Option.some.inj e1;have mx:=gS e2;dsimp only;rw[e3];refine tS (wpAny_holding (tS ?_));show wpAny _ _ (dictFind a (.ref x.2.1) ((tkd prog w).hash x.1)) _ _ _;refine wpAny_dictFind_heap hr (hio x mx) hoo hdo' heo hio hno (λnone'=>absurd e2 (none' i x.2)) λj p hj=>?_;have ij:j=i:=by
    have g1:(xs.map (·.1))[j]? = some x.1:=by rw[mH,hj];rfl
    have g2:(xs.map (·.1))[i]? = some x.1:=by rw[mH,e2];rfl
    obtain⟨l1,h1⟩:=gE.mp g1;obtain⟨l2,h2⟩:=gE.mp g2;exact(List.getElem_inj hno).mp (h1.trans h2.symm)
   subst ij;dsimp only;refine tS (wpAny_dictEntries hoo hdo' ?_);rw[Array.getElem?_eq_getElem hi,e3];dsimp only;refine wpAny_holding (UE (hv x mx) ?_);rw[tV (by decide)];refine tS (wpAny_dictEpoch hoo hdo' ?_);rw[tV (by simp)];exact tT ⟨rfl,rfl,λk hk=>hm k (gT _ hk)⟩
 ·rintro b s' ⟨rfl,rfl,_⟩;exact tT h
 ·have:=List.mem_range'.mp hi;obtain⟨k,hk,rfl⟩:=this;have:k<eso.size:=by simpa using hk
  show 0+1*k<eso.size;omega
end
section
variable{X:Cx}
theorem XE{H:Hp} :∀{ag:List (List Key×V)} {ks:List (List Key×Addr×Value)},KT H ag ks->(∀p∈ag,∃b,p.2=V.ref b)->∀x∈ks,(x.2.2==x.2.2)=true:=λr=>by
 induction r with
 | nil=>exact λ_ x hx=>nomatch hx
 | cons h t ih=>
  intro hk x hx;rcases nP.mp hx with rfl | hx
  ·obtain⟨b,hb⟩:=hk _ (mF ..);have r2:=h.2.2;rw[hb]at r2;have r2:x.2.2=Value.ref b:=r2;rw[r2];simp
  ·exact ih (λp hp=>hk p (gT _ hp)) x hx
def rEqS:R2:=λx y H Q=>∃(a:Addr) (ag:List (List Key×V)),x=.ref a/\y=.ref a/\Rd H a (.dT ag)/\(∀p∈ag,∃b,p.2=V.ref b)/\Q (.bl true) H
theorem ZX(hu:X.A.units+1<cLine):OpR X (compareOp .Eq) rEqS:=by
 intro ac s σ H x y v u Q I rx ry h;obtain⟨a,ag,rfl,rfl,ha,hk,q⟩:=h;cases rx;cases ry;obtain⟨_,lo,ks,rel,dd⟩:=xZ I.hok ha;exact IL (c:=true) dd dd (by omega) (λnm Q' h'=>NZ (tupleKind_room_in1 hu) lo dd (XE rel hk) h') ⟨.bl true,H,I,rfl,q⟩
end
section
variable{A:Around}{s:Shared}
theorem JU{a b:Addr}{es es':Array DictEntry}{ep ep':Nat}(ha:(a==sysModules)=false)(hb:(b==sysModules)=false)(ra:Raw s.heap a es ep)(rb:Raw s.heap b es' ep')(hl:es.size≠es'.size)(hu:A.units<cLine):SeqAt.RcAt A s (.ref a) (.ref b) false:=λprog w E Q h=>by
 obtain⟨oa,ga,xa,da⟩:=id ra;obtain⟨ob,gb,xb,db⟩:=id rb;have ta:s.TypeIs (.ref a) "dict":=ra.ty;have tb:s.TypeIs (.ref b) "dict":=rb.ty;refine wpAny_richCompare_same_room (op:=.Eq) ta tb PySem.F.slot_dict_eq (wpAny_call_entry PySem.F.slot_dict_eq ta PySem.F.entry_dict_eq ?_ (PySem.F.args_dict_eq_2 _ _)) hu;show wpAny _ _ (Builtin.Dict.dictSlotArgs "__eq__" ⟨[.ref a,.ref b],[]⟩ >>= _) _ _ s;refine tS ?_;unfold Builtin.Dict.dictSlotArgs;refine tS (wpAny_notOrdered_dict ta ?_);show wpAny _ _ (pure (Value.ref a,Value.ref b)) _ _ s;refine tT ?_;refine tS (wpAny_isInstance (T:="dict") tb PySem.F.sub_dict_dict ?_);simp only[Bool.not_true,Bool.false_eq_true,if_false];refine tS (tT (tS (tT ?_)));refine tS ?_;unfold Builtin.Dict.samePairs;unfold Builtin.Dict.showsAll;rw[tV (by rw[ha];exact hZ),tV (by rw[hb];exact hZ)];refine tS (tT (tS (tT ?_)));refine tS (wpAny_dictEntries ga da ?_);refine tS (wpAny_dictEntries gb db ?_);rw[tW (by simpa using hl)];refine tS (wpAny_rule (tT ?_));refine tT ⟨_,rfl, ?_, ?_⟩
 ·exact λx=>nomatch x
 ·simpa using h
end
section
variable{X:Cx}
def rEqLD:R2:=λx y H Q=>∃(l m:Addr) (xs ys:List Addr),x=.ref l/\y=.ref m/\H l=some (.lst (xs.map V.ref))/\H m=some (.lst (ys.map V.ref))/\xs.length=ys.length/\
 (∀(i:Nat) (a b:Addr),xs[i]? = some a->ys[i]? = some b->a=b∨∃ag kvt:List (List Key×V),Rd H a (.dT ag)/\Rd H b (.dT kvt)/\ag.length≠kvt.length)/\Q (.bl (decide (xs=ys))) H
theorem VB{xs ys:List Addr}(hl:xs.length=ys.length):((List.range xs.length).all λi=>decide (xs[i]? = ys[i]?))=decide (xs=ys):=by
 by_cases h:xs=ys
 ·subst h;simp
 ·rw[nA h,List.all_eq_false];refine gD λn=>h (List.ext_getElem? λi=>?_);by_cases c:i<xs.length
  ·refine gD λd=>n ⟨i,nI.mpr c, ?_⟩;simp [d]
  ·rw[gP (by omega),gP (by omega)]
theorem HJ{xs:List Addr}{us:List Value}(r:Vals (xs.map V.ref) us){i:Nat}(h:i<us.length):∃a,xs[i]? = some a/\us[i]=.ref a:=by
 have hl:=r.length;rw[mY]at hl;have c:i<xs.length:=by omega
 obtain⟨u,hu,ru⟩:=r.get (i:=i) (x:=V.ref xs[i]) (by rw[mH,gG c];rfl);obtain⟨h1,h2⟩:=gE.mp hu;exact⟨xs[i],gG c,by rw[h2];exact ru⟩
theorem VY(hu:X.A.units+1<cLine):OpR X (compareOp .Eq) rEqLD:=by
 intro ac s σ H x y v u Q I rx ry h;obtain⟨l,m,xs,ys,rfl,rfl,hl,hm,hlen,hd,q⟩:=h;cases rx;cases ry;obtain⟨its,r1,p1,_⟩:=I.list (SqL.of (K:=X.K) hl);obtain⟨its2,r2,p2,_⟩:=I.list (SqL.of (K:=X.K) hm);have l1:=r1.length;have l2:=r2.length;rw[mY]at l1 l2;refine SeqAt.eq_listAt (e:=λi=>decide (xs[i]? = ys[i]?)) p1.isList p2.isList (by simp;omega) (by omega) (λj h1 h2=>?_) ⟨.bl (decide (xs=ys)),H,I, ?_,q⟩
 ·have j1:j<its.length:=by simpa using h1
  have j2:j<its2.length:=by simpa using h2
  obtain⟨a,ea,ua⟩:=HJ r1 j1;obtain⟨b,eb,ub⟩:=HJ r2 j2;have u1:its.toArray[j]=Value.ref a:=by simpa using ua
  have u2:its2.toArray[j]=Value.ref b:=by simpa using ub
  rw[u1,u2,ea,eb];by_cases c:a=b
  ·subst c;rw[nG rfl];exact SeqAt.EqAt.same _
  ·rw[nA (λz=>c (Option.some.inj z))];rcases hd j a b ea eb with z | ⟨ag,kvt,ra,rb,n⟩
   ·exact absurd z c
   ·obtain⟨_,lo,ks,rel,dd⟩:=xZ I.hok ra;obtain⟨_,lo',ks',rel',dd'⟩:=xZ I.hok rb;obtain⟨o1,es1,ep1,g1,g2,g3,g4,_⟩:=id dd;obtain⟨o2,es2,ep2,k1,k2,k3,k4,_⟩:=id dd';have n1:=Paired.length rel;have n2:=Paired.length rel';have s1:=size_of_entries g4;have s2:=size_of_entries k4;exact SeqAt.EqAt.of_refs c (JU lo lo' ⟨o1,g1,g2,g3⟩ ⟨o2,k1,k2,k3⟩ (by omega) (by show X.A.units+1<cLine;exact hu))
 ·have:its.toArray.size=xs.length:=by simp;omega
  rw[this,VB hlen]
  rfl
end
section
variable{X:Cx}{k v:Expr}{tk tv:TE}{pos:Pos}
end
end LwD
namespace L2
open PySem PySem.Spec PyProof.Rows
def Itel(K:tX)(a:Addr):It:=
 ⟨λi H=>∃xs x,SqL K H a xs/\xs[i]? = some x,
  λi H v H'=>∃p x,H p=none/\v=.ref p/\H'=upd H p (.tup [.int i,x])/\(∀xs,SqL K H a xs->xs[i]? = some x),
  λi H=>∃xs,SqL K H a xs/\xs.length<=i⟩
theorem JK{P:Program}{w:World}{K:tX}{es:List Expr}{x1}{pos:Pos}(l:Addr){e it:Addr}(hne:e≠it):Turn P w K (.Tuple es x1 pos) (Itel K l) [e,it] e (λi h=>(∃old,IsEnum h e it i old)/\h.IsListIter it l i) where
 mem:=by simp
 obj:=λi h Z b hb=>by
  simp only[nP,mR,or_false]at hb;obtain⟨⟨old,he⟩,⟨o1,g1,c1,d1⟩⟩:=Z;rcases hb with rfl | rfl
  ·exact⟨_,he,λv q=>by cases (show Data.fields _=Data.cell v from q)⟩
  ·exact⟨_,g1,λv q=>by rw[d1]at q;cases q⟩
 keep:=λi h h' Z k=>by
  obtain⟨⟨old,he⟩,s1⟩:=Z;exact⟨⟨old,k e (by simp) _ he⟩,Heap.IsListIter.at s1 λo y=>k it (by simp) o y⟩
 item:=by
  intro X hP hw hK hc i ac s σ H E I hf Z hg;subst hP hw hK;obtain⟨xs,x,q1,hx⟩:=hg;obtain⟨its1,r1,p1,_⟩:=I.list q1;obtain⟨u1,hu1,ru1⟩:=r1.get hx;obtain⟨⟨old,he⟩,hit⟩:=id Z;have ae:l≠e:=FpOk.apartL I (hf e (by simp)) q1;have ai:l≠it:=FpOk.apartL I (hf it (by simp)) q1;refine wpAny_pyNext_enum_item he hit p1.isList (x:=u1) (by simpa using hu1) hne λg out n1 nu _ kk=>⟨_,rfl, ?_⟩;refine wpAny_letOwnedTupleGo_enum out λg2 z2 sb=>?_;have fr:H s.heap.objs.size=none:=I.hok.fresh uV ;have el:e<s.heap.objs.size:=nX he;have il:it<s.heap.objs.size:=by obtain⟨_,y,_⟩:=hit;exact nX y
  have fp:∀b∈[e,it],FpOk X ac (upd H s.heap.objs.size (.tup [.int i,x])) b:=λb hb=>by
   have lt:b≠s.heap.objs.size:=by
    simp only[nP,mR,or_false]at hb;rcases hb with rfl | rfl
    ·exact nZ el
    ·exact nZ il
   exact⟨by rw[jH lt];exact(hf b hb).1,(hf b hb).2⟩
  have I1:Inv X ac σ (upd H s.heap.objs.size (.tup [.int i,x])) { s with heap:=s.heap.push { cls:=.type "tuple",data:=.seq #[.int i s.toks,u1] } } :=I.laid (t':=s.toks) (λb u e=>gK _ e) uV ⟨by simp [sizeLine],[.int i s.toks,u1],.cons ⟨_,rfl⟩ (.cons ru1 .nil),⟨_,gZ _ rfl,rfl,_,rfl⟩,.of (gZ _ rfl) rfl⟩;have up:∀c o,c≠e->g.get? c=some o->g2.get? c=some o:=λc o cz y=>sb.extBut _ _ cz y;have I2:Inv X ac σ (upd H s.heap.objs.size (.tup [.int i,x])) { s with heap:=g2,toks:=s.toks+1 } :=by
   refine Inv.turnedL (s:={ s with heap:=s.heap.push { cls:=.type "tuple",data:=.seq #[.int i s.toks,u1] } }) (h':=g2) (t':=s.toks+1) I1 fp λb o hb y=>?_;simp only[nP,mR,or_false,not_or]at hb;rcases Heap.get?_push_cases y with⟨e1,e2⟩ | e1
   ·rw[e1,e2];exact up _ _ (Nat.ne_of_gt el) nu
   ·exact up _ _ hb.1 (kk b o hb.1 hb.2 e1)
  exact⟨.ref s.heap.objs.size,_,I2,rfl,⟨_,x,fr,rfl,rfl,λxs' h=>by rw[I.list_inj h q1];exact hx⟩,⟨⟨_,by simpa using z2⟩,Heap.IsListIter.at n1 λo y=>up _ o (Ne.symm hne) y⟩,λb hb=>(fp b hb).1⟩
 done:=by
  intro X hP hw hK hc i ac s σ H E I hf Z hg;subst hP hw hK;obtain⟨xs,q1,hl⟩:=hg;obtain⟨its1,r1,p1,_⟩:=I.list q1;obtain⟨⟨old,he⟩,hit⟩:=id Z;have e1:=r1.length;refine wpAny_pyNext_enum_end (I.ok.hd hc) he hit p1.isList (by simp;omega) λg eb=>⟨rfl,Inv.turnedL (t':=s.toks) I hf λb o hb y=>eb b o (λz=>hb (by simp [z])) y⟩
 self:=λ_ _ _ _ _ Z h=>by
  obtain⟨⟨old,he⟩,_⟩:=Z;exact wpAny_pyIter_enum he h
section
variable{X:Cx}
def iEnumL(K:tX)(ta:TA):TI:=fun σ H R=>ta σ H λvs H1=>∃a,vs=[.ref a]/\(∃xs,SqL K H1 a xs)/\R (Itel K a) H1
theorem HN{es:List Expr}{x1}{tp:Pos}{a:Expr}{ta:TA}{p pos:Pos}(hg:Gl X "enumerate")(hm:X.mg "enumerate" = none)(ha:PA X [a] ta)(hs:starEach [a] X.env=[(false,eval a X.env)]:=by rfl) :
  PI X (.Tuple es x1 tp) (.Call (.Name "enumerate" p) [a] [] pos) (iEnumL X.K ta):=by
 intro ac s σ H R I h;refine Call_ (yA I hg hm (show bootBuiltins "enumerate" = some (.type "enumerate") by decide +kernel) (PyProof.Rows.callWith_type1 (thn (ha pos ac s σ H _ I h) λus s1 ⟨vs,H1,I1,r1,q1⟩=>?_) hs rfl));obtain⟨l1,e,⟨xs,q1⟩,q⟩:=q1;subst e;obtain⟨u,rfl,ru⟩:=xK r1;cases ru;obtain⟨its1,_,p1,_⟩:=I1.list q1;refine call_enumerate_list p1.isList λg he hit _ k=>wpAny_pyIter_enum he ?_;refine⟨_,[s1.heap.objs.size+1,s1.heap.objs.size],_,_,H1,rfl,I1.kept (t':=s1.toks) k,JK l1 (Nat.ne_of_gt (mW _)),⟨⟨_,he⟩,hit⟩,λb hb=>?_,q⟩;have hb':s1.heap.objs.size<=b:=by
  simp only[nP,mR,or_false]at hb;rcases hb with rfl | rfl<;>first | exact Nat.le_add_right _ _ | exact tL _
 exact I1.fpOk hb' (I1.hok.fresh hb')
end
end L2
namespace Lw
open PySem PySem.Spec PyProof.Rows L2
section
variable{X:Cx}
end
section
variable{X:Cx}{ac:List (Addr×Obj)}{σ:L2.St}{H:Hp}{s:Shared}
end
section
variable{X:Cx}
end
theorem QC(o i:Expr)(q:Pos)(args:List Expr)(keywords:List Keyword)(pos:Pos)(env:Env):eval (.Call (.Subscript o i q) args keywords pos) env=(do
  callWith pos (<-eval (.Subscript o i q) env) [] (backTo pos (starEach args env)) (backToKw pos (keywordEach keywords env))):=rfl
def ZD(f1 f2:Addr)(sp1 sp2:Sp)(E:XK)(tf:TE)(t:TA):TE:=fun σ H Q=>tf σ H λv H1=>(v=.ref f1/\t σ H1 λvs H2=>sp1 vs H2 Q E)∨(v=.ref f2/\t σ H1 λvs H2=>sp2 vs H2 Q E)
section
variable{X:Cx}{CX1 CX2:CXT}{k1 k2:Nat}{f1 f2:Addr}{fd1 fd2:FuncData}{ps1 ps2:List Str}{sp1 sp2:Sp}{E:XK}{q pos:Pos}{o i e:Expr}{es:List Expr}{tf:TE}{t:TA}
theorem RY(hf:PE X (.Subscript o i q) tf)(F1:FnOk X.prog X.w X.K X.mg X.base CX1 k1 f1 fd1 ps1 sp1)(F2:FnOk X.prog X.w X.K X.mg X.base CX2 k2 f2 fd2 ps2 sp2)(hr1:Room k1 X.A)(hr2:Room k2 X.A)(hk1:PySem.W.keepIn X.K (.ref f1)=true)(hk2:PySem.W.keepIn X.K (.ref f2)=true)
  (hb1:Binds X.K fd1 ps1 []) (hb2:Binds X.K fd2 ps2 []) (hx1:Passes CX1 X E) (hx2:Passes CX2 X E)
  (ha:PA X (e::es) t) (he:starEach (e::es) X.env=(false,eval e X.env)::starEach es X.env:=by rfl) (hpl:(backTo pos (starEach es X.env)).any (·.1)=false:=by rfl) :
  PE X (.Call (.Subscript o i q) (e::es) [] pos) (ZD f1 f2 sp1 sp2 E tf t):=by
 intro ac s σ H Q I h;rw[QC];refine tS (thn (hf ac s σ H _ I h) λu s1 ⟨v,H1,I1,r,q1⟩=>?_);rcases q1 with⟨rfl,q1⟩ | ⟨rfl,q1⟩
 ·cases r;refine PySem.W.callWith_K (h₀:=X.base) I1.ok.mod.kin hk1 (thn (ha pos ac s1 σ H1 _ I1 q1) λus s2 ⟨vs,H2,I2,r2,q2⟩=>⟨I2.kIn, ?_⟩) he hpl;exact JS F1 hr1 hb1 .nil hx1 I2 r2 (by rw[List.append_nil];exact q2)
 ·cases r;refine PySem.W.callWith_K (h₀:=X.base) I1.ok.mod.kin hk2 (thn (ha pos ac s1 σ H1 _ I1 q1) λus s2 ⟨vs,H2,I2,r2,q2⟩=>⟨I2.kIn, ?_⟩) he hpl;exact JS F2 hr2 hb2 .nil hx2 I2 r2 (by rw[List.append_nil];exact q2)
end
end Lw
namespace L2
open PySem PySem.Spec PyProof.Rows
section
variable{prog:Program}{w:World}{A:Around}{E:Value->Shared->Prop}{s:Shared}
theorem OJ{r:Addr}{n:Int}{t u v:Tok}{Q:Value->Shared->Prop}(hr:IsRange s.heap r 0 n 1 t u v)(h0:0<=n)(h1:n<2^62)
  (h:Q (.ref s.heap.objs.size) { s with heap:=s.heap.push { cls:=.type "range_iterator",data:=.fields #[rawInt (n-1),rawInt n,rawInt (-1)] } }) :
  wpAny (model prog w) A (call (.builtin "range.__reversed__") [.ref r]) Q E s:=by
 have hT:s.TypeIs (.ref r) "range":=⟨_,hr,rfl⟩;refine wpAny_call_entry F.slot_range_reversed hT F.entry_range_reversed ?_ (F.args_range_reversed_1 _);unfold Builtin.«range.__reversed__»;refine tS (wpAny_of_eq (a:=Value.ref r) rfl ?_);have rf:∀{Q':Int×Int×Int->Shared->Prop} {E':Value->Shared->Prop},Q' (0,n,1) s->wpAny (model prog w) A.in1 (Builtin.Range.rangeFields (.ref r)) Q' E' s:=fun {Q' E'} hq=>by
  unfold Builtin.Range.rangeFields;refine tS (wpAny_field hr rfl (x:=.int 0 t) rfl (tS (tT ?_)));refine tS (wpAny_field hr rfl (x:=.int n u) rfl (tS (tT ?_)));refine tS (wpAny_field hr rfl (x:=.int 1 v) rfl (tS (tT ?_)));exact tT hq
 refine tS (rf ?_);have sz:Builtin.Range.rangeSize 0 n 1=n:=by rw[rangeSize_one];split<;>omega
 have sm:(Builtin.Range.rangeFitsLong 0&&Builtin.Range.rangeFitsLong n&&Builtin.Range.rangeFitsLong 1&&Builtin.Range.rangeFitsLong (-1)&&Builtin.Range.rangeFitsLong (0-1)&&Builtin.Range.rangeFitsLong n)=true:=by
  simp only[Builtin.Range.rangeFitsLong,Bool.and_eq_true,decide_eq_true_eq];omega
 dsimp only;rw[sz,sm];rw[tV (by decide)];have e:0+(n-1)*1=n-1:=by omega
 rw[e];exact tS (wpAny_newObj_type (tT ⟨_,rfl,h⟩))
theorem US{r:Addr}{n:Int}{t u v:Tok}{Q₁:Value->Shared->Prop}(hr:IsRange s.heap r 0 n 1 t u v)(h0:0<=n)(h1:n<2^62)
  (h:Q₁ (.ref s.heap.objs.size) { s with heap:=s.heap.push { cls:=.type "range_iterator",data:=.fields #[rawInt (n-1),rawInt n,rawInt (-1)] } }) :
  codeAny (model prog w) A (.call (.builtin "reversed.__new__") ⟨[.type "reversed",.ref r],[]⟩) (wants Q₁ E) s:=by
 have hT:s.TypeIs (.ref r) "range":=⟨_,hr,rfl⟩;refine codeAny_of_tree ?_;show wpAny _ A.in1 (do checkBuiltinCall "reversed.__new__" ⟨[.type "reversed",.ref r],[]⟩;again (.builtin "reversed.__new__" ⟨[.type "reversed",.ref r],[]⟩)) _ _ s;refine tS (wpAny_of_eq (F.newCall_reversed_1 _) (tT ⟨plainId_quiet F.plain_reversed_new _,codeAny_builtin F.entry_reversed_new ?_⟩));rw[Around.under_plainId F.plain_reversed_new _];unfold Builtin.«reversed.__new__»;refine tS (wpAny_of_eq (newClass_reversed _) ?_);try dsimp only
 refine tS (wpAny_of_eq (a:=()) (by first | rfl | kernel_rfl) ?_);refine tS (wpAny_of_eq (a:=()) (by first | rfl | kernel_rfl) ?_);try dsimp only
 refine tS (wpAny_specialOf hT F.slot_range_reversed.lookup ?_);try dsimp only
 refine tS (wpAny_of_eq (F.slot_range_reversed.bind _) ?_);try dsimp only
 first
 | rw[tV (show ¬((Value.builtin "range.__reversed__"==Value.none)=true)from hZ)]
 | (show wpAny _ _ (if (Value.builtin "range.__reversed__"==Value.none)=true then _ else _) _ _ _;rw[tV (show ¬((Value.builtin "range.__reversed__"==Value.none)=true)from hZ)])
 refine tS (wpAny_rule ?_);refine tS (m:=runValue (.call (.builtin "range.__reversed__") ⟨[.ref r],[]⟩)) (show wpAny _ _ (call (.builtin "range.__reversed__") [.ref r]) _ _ _ from OJ hr h0 h1 ?_);first
 | exact tT h
 | exact tS (tT (tT h))
theorem AC:isSubtype (.type "range_iterator") (.type "reversed")=pure false:=by rw[isSubtype_type];kernel_rfl
theorem UW{r:Addr}{n:Int}{t u v:Tok}{Q:Value->Shared->Prop}(hr:IsRange s.heap r 0 n 1 t u v)(h0:0<=n)(h1:n<2^62)
  (h:Q (.ref s.heap.objs.size) { s with heap:=s.heap.push { cls:=.type "range_iterator",data:=.fields #[rawInt (n-1),rawInt n,rawInt (-1)] } }) :
  wpAny (model prog w) A (call (.type "reversed") [.ref r]) Q E s:=by
 refine callType_other (U:="range_iterator") (Q₁:=λobj s₁=>obj=.ref s.heap.objs.size/\s₁ = { s with heap:=s.heap.push { cls:=.type "range_iterator",data:=.fields #[rawInt (n-1),rawInt n,rawInt (-1)] } }) (by decide +kernel) F.create_reversed ⟨_,_,F.mro_reversed⟩ F.made_reversed AC (F.typeCall_reversed_1 _) (US hr h0 h1 ⟨rfl,rfl⟩) ?_;rintro obj s₁ ⟨rfl,rfl⟩;exact⟨⟨_,gZ _ rfl,rfl⟩,h⟩
end
def Itd(n:Nat):It:=⟨λi _=>i<n,λi H x H'=>H'=H/\x=.int ((n:Int)-1-i),λi _=>n<=i⟩
theorem NT{P:Program}{w:World}{K:tX}{tg:Expr}(it:Addr)(n:Nat):Turn P w K tg (Itd n) [it] it (λi h=>IsRangeIter h it (((n:Int)-1)+(i:Nat)*(-1)) ((n:Int)-(i:Nat)) (-1)) where
 mem:=by simp
 obj:=λi h st b hb=>by
  have e:b=it:=by simpa using hb
  subst e;exact⟨_,st,λv z=>by
   have z':Data.fields _=Data.cell v:=z;cases z'⟩
 keep:=λi h h' st k=>k it (by simp) _ st
 item:=by
  intro X hP hw hK hc i ac s σ H E I hf st hg;subst hP hw hK;obtain⟨f0,f1,f2,f3,f4,f5⟩:=hf it (by simp);have W:=Walks.range (prog:=X.prog) (w:=X.w) (I.ok.hd hc) it ((n:Int)-1) (-1) n;refine W.item i s _ _ hg st λv h' tk hv st' kk=>?_;obtain⟨t,rfl⟩:=hv;have I1:Inv X ac σ H { s with heap:=h',toks:=tk } :=I.turned (λb o hb e=>kk b o (by simpa using hb) e) f0 f1 f3 f4 f5;refine⟨_,rfl,MV (s:={ s with heap:=h',toks:=tk }) (n:="range_iterator") st' rfl rfl (by decide) ⟨.int ((n:Int)-1-i),H,I1,⟨t, ?_⟩,⟨rfl,rfl⟩,st',λb hb=>(hf b hb).1⟩⟩;rw[show(n:Int)-1+(i:Int)*(-1)=(n:Int)-1-i by omega]
 done:=by
  intro X hP hw hK hc i ac s σ H E I hf st hg;subst hP hw hK;obtain⟨f0,f1,f2,f3,f4,f5⟩:=hf it (by simp);exact wpAny_pyNext_range_end (I.ok.hd hc) st (by have:n<=i:=hg;omega) λh' eb=>⟨rfl,I.turned (t':=s.toks) (λb o hb e=>eb b o hb e) f0 f1 f3 f4 f5⟩
 self:=λ_ _ _ _ _ st h=>wpAny_pyIter_rangeiter st h
section
variable{X:Cx}{tg:Expr}
def rRange:List V->Hp->VK->Prop:=λxs H Q=>∃n:Int,xs=[.int n]/\∀p,H p=none->Q (.ref p) (upd H p (.rng 0 n))
theorem KY:CallR X (.type "range") rRange:=by
 intro ac s σ H xs us Q I r h;obtain⟨n,rfl,q⟩:=h;obtain⟨u,rfl,t,rfl⟩:=xK r;refine call_range_1 ⟨.ref s.heap.objs.size,_,I.laid (a:=s.heap.objs.size) (o:=.rng 0 n) (λb u e=>gK _ e) uV ⟨_,_,_,gZ _ rfl⟩,rfl,q _ (I.hok.fresh uV)⟩
def iRev(ta:TA):TI:=fun σ H R=>ta σ H λvs H1=>∃(r:Addr) (n:Nat),vs=[.ref r]/\H1 r=some (.rng 0 n)/\n<2^62/\R (Itd n) H1
theorem ZN{a:Expr}{ta:TA}{p pos:Pos}(hg:Gl X "reversed")(hm:X.mg "reversed" = none)(ha:PA X [a] ta)(hs:starEach [a] X.env=[(false,eval a X.env)]:=by rfl):PI X tg (.Call (.Name "reversed" p) [a] [] pos) (iRev ta):=by
 intro ac s σ H R I h;refine Call_ (yA I hg hm (show bootBuiltins "reversed" = some (.type "reversed") by decide +kernel) (PyProof.Rows.callWith_type1 (thn (ha pos ac s σ H _ I h) λus s1 ⟨vs,H1,I1,r1,q1⟩=>?_) hs rfl));obtain⟨r,n,e,hr,hn,q⟩:=q1;subst e;obtain⟨u,rfl,ru⟩:=xK r1;cases ru;obtain⟨t,u,v,ho⟩:=(show ObjOk X.prog X.w H1 s1.heap r (.rng 0 n)from I1.hok r _ hr);refine UW ho (by omega) (by omega) (wpAny_pyIter_rangeiter (gZ _ rfl) ?_);refine⟨s1.heap.objs.size,[s1.heap.objs.size],_,_,H1,rfl,I1.kept (t':=s1.toks) λb o e=>gK _ e,NT _ n, ?_,λb hb=>?_,q⟩
 ·show IsRangeIter _ _ _ _ _;rw[show(n:Int)-1+((0:Nat):Int)*(-1)=n-1 by omega,show(n:Int)-((0:Nat):Int)=n by omega];exact gZ _ rfl
 ·have e:b=s1.heap.objs.size:=by simpa using hb
  subst e;exact I1.fpOk uV (I1.hok.fresh uV)
end
open Lw
section
variable{X:Cx}{pos:Pos}
end
section
variable{prog:Program}{w:World}{A:Around}{E:Value->Shared->Prop}{s:Shared}
theorem YT{it l:Addr}{items:Array Value}(ne:l≠it):∀(n i:Nat) (s:Shared) (Q:List Value->Shared->Prop),s.heap.IsListIter it l i->s.heap.IsList l items->i+n<=items.size->
  (∀g,g.IsListIter it l (i+n)->Heap.SameBut it s.heap g->Q ((items.toList.drop i).take n) { s with heap:=g })->wpAny (model prog w) A (draw (.ref it) n) Q E s
 | 0,i,s,Q,h1,_,_,q=>by
  show wpAny _ _ (pure []) Q E s;exact tT (by simpa using q s.heap h1 (Heap.SameBut.refl ..))
 | n+1,i,s,Q,h1,h2,le,q=>by
  have lt:i<items.size:=by omega
  show wpAny _ _ (pyNext (.ref it) >>= _) Q E s;refine tS (wpAny_pyNext_list_item h1 h2 (x:=items[i]) (by simp [lt]) λg1 k1 b1=>?_);refine tS (wpAny_holding (YT ne n (i+1) _ _ k1 (h2.extBut b1.extBut ne) (by omega) λg2 k2 b2=>tT ?_));have e:items.toList.drop i=items[i]::items.toList.drop (i+1):=by simp [List.drop_eq_getElem_cons,lt]
  have:=q g2 (by rw[show i+(n+1)=i+1+n by omega];exact k2) (b1.trans b2);rw[e,List.take_succ_cons]at this;exact this
theorem VG{l:Addr}{items:Array Value}{Q:List Value->Shared->Prop}(hh:A.handled=none)(hl:s.heap.IsList l items)
  (q:∀g,Heap.ExtBut s.heap.objs.size s.heap g->Q items.toList { s with heap:=g }):wpAny (model prog w) A (unpackItems (.ref l) items.size none) Q E s:=by
 have lt:l≠s.heap.objs.size:=by obtain⟨o,ho,_⟩:=hl;exact nZ (nX ho)
 unfold unpackItems;refine tS ?_;unfold notIterableAtAll;refine tS (wpAny_specialOf hl.typeIs slot_list_iter.lookup (tT ?_));simp only[Bool.false_eq_true,if_false];refine tS (wpAny_holding (wpAny_pyIter_list hl ?_));refine tS (wpAny_holding (YT lt items.size 0 _ _ ⟨_,gZ _ rfl,rfl,rfl⟩ (Heap.IsList.push hl _) (by omega) λg1 k1 b1=>?_));rw[show List.take items.size (List.drop 0 items.toList)=items.toList by rw[List.drop_zero];exact gL (by simp),tV (by simp)];have h1:g1.IsList l items:=Heap.IsList.extBut (Heap.IsList.push hl _) b1.extBut lt;refine tS (wpAny_holding (wpAny_pyNext_list_end hh k1 h1 (by simp) λg2 b2=>?_));simp only[Option.isSome_none,Bool.false_eq_true,if_false];exact tT (q g2 λb o hb e=>b2 b o hb (b1.extBut b o hb (gK _ e)))
end
section
variable{X:Cx}{pos:Pos}
def gTupL(K:tX)(n:Nat)(t:TGs):TG:=λv σ H Q=>∃a xs,v=.ref a/\SqL K H a xs/\xs.length=n/\t xs σ H Q
theorem MA{es:List Expr}{k:Nat}{t:TGs}{n:Nat}(hc:X.calm=true)(h:PGs X es t)
  (hn:(assignEach es X.env).length=n:=by rfl) (hst:(assignEach es X.env).findIdx? (·.1)=none:=by rfl):PG X (.Tuple es k pos) (gTupL X.K n t):=by
 intro ac s σ H v u Q I r hw;obtain⟨a,xs,e1,hq,hl,hw⟩:=hw;subst e1;cases r;obtain⟨its,rv,ht,hz⟩:=I.list hq;rw[PyProof.Rows.assign_Tuple];refine tS (wpAny_standAt ?_);unfold unpack;rw[show(assignEach es X.env).length=its.toArray.size by simp [hn,<-hl,rv.length],hst];refine tS (wpAny_holding (VG (I.ok.hd hc) ht.isList λh' hx=>?_));have I1:Inv X ac σ H { s with heap:=h' } :=I.kept (t':=s.toks) λb o e=>hx b o (nZ (nX e)) e;exact h ac _ σ H xs _ Q I1 (by simpa using rv) hw
end
structure ZL(z TI TO i1 i2 l1 l2:Addr)(k:Nat)(h:Heap):Prop where
 zz:IsZip h z TI TO .none
 ti:IsPair h TI (.ref i1) (.ref i2)
 to:∃a b,IsPair h TO a b
 one:h.IsListIter i1 l1 k
 two:h.IsListIter i2 l2 k
def ItzL(K:tX)(a b:Addr):It:=
 ⟨λi H=>∃xs ys x y,SqL K H a xs/\SqL K H b ys/\xs[i]? = some x/\ys[i]? = some y,
  λi H v H'=>∃p x y,H p=none/\v=.ref p/\H'=upd H p (.tup [x,y])/\(∀xs,SqL K H a xs->xs[i]? = some x)/\(∀ys,SqL K H b ys->ys[i]? = some y),
  λi H=>∃xs ys,SqL K H a xs/\SqL K H b ys/\(xs.length<=i∨ys.length<=i)⟩
theorem NR{P:Program}{w:World}{K:tX}{es:List Expr}{x1}{pos:Pos}(l1 l2:Addr){z TI TO i1 i2:Addr}(F:Five z TI TO i1 i2):Turn P w K (.Tuple es x1 pos) (ItzL K l1 l2) [z,TI,TO,i1,i2] z (λi h=>ZL z TI TO i1 i2 l1 l2 i h) where
 mem:=by simp
 obj:=λi h Z b hb=>by
  simp only[nP,mR,or_false]at hb;obtain⟨hz,hti,⟨a,c,hto⟩,⟨o1,g1,c1,d1⟩,⟨o2,g2,c2,d2⟩⟩:=Z;rcases hb with rfl | rfl | rfl | rfl | rfl
  ·exact⟨_,hz,λv q=>by cases (show Data.fields _=Data.cell v from q)⟩
  ·exact⟨_,hti,λv q=>by cases (show Data.seq _ _=Data.cell v from q)⟩
  ·exact⟨_,hto,λv q=>by cases (show Data.seq _ _=Data.cell v from q)⟩
  ·exact⟨_,g1,λv q=>by rw[d1]at q;cases q⟩
  ·exact⟨_,g2,λv q=>by rw[d2]at q;cases q⟩
 keep:=λi h h' Z k=>by
  obtain⟨hz,hti,⟨a,c,hto⟩,s1,s2⟩:=Z;exact⟨k z (by simp) _ hz,k TI (by simp) _ hti,⟨a,c,k TO (by simp) _ hto⟩,s1.at λo e=>k i1 (by simp) o e,s2.at λo e=>k i2 (by simp) o e⟩
 item:=by
  intro X hP hw hK hc i ac s σ H E I hf Z hg;subst hP hw hK;obtain⟨xs,ys,x,y,q1,q2,hx,hy⟩:=hg;obtain⟨its1,r1,p1,_⟩:=I.list q1;obtain⟨its2,r2,p2,_⟩:=I.list q2;obtain⟨u1,hu1,ru1⟩:=r1.get hx;obtain⟨u2,hu2,ru2⟩:=r2.get hy;have D:=F.of (λb hb=>FpOk.apartL I (hf b hb) q1) (λb hb=>FpOk.apartL I (hf b hb) q2);obtain⟨a0,b0,hto⟩:=Z.to;refine wpAny_pyNext_zip_item D Z.zz Z.ti hto Z.one Z.two p1.isList p2.isList (x:=u1) (y:=u2) (by simpa using hu1) (by simpa using hu2) λg z1 to1 n1 n2 nu _ kk=>⟨_,rfl, ?_⟩;refine wpAny_letOwnedTupleGo_zip z1 λg2 z2 sb=>?_;have fr:H s.heap.objs.size=none:=I.hok.fresh uV ;have fp:∀b∈[z,TI,TO,i1,i2],FpOk X ac (upd H s.heap.objs.size (.tup [x,y])) b:=λb hb=>by
   have lt:b≠s.heap.objs.size:=by
    simp only[nP,mR,or_false]at hb;obtain⟨hz,hti,⟨a,c,hto⟩,⟨o1,g1,_⟩,⟨o2,g2,_⟩⟩:=Z;rcases hb with rfl | rfl | rfl | rfl | rfl
    ·exact nZ (nX hz)
    ·exact nZ (nX hti)
    ·exact nZ (nX hto)
    ·exact nZ (nX g1)
    ·exact nZ (nX g2)
   exact⟨by rw[jH lt];exact(hf b hb).1,(hf b hb).2⟩
  have I1:Inv X ac σ (upd H s.heap.objs.size (.tup [x,y])) { s with heap:=s.heap.push { cls:=.type "tuple",data:=.seq #[u1,u2] } } :=I.laid (t':=s.toks) (λb u e=>gK _ e) uV ⟨by simp [sizeLine],[u1,u2],.cons ru1 (.cons ru2 .nil),⟨_,gZ _ rfl,rfl,_,rfl⟩,.of (gZ _ rfl) rfl⟩;have up:∀c o,c≠z->g.get? c=some o->g2.get? c=some o:=λc o cz e=>sb.extBut _ _ cz e;have zs:z≠s.heap.objs.size:=nZ (nX Z.zz);have I2:Inv X ac σ (upd H s.heap.objs.size (.tup [x,y])) { s with heap:=g2 } :=by
   refine Inv.turnedL (s:={ s with heap:=s.heap.push { cls:=.type "tuple",data:=.seq #[u1,u2] } }) (h':=g2) (t':=s.toks) I1 fp λb o hb e=>?_;simp only[nP,mR,or_false,not_or]at hb;rcases Heap.get?_push_cases e with⟨e1,e2⟩ | e1
   ·rw[e1,e2];exact up _ _ (Ne.symm zs) nu
   ·exact up _ _ hb.1 (kk b o hb.1 hb.2.2.1 hb.2.2.2.1 hb.2.2.2.2 e1)
  exact⟨.ref s.heap.objs.size,_,I2,rfl,⟨_,x,y,fr,rfl,rfl,λxs' h=>by rw[I.list_inj h q1];exact hx,λys' h=>by rw[I.list_inj h q2];exact hy⟩,⟨z2,up _ _ D.TIz (kk _ _ D.TIz D.TITO D.TIi1 D.TIi2 Z.ti),⟨_,_,up _ _ D.TOz to1⟩,n1.at λo e=>up _ o D.i1z e,n2.at λo e=>up _ o D.i2z e⟩,λb hb=>(fp b hb).1⟩
 done:=by
  intro X hP hw hK hc i ac s σ H E I hf Z hg;subst hP hw hK;obtain⟨xs,ys,q1,q2,he⟩:=hg;obtain⟨its1,r1,p1,_⟩:=I.list q1;obtain⟨its2,r2,p2,_⟩:=I.list q2;have D:=F.of (λb hb=>FpOk.apartL I (hf b hb) q1) (λb hb=>FpOk.apartL I (hf b hb) q2);have e1:=r1.length;have e2:=r2.length;obtain⟨a0,b0,hto⟩:=Z.to;refine wpAny_pyNext_zip_end (I.ok.hd hc) D Z.zz Z.ti hto Z.one Z.two p1.isList p2.isList ?_ λg kk=>⟨rfl,Inv.turnedL (t':=s.toks) I hf λb o hb e=>by
   simp only[nP,mR,or_false,not_or]at hb;exact kk b o hb.1 hb.2.2.1 hb.2.2.2.1 hb.2.2.2.2 e⟩
  rcases he with h | h
  ·exact .inl (by simp;omega)
  ·exact .inr (by simp;omega)
 self:=λ_ _ _ _ _ Z h=>wpAny_pyIter_zip Z.zz h
section
variable{X:Cx}
def iZipL(K:tX)(ta:TA):TI:=fun σ H R=>ta σ H λvs H1=>∃a b,vs=[.ref a,.ref b]/\(∃xs,SqL K H1 a xs)/\(∃ys,SqL K H1 b ys)/\R (ItzL K a b) H1
theorem LZ{es:List Expr}{x1}{tp:Pos}{a b:Expr}{ta:TA}{p pos:Pos}(hg:Gl X "zip")(hm:X.mg "zip" = none)(ha:PA X [a,b] ta)(hs:starEach [a,b] X.env=[(false,eval a X.env),(false,eval b X.env)]:=by rfl)(hs2:starEach [b] X.env=[(false,eval b X.env)]:=by rfl) :
  PI X (.Tuple es x1 tp) (.Call (.Name "zip" p) [a,b] [] pos) (iZipL X.K ta):=by
 intro ac s σ H R I h;refine Call_ (yA I hg hm boot_zip (PyProof.Rows.callWith_type1 (thn (ha pos ac s σ H _ I h) λus s1 ⟨vs,H1,I1,r1,q1⟩=>?_) (by rw[hs,hs2]) (by rw[hs2];rfl)));obtain⟨l1,l2,e,⟨xs,q1⟩,⟨ys,q2⟩,q⟩:=q1;subst e;cases r1 with
 | cons r rr=>
  cases rr with
  | cons r' rr=>
   cases rr;cases r;cases r';obtain⟨its1,_,p1,_⟩:=I1.list q1;obtain⟨its2,_,p2,_⟩:=I1.list q2;refine call_zip_2 p1.isList p2.isList λg z1 z2 z3 z4 z5 _ k=>wpAny_pyIter_zip z1 ?_;refine⟨_,_,_,_,H1,rfl,I1.kept (t':=s1.toks) k,NR l1 l2 ⟨by simp⟩,⟨z1,z2,⟨_,_,z3⟩,z4,z5⟩,λb hb=>?_,q⟩;have hb':s1.heap.objs.size<=b:=by
    simp only[nP,mR,or_false]at hb;rcases hb with rfl | rfl | rfl | rfl | rfl<;>first | exact Nat.le_add_right _ _ | exact tL _
   exact I1.fpOk hb' (I1.hok.fresh hb')
end
end L2
namespace L2
open PySem PySem.Spec PyProof.Rows
section
variable{prog:Program}{w:World}{A:Around}{E:Value->Shared->Prop}{s:Shared}
end
section
variable{X:Cx}{tg:Expr}
end
end L2
namespace Lw
open PySem PySem.Spec PyProof.Rows L2
section
variable{X:Cx}
end
theorem UA{K:tX}{a b:Addr}{xs ys:List V}{g:TG}{tb:TS}{D:Ends}{σ:L2.St}{H:Hp}(Pv:Nat->L2.St->Hp->Prop)(le:ys.length<=xs.length)(h0:Pv 0 σ H)(hl:∀i σ H,i<=ys.length->Pv i σ H->SqL K H a xs/\SqL K H b ys)
  (hs:∀i x y p σ H,xs[i]? = some x->ys[i]? = some y->H p=none->Pv i σ H->g (.ref p) σ (upd H p (.tup [x,y])) fun σ2 H2=>tb { D with nx:=Pv (i+1),ct:=Pv (i+1),bk:=D.nx } σ2 H2) (hd:∀σ H,Pv ys.length σ H->D.nx σ H) :
  ∃W:Nat->Nat->L2.St->Hp->Prop,(∃m,W 0 m σ H)/\∀i m σ H,W i m σ H->
   ((ItzL K a b).stop i H/\D.nx σ H)∨((ItzL K a b).go i H/\∃N:L2.St->Hp->Prop,(∀σ' H',N σ' H'->∃m',m'<m/\W (i+1) m' σ' H')/\∀x H',(ItzL K a b).yld i H x H'->g x σ H' fun σ2 H2=>tb { D with nx:=N,ct:=N,bk:=D.nx } σ2 H2):=by
 refine⟨λi m σ H=>m=ys.length-i/\i<=ys.length/\Pv i σ H,⟨ys.length,by simp,tM _,h0⟩, ?_⟩;rintro i m σ H ⟨rfl,hi,p⟩;obtain⟨q1,q2⟩:=hl i σ H hi p;by_cases hlt:i<ys.length
 ·have hx:i<xs.length:=by omega
  refine .inr ⟨⟨xs,ys,xs[i],ys[i],q1,q2,by simp [hx],by simp [hlt]⟩,Pv (i+1),fun σ' H' p'=>⟨ys.length-(i+1),by omega,rfl,hlt,p'⟩,λv H' y=>?_⟩;obtain⟨r,x,y',hr,rfl,rfl,e1,e2⟩:=y;exact hs i x y' r σ H (e1 xs q1) (e2 ys q2) hr p
 ·have ei:i=ys.length:=by omega
  subst ei;exact .inl ⟨⟨xs,ys,q1,q2,.inr uV⟩,hd σ H p⟩
section
variable{prog:Program}{w:World}{A:Around}{E:Value->Shared->Prop}{s:Shared}
end
section
variable{X:Cx}
end
section
variable{prog:Program}{w:World}{A:Around}{R:Result->Shared->Prop}{s:Shared}
end
section
variable{X:Cx}
end
section
variable{X:Cx}
end
section
variable{X:Cx}
end
theorem CL(elt t1 i1 t2 i2:Expr)(scope:Scope)(pos:Pos)(it acc:Value)(env:Env) :
  compTurn (.ListComp elt [⟨t1,i1,[],0⟩,⟨t2,i2,[],0⟩] scope pos) 0 it acc env=(standAt i1.pos >>= λ_=>pyNext it >>= λr=>match r with
   | none=>pure (.done .next)
   | some v=>letOwnedTupleGo t1 it v >>= λ_=>assign t1 env v >>= λ_=>
    eval i2 env >>= λx=>standAt i2.pos >>= λ_=>foldedSetIterable i2 env x >>= λx=>holding [x] (pyIter x) >>= λj=>runOwn (.compStart (.ListComp elt [⟨t1,i1,[],0⟩,⟨t2,i2,[],0⟩] scope pos) 1 j acc env) env >>= λ_=>
     again (.compLoop (.ListComp elt [⟨t1,i1,[],0⟩,⟨t2,i2,[],0⟩] scope pos) 0 it acc env)):=by rfl
theorem CK(elt t1 i1 t2 i2:Expr)(scope:Scope)(pos:Pos)(it acc:Value)(env:Env) :
  compTurn (.ListComp elt [⟨t1,i1,[],0⟩,⟨t2,i2,[],0⟩] scope pos) 1 it acc env=(standAt i2.pos >>= λ_=>pyNext it >>= λr=>match r with
   | none=>pure (.done .next)
   | some v=>letOwnedTupleGo t2 it v >>= λ_=>assign t2 env v >>= λ_=>
    (eval elt env >>= λx=>call (.builtin "list.append") [acc,x] >>= λ_=>pure ()) >>= λ_=>
     again (.compLoop (.ListComp elt [⟨t1,i1,[],0⟩,⟨t2,i2,[],0⟩] scope pos) 1 it acc env)):=by rfl
section
variable{prog:Program}{w:World}{A:Around}{R:Result->Shared->Prop}{s:Shared}
theorem CN{elt t1 i1 t2 i2:Expr}{scope:Scope}{pos:Pos}{it acc:Value}{env:Env}(I:Nat->Shared->Prop)(hs:∀x,foldedSetIterable i2 env x=pure x)
  (turn:∀n s,I n s->wpAny (model prog w) A (pyNext it) (λr s₁=>match r with
   | none=>R (.ok .next) s₁
   | some v=>wpAny (model prog w) A (letOwnedTupleGo t1 it v) (λ_ s₁'=>wpAny (model prog w) A (assign t1 env v) (λ_ s₂=>wpAny (model prog w) A (eval i2 env) (λx s₃=>
     wpAny (model prog w) A (pyIter x) (λj s₄=>codeAny (model prog w) A (.compStart (.ListComp elt [⟨t1,i1,[],0⟩,⟨t2,i2,[],0⟩] scope pos) 1 j acc env) (λr s'=>match r with | .ok _=>∃m,m<n/\I m s' | .error e=>cameBackBy (model prog w) A env (notedBy (model prog w) A env λe s'=>R (.error e) s') e s') s₄) (notedBy (model prog w) A env λe s'=>R (.error e) s') s₃)
     (notedBy (model prog w) A env λe s'=>R (.error e) s') s₂) (notedBy (model prog w) A env λe s'=>R (.error e) s') s₁') (notedBy (model prog w) A env λe s'=>R (.error e) s') s₁) (notedBy (model prog w) A env λe s'=>R (.error e) s') s)
  (n:Nat) (h:I n s) :
  codeAny (model prog w) A (.compLoop (.ListComp elt [⟨t1,i1,[],0⟩,⟨t2,i2,[],0⟩] scope pos) 0 it acc env) R s:=by
 refine codeAny_loop rfl I (λn s hI=>?_) n h;show wpAny _ _ ((compTurn (.ListComp elt [⟨t1,i1,[],0⟩,⟨t2,i2,[],0⟩] scope pos) 0 it acc env).onRaise (λx=>do noteFrame x env;theTreesLotGoes x)) _ _ s;refine wpAny_noted ?_;rw[CL];refine tS (wpAny_standAt (tS (tU (turn n s hI) (λr s₁ h₁=>?_) λ_ _ h'=>h')));cases r with
 | none=>exact tT h₁
 | some v=>
  refine tS (tU h₁ (λ_ s₁' h₁'=>?_) λ_ _ h'=>h');refine tS (tU h₁' (λ_ s₂ h₂=>?_) λ_ _ h'=>h');refine tS (tU h₂ (λx s₃ h₃=>?_) λ_ _ h'=>h');refine tS (wpAny_standAt (tS (wpAny_of_eq (hs x) (tS (wpAny_holding (tU h₃ (λj s₄ h₄=>?_) λ_ _ h'=>h'))))));exact tS (wpAny_runOwn (codeAny_mono h₄ λr s' h'=>by
   cases r with
   | ok f=>exact tT ⟨rfl,h'⟩
   | error e=>exact h'))
theorem CM{elt t1 i1 t2 i2:Expr}{scope:Scope}{pos:Pos}{it acc:Value}{env:Env}(I:Nat->Shared->Prop)
  (turn:∀n s,I n s->wpAny (model prog w) A (pyNext it) (λr s₁=>match r with
   | none=>R (.ok .next) s₁
   | some v=>wpAny (model prog w) A (letOwnedTupleGo t2 it v) (λ_ s₁'=>wpAny (model prog w) A (assign t2 env v) (λ_ s₂=>wpAny (model prog w) A (eval elt env) (λx s₃=>
     wpAny (model prog w) A (call (.builtin "list.append") [acc,x]) (λ_ s₄=>∃m,m<n/\I m s₄) (notedBy (model prog w) A env λe s'=>R (.error e) s') s₃)
     (notedBy (model prog w) A env λe s'=>R (.error e) s') s₂) (notedBy (model prog w) A env λe s'=>R (.error e) s') s₁') (notedBy (model prog w) A env λe s'=>R (.error e) s') s₁) (notedBy (model prog w) A env λe s'=>R (.error e) s') s)
  (n:Nat) (h:I n s) :
  codeAny (model prog w) A (.compLoop (.ListComp elt [⟨t1,i1,[],0⟩,⟨t2,i2,[],0⟩] scope pos) 1 it acc env) R s:=by
 refine codeAny_loop rfl I (λn s hI=>?_) n h;show wpAny _ _ ((compTurn (.ListComp elt [⟨t1,i1,[],0⟩,⟨t2,i2,[],0⟩] scope pos) 1 it acc env).onRaise (λx=>do noteFrame x env;theTreesLotGoes x)) _ _ s;refine wpAny_noted ?_;rw[CK];refine tS (wpAny_standAt (tS (tU (turn n s hI) (λr s₁ h₁=>?_) λ_ _ h'=>h')));cases r with
 | none=>exact tT h₁
 | some v=>
  refine tS (tU h₁ (λ_ s₁' h₁'=>?_) λ_ _ h'=>h');exact tS (tU h₁' (λ_ s₂ h₂=>tS (tS (tU h₂ (λx s₃ h₃=>tS (tU h₃
   (λ_ s₄ h₄=>tT (tT ⟨rfl,h₄⟩)) λ_ _ h'=>h')) λ_ _ h'=>h'))) λ_ _ h'=>h')
theorem CB{elt t1 i1 t2 i2:Expr}{scope:Scope}{pos:Pos}{it acc:Value}{env:Env}
  (h0:codeAny (model prog w) A (.compLoop (.ListComp elt [⟨t1,i1,[],0⟩,⟨t2,i2,[],0⟩] scope pos) 1 it acc env) R s)
  (h:wpAny (model prog w) A (pyIter it) (λit' s'=>codeAny (model prog w) A (.compLoop (.ListComp elt [⟨t1,i1,[],0⟩,⟨t2,i2,[],0⟩] scope pos) 1 it' acc env) R s')
   (notedBy (model prog w) A env λx s'=>R (.error x) s') s) :
  codeAny (model prog w) A (.compStart (.ListComp elt [⟨t1,i1,[],0⟩,⟨t2,i2,[],0⟩] scope pos) 1 it acc env) R s:=by
 refine codeAny_of_tree ?_;show wpAny _ _ ((compStart (.ListComp elt [⟨t1,i1,[],0⟩,⟨t2,i2,[],0⟩] scope pos) 1 it acc env).onRaise (λx=>do noteFrame x env;standAt theWindowsPlace)) _ _ s;refine wpAny_notedAt ?_;unfold compStart;show wpAny _ _ (ask >>= _) _ _ s;refine tS (wpAny_askSetting (wpAny_ite ?_));split
 ·first
   | exact tS (tT (tT (And.intro rfl h0)))
   | exact tT (And.intro rfl h0)
 ·first
   | exact tS (wpAny_rule (tS (wpAny_standAt (tS (tU h (λit' s' h'=>tT (And.intro rfl h')) λ_ _ x=>x)))))
   | (refine tS (wpAny_rule ?_);show wpAny _ _ (standAt i2.pos >>= _) _ _ s;exact tS (wpAny_standAt (tS (tU h (λit' s' h'=>tT (And.intro rfl h')) λ_ _ x=>x))))
end
def CompGoFI(σ0:L2.St)(J:It)(g:TG)(tt:TT)(te:TE)(Q:VK)(p:Addr)(H':Hp):Prop:=
 ∃W:Nat->Nat->List V->Hp->Prop,(∃m,W 0 m [] H')/\∀i m ys H2,W i m ys H2->H2 p=some (.lst ys)/\ys.length<sizeLine/\
  ((J.stop i H2/\Q (.ref p) H2)∨(J.go i H2/\∀x H3,J.yld i H2 x H3->g x σ0 H3 fun σ4 H4=>Keep σ0 σ4/\tt σ4 H4 λb H5=>if b=true then te σ4 H5 λy H6=>H6 p=some (.lst ys)/\∃m',m'<m/\W (i+1) m' (ys++[y]) (upd H6 p (.lst (ys++[y])))else ∃m',m'<m/\W (i+1) m' ys H5))
def EO(own:Nat)(idx:List Nat)(wi:TI)(g:TG)(tt:TT)(te:TE):TE:=fun σ H Q=>wi σ H λJ H1=>∀p H',H1 p=none->Same H1 H'->H' p=some (.lst [])->
 CompGoFI (List.replicate own none++idx.map λj=>(σ[j]?).getD none) J g tt te Q p H'
def CompGo2(σ0:L2.St)(J:It)(g:TG)(wi2:TI)(g2:TG)(te:TE)(Q:VK)(p:Addr)(H':Hp):Prop:=
 ∃W:Nat->Nat->Hp->Prop,(∃m,W 0 m H')/\∀i m H2,W i m H2->(J.stop i H2/\Q (.ref p) H2)∨(J.go i H2/\∀x H3,J.yld i H2 x H3->g x σ0 H3 fun σ4 H4=>wi2 σ4 H4 λJ2 H5=>
  ∃W2:Nat->Nat->List V->L2.St->Hp->Prop,(∃m2 ys,W2 0 m2 ys σ4 H5)/\∀j m2 ys σ5 H6,W2 j m2 ys σ5 H6->H6 p=some (.lst ys)/\ys.length<sizeLine/\
   ((J2.stop j H6/\Keep σ0 σ5/\∃m',m'<m/\W (i+1) m' H6)∨(J2.go j H6/\∀y H7,J2.yld j H6 y H7->g2 y σ5 H7 fun σ8 H8=>te σ8 H8 λz H9=>H9 p=some (.lst ys)/\∃m2',m2'<m2/\W2 (j+1) m2' (ys++[z]) σ8 (upd H9 p (.lst (ys++[z]))))))
def VJ(own:Nat)(idx:List Nat)(wi:TI)(g:TG)(wi2:TI)(g2:TG)(te:TE):TE:=fun σ H Q=>wi σ H λJ H1=>∀p H',H1 p=none->Same H1 H'->H' p=some (.lst [])->
 CompGo2 (List.replicate own none++idx.map λj=>(σ[j]?).getD none) J g wi2 g2 te Q p H'
section
variable{X:Cx}
theorem ON{own:Nat}{idx:List Nat}{N:List Str}{elt target iter c:Expr}{scope:Scope}{cl:List (Str×Addr)}{pos:Pos}{wi:TI}{g:TG}{tt:TT}{te:TE}(hc:X.calm=true)
  (hk:scope.kind=.function) (hclos:closureFor scope X.env=pure cl) (hcell:∀x∈scope.names,x.2≠.cell) (hnames:∀x∈scope.names,x.2=.local->scope.names.lookup x.1=some .local)
  (hsub:∀x c,cl.lookup x=some c->X.env.cells.lookup x=some c) (hhas:∀x,((relabel scope X.env).names.lookup x=some .cell∨(relabel scope X.env).names.lookup x=some .free)->∃c,cl.lookup x=some c)
  (hlen:N.length=own+idx.length)
  (hidx:∀(k j:Nat) (x:Str),idx[k]? = some j->N[own+k]? = some x->X.N[j]? = some x/\X.env.kindOf x=some .cell/\(relabel scope X.env).names.lookup x=some .cell/\X.env.scope.names.lookup x=some .cell)
  (hi:PI X target iter wi) (hg:∀C fp s2 H2,PG (jJ X N scope cl C fp s2 H2) target g) (ht:∀C fp s2 H2,PT (jJ X N scope cl C fp s2 H2) c tt) (he:∀C fp s2 H2,PE (jJ X N scope cl C fp s2 H2) elt te)
  (hs:∀x,foldedSetIterable iter X.env x=pure x:=by intro _;rfl):PE X (.ListComp elt [⟨target,iter,[c],0⟩] scope pos) (EO own idx wi g tt te):=by
 intro ac s σ H Q I h;rw[eval_ListComp];refine wpAny_comprehension_free (use:=none) rfl hs hclos hk hnames (thn (hi ac s σ H _ I h) λv s1 h1=>thn h1 λitv s2 h2=>?_);obtain⟨it,fp,tn,J,H1,e,I2,T,st2,f2,hR⟩:=h2;subst e;have hlt:∀b∈fp,b<s2.heap.objs.size:=λb hb=>by
  obtain⟨o,ho,_⟩:=T.obj 0 _ st2 b hb;exact nX ho
 refine wpAny_newObj_type (wpAny_newFunctionEnv hcell (by intro y hy;simp at hy) (λh₁ hns₁ hsb₁=>?_) hk);dsimp only at hns₁ hsb₁ ⊢;generalize hHH:s2.heap.push { cls:=.type "list",dict:=none,data:=.seq ([]:List Value).toArray } = HH at hns₁ hsb₁ ⊢;have hCe:HH.objs.size=s2.heap.objs.size+1:=by rw[<-hHH,nN]
 have hDC:s2.heap.objs.size≠HH.objs.size:=by rw[hCe];exact nZ (mW _)
 have hCle:s2.heap.objs.size<=HH.objs.size:=by rw[hCe];exact Nat.le_succ _
 have old:∀b o,s2.heap.get? b=some o->h₁.get? b=some o:=λb o e=>hsb₁.extBut b o (by rw[hCe];exact nZ (Nat.lt_succ_of_lt (nX e))) (gK _ (hHH▸gK _ e));have hD:h₁.get? s2.heap.objs.size=some { cls:=.type "list",dict:=none,data:=.seq ([]:List Value).toArray } :=hsb₁.extBut _ _ hDC (gK _ (hHH▸gZ _ rfl));have nD:H1 s2.heap.objs.size=none:=I2.hok.fresh uV ;obtain⟨W,⟨m0,w0⟩,turn⟩:=hR s2.heap.objs.size _ nD (kF (.lst []) nD) jF;generalize hσ:(List.replicate own none++idx.map λj=>(σ[j]?).getD none:L2.St)=σ0 at turn;have lσ:σ0.length=N.length:=by rw[<-hσ,hV,gO,mY,hlen]
 have ok:=xT (N:=N) (cl:=cl) (C:=HH.objs.size) I2 hk hsub hhas hCle f2 hlt;have oldC:∀c v,s2.heap.IsCell c v->h₁.IsCell c v:=λc v ⟨o,ho,hd⟩=>⟨o,old c o ho,hd⟩;have I4:Inv (jJ X N scope cl HH.objs.size fp s2 H1) [] σ0 (upd H1 s2.heap.objs.size (.lst [])) { s2 with heap:=h₁,toks:=s2.toks+([]:List (Str×Value)).length } :=by
  refine⟨ok,rfl,I2.bare,Un.laid old uV nD,⟨_,hns₁,λi x v e1 e2 _=>?_⟩,(λx c z=>?_), ?_,(λx c z=>?_),(λp hp=>nomatch hp),I2.hok.laid old uV ?_,lσ⟩
  ·
   rw[<-hσ]at e2;by_cases hi':i<own
   ·rw[gF (by rw[gO];exact hi'),List.getElem?_replicate]at e2;split at e2<;>cases e2
   ·obtain⟨k,rfl⟩:∃k,i=own+k:=⟨i-own,by omega⟩;rw[gC (by rw[gO];omega),gO,Nat.add_sub_cancel_left,mH]at e2;cases ej:idx[k]? with
    | none=>rw[ej]at e2;cases e2
    | some j=>
     rw[ej,Option.map_some]at e2;have e2:=Option.some.inj e2;obtain⟨n1,n2,n3,n4⟩:=hidx k j x ej e1;have e3:σ[j]? = some (some v):=by
      cases q:σ[j]? with
      | none=>rw[q]at e2;cases e2
      | some y=>rw[q,Option.getD_some]at e2;rw[e2]
     obtain⟨m,hm,hl⟩:=I2.loc;obtain⟨u,ru,lk⟩:=hl j x v n1 e3 (.inr (.inl n4));refine⟨u,ru, ?_⟩;rcases lk with⟨kl,_⟩ | ⟨_,c,hcl,hic⟩
     ·rw[n2]at kl;cases kl
     ·obtain⟨c',hc'⟩:=hhas x (.inl n3);have:c'=c:=Option.some.inj ((hsub x c' hc').symm.trans hcl);subst this;exact .inr ⟨.inl n3,c',hc',oldC _ _ hic⟩
  ·obtain⟨v,hv⟩:=I2.cell x c (hsub x c z);exact⟨v,oldC _ _ hv⟩
  ·show(upd H1 s2.heap.objs.size (.lst [])) HH.objs.size=none;rw[jH (Ne.symm hDC)];exact I2.hok.fresh hCle
  ·obtain⟨v,hv⟩:=I2.cell x c (hsub x c z);show(upd H1 s2.heap.objs.size (.lst [])) c=none;rw[jH (nZ hv.lt)];exact I2.freeC x c (hsub x c z)
  ·exact⟨by show 0<=sizeLine;decide,[],0,.nil,hD⟩
 have stat:∀{H':Hp},(∀b∈fp,H' b=none)->∀b∈fp,FpOk (jJ X N scope cl HH.objs.size fp s2 H1) [] H' b:=λhn b hb=>
  ⟨hn b hb,(ok.exf b hb).1,ok.exfs b hb,.inl hb,(ok.exf b hb).2,λp hp=>nomatch hp⟩
 have st4:tn 0 h₁:=T.keep _ _ _ st2 λb _ o e=>old b o e;have fr4:∀b∈fp,(upd H1 s2.heap.objs.size (.lst [])) b=none:=λb hb=>by
  rw[jH (nZ (hlt b hb))];exact(f2 b hb).1
 have loop:codeAny (model X.prog X.w) X.A (.compLoop (.ListComp elt [⟨target,iter,[c],0⟩] scope pos) 0 (.ref it) (.ref s2.heap.objs.size) (compEnvC scope cl HH.objs.size X.env))
   (compPost (model X.prog X.w) X.A X.xe none (EP X ac σ Q) (.ref s2.heap.objs.size) HH.objs.size) { s2 with heap:=h₁,toks:=s2.toks+([]:List (Str×Value)).length } :=by
  refine zO (λn s'=>∃i ys H',Inv (jJ X N scope cl HH.objs.size fp s2 H1) [] σ0 H' s'/\tn i s'.heap/\(∀b∈fp,H' b=none)/\W i n ys H') ?_ m0 ⟨0,[],_,I4,st4,fr4,w0⟩;rintro n s3 ⟨i,ys,H3,I3,st3,fr3,w3⟩;obtain⟨hp3,hz3,hw⟩:=turn i n ys H3 w3;rcases hw with⟨stop,qn⟩ | ⟨go,step⟩
  ·refine thn (T.done (jJ X N scope cl HH.objs.size fp s2 H1) rfl rfl rfl hc i [] s3 _ H3 _ I3 (stat fr3) st3 stop) λr s4 ⟨hr,I5⟩=>?_;subst hr;obtain⟨m,hm,_⟩:=id I5.loc;refine⟨m,hm,λh' sb=>⟨.ref s2.heap.objs.size,H3, ?_,rfl,qn⟩⟩;have k:∀b o,b≠HH.objs.size->s4.heap.get? b=some o->h'.get? b=some o:=λb o hb e=>sb.extBut b o hb e;have nb:∀b o,s2.heap.get? b=some o->b≠HH.objs.size:=λb o e=>by rw[hCe];exact nZ (Nat.lt_succ_of_lt (nX e))
   have U:=I5.base;have fC:H3 HH.objs.size=none:=I5.free;refine I2.call' (ch:=fp) (s':={ s4 with heap:=h' }) I5.os ⟨λb o e n hb hx=>k b o (nb b o e) (U.keep b o e n hb hx),λb o e n hb hx=>?_,U.free,λb o e hx=>?_,U.tups,U.frzs,U.tbls⟩ (λb u e=>?_) I5.bare (λb hb=>⟨(f2 b hb).2.2.2.1,(f2 b hb).2.1,(f2 b hb).2.2.2.2.1,(f2 b hb).2.2.2.2.2⟩)
   ·obtain⟨sl,q⟩:=U.slot b o e n hb hx;exact⟨sl,k b _ (nb b o e) q⟩
   ·obtain⟨o',q⟩:=U.there b o e hx;exact⟨o',k b _ (nb b o e) q⟩
   ·refine(I5.hok b u e).stay (λc v hcc q=>k c v ?_ q) (λ_ q=>q) λ_ _ q=>q;rcases hcc with z | z
    ·rw[z];intro y;rw[y,fC]at e;cases e
    ·intro y;rw[y,fC]at z;cases z
  ·refine tU (T.item (jJ X N scope cl HH.objs.size fp s2 H1) rfl rfl rfl hc i [] s3 _ H3 (λ_ _=>False) I3 (stat fr3) st3 go) (λr s4 ⟨u,hr,h4⟩=>?_) λ_ _ z=>z.elim;subst hr;refine tU h4 (λ_ s5 ⟨x,H5,I5,r5,y5,st5,fr5⟩=>?_) λ_ _ z=>z.elim;have I5':=I5.pinned (stat fr5) (T.obj _ _ st5);refine tU (hg _ _ _ _ _ s5 _ H5 x u _ I5' r5 (step x H5 y5)) (λ_ s6 ⟨σ6,H6,I6,kp6,q6⟩=>?_) λ_ _ z=>z.elim;refine tU (ht _ _ _ _ _ s6 σ6 H6 _ I6 q6) (λb s6' ⟨H6',I6',q6'⟩=>?_) λ_ _ z=>z.elim;cases b with
   | false=>
    rw[tV hZ]at q6' ⊢;obtain⟨m',hm',w7⟩:=q6';refine⟨m',hm',i+1,_,_,(I6'.unpinned).weak (by rw[lσ,I6'.len];rfl) kp6,T.keep _ _ _ st5 λb hb o e=>(I6'.pin (b,o) (gN _ (gN _ (jS hb e)))).1,λb hb=>?_,w7⟩;obtain⟨o,e,d⟩:=T.obj _ _ st5 b hb;exact(I6'.pin (b,o) (gN _ (gN _ (jS hb e)))).2.1
   | true=>
    rw[tW rfl]at q6' ⊢;refine tU (he _ _ _ _ _ s6' σ6 H6' _ I6' q6') (λy s7 ⟨yv,H7,I7,r7,q7⟩=>?_) λ_ _ z=>z.elim;obtain⟨e7,m',hm',w7⟩:=q7;refine tU (vC (X:=jJ X N scope cl HH.objs.size fp s2 H1) _ s7 σ6 H7 (.ref s2.heap.objs.size) [yv] (.ref s2.heap.objs.size) [y] (λ_ H8=>H8=upd H7 s2.heap.objs.size (.lst (ys++[yv]))) I7 rfl (.cons r7 .nil) ⟨_,ys,yv,rfl,rfl,e7,hz3,rfl⟩) (λ_ s8 ⟨_,H8,I8,_,q8⟩=>?_) λ_ _ z=>z.elim;subst q8;refine⟨m',hm',i+1,_,_,(I8.unpinned).weak (by rw[lσ,I8.len];rfl) kp6,T.keep _ _ _ st5 λb hb o e=>(I8.pin (b,o) (gN _ (gN _ (jS hb e)))).1,λb hb=>?_,w7⟩;obtain⟨o,e,d⟩:=T.obj _ _ st5 b hb;exact(I8.pin (b,o) (gN _ (gN _ (jS hb e)))).2.1
 exact codeAny_compStart_list loop (T.self _ 0 _ _ _ st4 loop)
theorem OO{own:Nat}{idx:List Nat}{N:List Str}{elt target iter t2 i2:Expr}{scope:Scope}{cl:List (Str×Addr)}{pos:Pos}{wi wi2:TI}{g g2:TG}{te:TE}(hc:X.calm=true)
  (hk:scope.kind=.function) (hclos:closureFor scope X.env=pure cl) (hcell:∀x∈scope.names,x.2≠.cell) (hnames:∀x∈scope.names,x.2=.local->scope.names.lookup x.1=some .local)
  (hsub:∀x c,cl.lookup x=some c->X.env.cells.lookup x=some c) (hhas:∀x,((relabel scope X.env).names.lookup x=some .cell∨(relabel scope X.env).names.lookup x=some .free)->∃c,cl.lookup x=some c)
  (hlen:N.length=own+idx.length)
  (hidx:∀(k j:Nat) (x:Str),idx[k]? = some j->N[own+k]? = some x->X.N[j]? = some x/\X.env.kindOf x=some .cell/\(relabel scope X.env).names.lookup x=some .cell/\X.env.scope.names.lookup x=some .cell)
  (hi:PI X target iter wi) (hg:∀C fp s2 H2,PG (jJ X N scope cl C fp s2 H2) target g) (hi2:∀C fp s2 H2,PI (jJ X N scope cl C fp s2 H2) t2 i2 wi2) (hg2:∀C fp s2 H2,PG (jJ X N scope cl C fp s2 H2) t2 g2) (he:∀C fp s2 H2,PE (jJ X N scope cl C fp s2 H2) elt te)
  (hs:∀x,foldedSetIterable iter X.env x=pure x:=by intro _;rfl) (hs2:∀(env:Env) x,foldedSetIterable i2 env x=pure x:=by intro _ _;rfl):PE X (.ListComp elt [⟨target,iter,[],0⟩,⟨t2,i2,[],0⟩] scope pos) (VJ own idx wi g wi2 g2 te):=by
 intro ac s σ H Q I h;rw[eval_ListComp];refine wpAny_comprehension_free (use:=none) rfl hs hclos hk hnames (thn (hi ac s σ H _ I h) λv s1 h1=>thn h1 λitv s2 h2=>?_);obtain⟨it,fp,tn,J,H1,e,I2,T,st2,f2,hR⟩:=h2;subst e;have hlt:∀b∈fp,b<s2.heap.objs.size:=λb hb=>by
  obtain⟨o,ho,_⟩:=T.obj 0 _ st2 b hb;exact nX ho
 refine wpAny_newObj_type (wpAny_newFunctionEnv hcell (by intro y hy;simp at hy) (λh₁ hns₁ hsb₁=>?_) hk);dsimp only at hns₁ hsb₁ ⊢;generalize hHH:s2.heap.push { cls:=.type "list",dict:=none,data:=.seq ([]:List Value).toArray } = HH at hns₁ hsb₁ ⊢;have hCe:HH.objs.size=s2.heap.objs.size+1:=by rw[<-hHH,nN]
 have hDC:s2.heap.objs.size≠HH.objs.size:=by rw[hCe];exact nZ (mW _)
 have hCle:s2.heap.objs.size<=HH.objs.size:=by rw[hCe];exact Nat.le_succ _
 have old:∀b o,s2.heap.get? b=some o->h₁.get? b=some o:=λb o e=>hsb₁.extBut b o (by rw[hCe];exact nZ (Nat.lt_succ_of_lt (nX e))) (gK _ (hHH▸gK _ e));have hD:h₁.get? s2.heap.objs.size=some { cls:=.type "list",dict:=none,data:=.seq ([]:List Value).toArray } :=hsb₁.extBut _ _ hDC (gK _ (hHH▸gZ _ rfl));have nD:H1 s2.heap.objs.size=none:=I2.hok.fresh uV ;obtain⟨W,⟨m0,w0⟩,turn⟩:=hR s2.heap.objs.size _ nD (kF (.lst []) nD) jF;generalize hσ:(List.replicate own none++idx.map λj=>(σ[j]?).getD none:L2.St)=σ0 at turn;have lσ:σ0.length=N.length:=by rw[<-hσ,hV,gO,mY,hlen]
 have ok:=xT (N:=N) (cl:=cl) (C:=HH.objs.size) I2 hk hsub hhas hCle f2 hlt;have oldC:∀c v,s2.heap.IsCell c v->h₁.IsCell c v:=λc v ⟨o,ho,hd⟩=>⟨o,old c o ho,hd⟩;have I4:Inv (jJ X N scope cl HH.objs.size fp s2 H1) [] σ0 (upd H1 s2.heap.objs.size (.lst [])) { s2 with heap:=h₁,toks:=s2.toks+([]:List (Str×Value)).length } :=by
  refine⟨ok,rfl,I2.bare,Un.laid old uV nD,⟨_,hns₁,λi x v e1 e2 _=>?_⟩,(λx c z=>?_), ?_,(λx c z=>?_),(λp hp=>nomatch hp),I2.hok.laid old uV ?_,lσ⟩
  ·
   rw[<-hσ]at e2;by_cases hi':i<own
   ·rw[gF (by rw[gO];exact hi'),List.getElem?_replicate]at e2;split at e2<;>cases e2
   ·obtain⟨k,rfl⟩:∃k,i=own+k:=⟨i-own,by omega⟩;rw[gC (by rw[gO];omega),gO,Nat.add_sub_cancel_left,mH]at e2;cases ej:idx[k]? with
    | none=>rw[ej]at e2;cases e2
    | some j=>
     rw[ej,Option.map_some]at e2;have e2:=Option.some.inj e2;obtain⟨n1,n2,n3,n4⟩:=hidx k j x ej e1;have e3:σ[j]? = some (some v):=by
      cases q:σ[j]? with
      | none=>rw[q]at e2;cases e2
      | some y=>rw[q,Option.getD_some]at e2;rw[e2]
     obtain⟨m,hm,hl⟩:=I2.loc;obtain⟨u,ru,lk⟩:=hl j x v n1 e3 (.inr (.inl n4));refine⟨u,ru, ?_⟩;rcases lk with⟨kl,_⟩ | ⟨_,c,hcl,hic⟩
     ·rw[n2]at kl;cases kl
     ·obtain⟨c',hc'⟩:=hhas x (.inl n3);have:c'=c:=Option.some.inj ((hsub x c' hc').symm.trans hcl);subst this;exact .inr ⟨.inl n3,c',hc',oldC _ _ hic⟩
  ·obtain⟨v,hv⟩:=I2.cell x c (hsub x c z);exact⟨v,oldC _ _ hv⟩
  ·show(upd H1 s2.heap.objs.size (.lst [])) HH.objs.size=none;rw[jH (Ne.symm hDC)];exact I2.hok.fresh hCle
  ·obtain⟨v,hv⟩:=I2.cell x c (hsub x c z);show(upd H1 s2.heap.objs.size (.lst [])) c=none;rw[jH (nZ hv.lt)];exact I2.freeC x c (hsub x c z)
  ·exact⟨by show 0<=sizeLine;decide,[],0,.nil,hD⟩
 have stat:∀{H':Hp},(∀b∈fp,H' b=none)->∀b∈fp,FpOk (jJ X N scope cl HH.objs.size fp s2 H1) [] H' b:=λhn b hb=>
  ⟨hn b hb,(ok.exf b hb).1,ok.exfs b hb,.inl hb,(ok.exf b hb).2,λp hp=>nomatch hp⟩
 have st4:tn 0 h₁:=T.keep _ _ _ st2 λb _ o e=>old b o e;have fr4:∀b∈fp,(upd H1 s2.heap.objs.size (.lst [])) b=none:=λb hb=>by
  rw[jH (nZ (hlt b hb))];exact(f2 b hb).1
 have loop:codeAny (model X.prog X.w) X.A (.compLoop (.ListComp elt [⟨target,iter,[],0⟩,⟨t2,i2,[],0⟩] scope pos) 0 (.ref it) (.ref s2.heap.objs.size) (compEnvC scope cl HH.objs.size X.env))
   (compPost (model X.prog X.w) X.A X.xe none (EP X ac σ Q) (.ref s2.heap.objs.size) HH.objs.size) { s2 with heap:=h₁,toks:=s2.toks+([]:List (Str×Value)).length } :=by
  refine CN (λn s'=>∃i H',Inv (jJ X N scope cl HH.objs.size fp s2 H1) [] σ0 H' s'/\tn i s'.heap/\(∀b∈fp,H' b=none)/\W i n H') (hs2 _) ?_ m0 ⟨0,_,I4,st4,fr4,w0⟩;rintro n s3 ⟨i,H3,I3,st3,fr3,w3⟩;have hw:=turn i n H3 w3;rcases hw with⟨stop,qn⟩ | ⟨go,step⟩
  ·refine thn (T.done (jJ X N scope cl HH.objs.size fp s2 H1) rfl rfl rfl hc i [] s3 _ H3 _ I3 (stat fr3) st3 stop) λr s4 ⟨hr,I5⟩=>?_;subst hr;obtain⟨m,hm,_⟩:=id I5.loc;refine⟨m,hm,λh' sb=>⟨.ref s2.heap.objs.size,H3, ?_,rfl,qn⟩⟩;have k:∀b o,b≠HH.objs.size->s4.heap.get? b=some o->h'.get? b=some o:=λb o hb e=>sb.extBut b o hb e;have nb:∀b o,s2.heap.get? b=some o->b≠HH.objs.size:=λb o e=>by rw[hCe];exact nZ (Nat.lt_succ_of_lt (nX e))
   have U:=I5.base;have fC:H3 HH.objs.size=none:=I5.free;refine I2.call' (ch:=fp) (s':={ s4 with heap:=h' }) I5.os ⟨λb o e n hb hx=>k b o (nb b o e) (U.keep b o e n hb hx),λb o e n hb hx=>?_,U.free,λb o e hx=>?_,U.tups,U.frzs,U.tbls⟩ (λb u e=>?_) I5.bare (λb hb=>⟨(f2 b hb).2.2.2.1,(f2 b hb).2.1,(f2 b hb).2.2.2.2.1,(f2 b hb).2.2.2.2.2⟩)
   ·obtain⟨sl,q⟩:=U.slot b o e n hb hx;exact⟨sl,k b _ (nb b o e) q⟩
   ·obtain⟨o',q⟩:=U.there b o e hx;exact⟨o',k b _ (nb b o e) q⟩
   ·refine(I5.hok b u e).stay (λc v hcc q=>k c v ?_ q) (λ_ q=>q) λ_ _ q=>q;rcases hcc with z | z
    ·rw[z];intro y;rw[y,fC]at e;cases e
    ·intro y;rw[y,fC]at z;cases z
  ·refine tU (T.item (jJ X N scope cl HH.objs.size fp s2 H1) rfl rfl rfl hc i [] s3 _ H3 (λ_ _=>False) I3 (stat fr3) st3 go) (λr s4 ⟨u,hr,h4⟩=>?_) λ_ _ z=>z.elim;subst hr;refine tU h4 (λ_ s5 ⟨x,H5,I5,r5,y5,st5,fr5⟩=>?_) λ_ _ z=>z.elim;have I5':=I5.pinned (stat fr5) (T.obj _ _ st5);refine tU (hg _ _ _ _ _ s5 _ H5 x u _ I5' r5 (step x H5 y5)) (λ_ s6 ⟨σ6,H6,I6,q6⟩=>?_) λ_ _ z=>z.elim;generalize hpins:([]:List (Addr×Obj))++BK fp s5.heap=pins' at I6;have keepT:∀{σ7:L2.St} {H7:Hp} {s7:Shared},Inv (jJ X N scope cl HH.objs.size fp s2 H1) pins' σ7 H7 s7->Keep σ0 σ7->∀{m':Nat},m'<n->W (i+1) m' H7->∃m,m<n/\∃i H',Inv (jJ X N scope cl HH.objs.size fp s2 H1) [] σ0 H' s7/\tn i s7.heap/\(∀b∈fp,H' b=none)/\W i m H':=fun {σ7 H7 s7} I7 kp {m'} hm' w7=>by
    subst hpins;refine⟨m',hm',i+1,_,(I7.unpinned).weak (by rw[lσ,I7.len];rfl) kp,T.keep _ _ _ st5 λb hb o e=>(I7.pin (b,o) (gN _ (gN _ (jS hb e)))).1,λb hb=>?_,w7⟩;obtain⟨o,e,d⟩:=T.obj _ _ st5 b hb;exact(I7.pin (b,o) (gN _ (gN _ (jS hb e)))).2.1
   refine tU (hi2 _ _ _ _ _ s6 σ6 H6 _ I6 q6) (λx2 s7 h7=>tU h7 (λj2 s8 h8=>?_) λ_ _ z=>z.elim) λ_ _ z=>z.elim;obtain⟨it2,fp2,tn2,J2,H8,e8,I8,T2,st8,f8,W2,⟨m20,ys0,w20⟩,turn2⟩:=h8;subst e8;have stat2:∀{H':Hp},(∀b∈fp2,H' b=none)->∀b∈fp2,FpOk (jJ X N scope cl HH.objs.size fp s2 H1) pins' H' b:=λhn b hb=>⟨hn b hb,(f8 b hb).2⟩;have loop2:codeAny (model X.prog X.w) X.A (.compLoop (.ListComp elt [⟨target,iter,[],0⟩,⟨t2,i2,[],0⟩] scope pos) 1 (.ref it2) (.ref s2.heap.objs.size) (compEnvC scope cl HH.objs.size X.env)) (λr s'=>match r with | .ok _=>∃m,m<n/\∃i H',Inv (jJ X N scope cl HH.objs.size fp s2 H1) [] σ0 H' s'/\tn i s'.heap/\(∀b∈fp,H' b=none)/\W i m H' | .error e=>cameBackBy (model X.prog X.w) X.A (compEnvC scope cl HH.objs.size X.env) (notedBy (model X.prog X.w) X.A (compEnvC scope cl HH.objs.size X.env) λe s'=>compPost (model X.prog X.w) X.A X.xe none (EP X ac σ Q) (.ref s2.heap.objs.size) HH.objs.size (.error e) s') e s') s8:=by
    refine CM (λn2 s'=>∃j ys σ' H',Inv (jJ X N scope cl HH.objs.size fp s2 H1) pins' σ' H' s'/\tn2 j s'.heap/\(∀b∈fp2,H' b=none)/\W2 j n2 ys σ' H') ?_ m20 ⟨0,ys0,σ6,H8,I8,st8,λb hb=>(f8 b hb).1,w20⟩;rintro n2 s9 ⟨j,ys,σ9,H9,I9,st9,fr9,w9⟩;obtain⟨hp9,hz9,hw9⟩:=turn2 j n2 ys σ9 H9 w9;rcases hw9 with⟨stop2,kp9,m',hm',w'⟩ | ⟨go2,step2⟩
    ·refine thn (T2.done (jJ X N scope cl HH.objs.size fp s2 H1) rfl rfl rfl hc j pins' s9 σ9 H9 _ I9 (stat2 fr9) st9 stop2) λr s10 ⟨hr,I10⟩=>?_;subst hr;exact keepT I10 kp9 hm' w'
    ·refine tU (T2.item (jJ X N scope cl HH.objs.size fp s2 H1) rfl rfl rfl hc j pins' s9 σ9 H9 (λ_ _=>False) I9 (stat2 fr9) st9 go2) (λr s10 ⟨u2,hr,h10⟩=>?_) λ_ _ z=>z.elim;subst hr;refine tU h10 (λ_ s11 ⟨x11,H11,I11,r11,y11,st11,fr11⟩=>?_) λ_ _ z=>z.elim;have I11':=I11.pinned (stat2 fr11) (T2.obj _ _ st11);refine tU (hg2 _ _ _ _ _ s11 _ H11 x11 u2 _ I11' r11 (step2 x11 H11 y11)) (λ_ s12 ⟨σ12,H12,I12,q12⟩=>?_) λ_ _ z=>z.elim;refine tU (he _ _ _ _ _ s12 σ12 H12 _ I12 q12) (λy s13 ⟨yv,H13,I13,r13,q13⟩=>?_) λ_ _ z=>z.elim;obtain⟨e13,m',hm',w13⟩:=q13;refine tU (vC (X:=jJ X N scope cl HH.objs.size fp s2 H1) _ s13 σ12 H13 (.ref s2.heap.objs.size) [yv] (.ref s2.heap.objs.size) [y] (λ_ H14=>H14=upd H13 s2.heap.objs.size (.lst (ys++[yv]))) I13 rfl (.cons r13 .nil) ⟨_,ys,yv,rfl,rfl,e13,hz9,rfl⟩) (λ_ s14 ⟨_,H14,I14,_,q14⟩=>?_) λ_ _ z=>z.elim;subst q14;refine⟨m',hm',j+1,_,_,_,I14.unpinned,T2.keep _ _ _ st11 λb hb o e=>(I14.pin (b,o) (gN _ (gN _ (jS hb e)))).1,λb hb=>?_,w13⟩;obtain⟨o,e,d⟩:=T2.obj _ _ st11 b hb;exact(I14.pin (b,o) (gN _ (gN _ (jS hb e)))).2.1
   exact CB loop2 (T2.self _ 0 _ _ _ st8 loop2)
 exact codeAny_compStart_list loop (T.self _ 0 _ _ _ st4 loop)
end
end Lw
namespace LwD
open PySem PySem.Spec PyProof.Rows L2
section
variable{prog:Program}{w:World}{A:Around}{E:Value->Shared->Prop}{s:Shared}{d it vw:Addr}{es:Array DictEntry}{ep i:Nat}
theorem OF{Q:Value->Shared->Prop}(lo:(d==sysModules)=false)(r:Raw s.heap d es ep)(q:Q (.ref s.heap.objs.size) { s with heap:=s.heap.push { cls:=.type "dict_values",data:=.fields #[.ref d] } }) :
  wpAny (model prog w) A (call (.builtin "dict.values") [.ref d]) Q E s:=by
 refine wpAny_call_entry PySem.F.slot_dict_values r.ty PySem.F.entry_dict_values ?_ (PySem.F.args_dict_values_1 _);unfold Builtin.«dict.values»;refine tS ?_;unfold Builtin.Dict.noArgs;refine tS (wpAny_notOrdered_dict r.ty ?_);show wpAny _ _ (pure d) _ _ s;refine tT ?_;show wpAny _ _ (Builtin.Dict.showsAll d >>= _) _ _ s;unfold Builtin.Dict.showsAll;rw[tV (by rw[lo];exact hZ)];refine tS (tT ?_);exact tS (wpAny_newObj_type (tT ⟨_,rfl,q⟩))
theorem OH{Q:Value->Shared->Prop}(hv:s.heap.IsValuesView vw d)(r:Raw s.heap d es ep)
  (hQ:Q (.ref s.heap.objs.size) { s with heap:=s.heap.push { cls:=.type "dict_valueiterator",data:=.fields #[.ref d,.int 0 0,.int es.size 0,.int ep 0] } }):wpAny (model prog w) A (pyIter (.ref vw)) Q E s:=by
 obtain⟨ov,hov,hcv,hdv⟩:=id hv;obtain⟨o,ho,hc,hdat⟩:=id r;refine wpAny_pyIter_slot hv.typeIs F.slot_dict_values_iter (wpAny_call_entry F.slot_dict_values_iter hv.typeIs F.entry_dict_values_iter ?_ (F.args_dict_values_iter_1 _));unfold Builtin.«dict_values.__iter__»;refine tS (tT ?_);refine tS ?_;unfold Builtin.Dict_items.dictOf;refine tS (wpAny_field hov hdv (x:=.ref d) rfl (tT ?_));refine tS ?_;unfold Builtin.Dict_items.newIterator;refine tS (wpAny_dictEntries ho hdat ?_);refine tS (wpAny_dictEpoch ho hdat ?_);have hown:Builtin.Dict_items.ownsTuple "dict_valueiterator" = false:=by decide
 simp only[hown,Bool.false_eq_true,if_false];refine wpAny_newObj_type (tT ⟨_,rfl,"dict_valueiterator",_,⟨_,gZ _ rfl,rfl⟩,F.slot_dict_valueiterator_next.lookup, ?_⟩);simpa [rawInt]using hQ
theorem OG{Q:Option Value->Shared->Prop}(k:s.heap.IsValIter it d i es.size ep)(r:Raw s.heap d es ep)(hi:i<es.size)
  (q:∀h',h'.IsValIter it d (i+1) es.size ep->Heap.SameBut it s.heap h'->Q (some es[i].val) { s with heap:=h' }):wpAny (model prog w) A (pyNext (.ref it)) Q E s:=by
 have ty:=k.typeIs;obtain⟨o,ho,hc,hd⟩:=id k;obtain⟨od,hod,hcd,hdd⟩:=id r;have own:Builtin.Dict_items.ownsTuple "dict_valueiterator" = false:=by decide
 unfold pyNext;refine tS (wpAny_attempt (wpAny_callSpecial?_slot (name:=Str.ofString "__next__") ty PySem.F.slot_dict_valueiterator_next (wpAny_call_entry PySem.F.slot_dict_valueiterator_next ty PySem.F.entry_dict_valueiterator_next ?_ (PySem.F.args_dict_valueiterator_next_1 _))));refine tS (tT (tS (tS ?_)));first | refine tS (wpAny_typeNameOfWhole_valiter ty (tT (tS (wpAny_fieldsOf ho hd ?_)))) | refine tS (wpAny_typeNameOf_valiter ty (tT (tS (wpAny_fieldsOf ho hd ?_))))
 simp only[own,Bool.false_eq_true,if_false];show wpAny _ _ (if (Value.ref d==Value.none)=true then _ else _) _ _ s;rw[tV (show ¬((Value.ref d==Value.none)=true)from hZ)];refine tS (tT (tS (wpAny_dictEntries hod hdd ?_)));rw[tV (by simp)];refine tS (tT (tS (wpAny_dictEpoch hod hdd ?_)));rw[tV (by simp)];refine tT ?_;simp only[show ¬((i:Int)<0)from by omega,if_false,mP,Array.getElem?_eq_getElem hi];refine tS ?_;first | refine tS (wpAny_typeNameOfWhole_valiter ty (tT (tS (wpAny_isOneOf_valiter ty ?_)))) | refine tS (wpAny_typeNameOf_valiter ty (tT (tS (wpAny_isOneOf_valiter ty ?_))))
 show wpAny _ _ (setField (.ref it) 1 (rawInt ((i:Int)+1)) >>= _) _ _ s;have k':(s.heap.update it (Obj.mapFields (·.setIfInBounds 1 (rawInt ((i:Int)+1))))).IsValIter it d (i+1) es.size ep:=
  ⟨_,Heap.get?_update_self _ ho (Obj.isFreed_of_fields (Obj.data_mapFields hd _)),(Obj.cls_mapFields ..).trans hc,by rw[Obj.data_mapFields hd];simp [rawInt]⟩
 refine tS (wpAny_setField ho hd (by simp) (tS (wpAny_holding ?_)));refine tS (wpAny_isOneOf_valiter (s:={ s with heap:=s.heap.update it (Obj.mapFields (·.setIfInBounds 1 (rawInt ((i:Int)+1)))) }) k'.typeIs ?_);refine tS (wpAny_isOneOf_valiter (s:={ s with heap:=s.heap.update it (Obj.mapFields (·.setIfInBounds 1 (rawInt ((i:Int)+1)))) }) k'.typeIs ?_);show wpAny _ _ (pure es[i].val) _ _ _;exact tT (tT ⟨_,rfl,tT (q _ k' (Heap.SameBut.update ..))⟩)
theorem RM{Q:Option Value->Shared->Prop}(hh:A.handled=none)(k:s.heap.IsValIter it d es.size es.size ep)(r:Raw s.heap d es ep)(q:∀h',Heap.ExtBut it s.heap h'->Q none { s with heap:=h' }):wpAny (model prog w) A (pyNext (.ref it)) Q E s:=by
 have ty:=k.typeIs;obtain⟨o,ho,hc,hd⟩:=id k;obtain⟨od,hod,hcd,hdd⟩:=id r;have own:Builtin.Dict_items.ownsTuple "dict_valueiterator" = false:=by decide
 unfold pyNext;refine tS (wpAny_attempt (wpAny_callSpecial?_slot (name:=Str.ofString "__next__") ty PySem.F.slot_dict_valueiterator_next (wpAny_call_entry PySem.F.slot_dict_valueiterator_next ty PySem.F.entry_dict_valueiterator_next ?_ (PySem.F.args_dict_valueiterator_next_1 _))));refine tS (tT (tS (tS ?_)));first | refine tS (wpAny_typeNameOfWhole_valiter ty (tT (tS (wpAny_fieldsOf ho hd ?_)))) | refine tS (wpAny_typeNameOf_valiter ty (tT (tS (wpAny_fieldsOf ho hd ?_))))
 simp only[own,Bool.false_eq_true,if_false];show wpAny _ _ (if (Value.ref d==Value.none)=true then _ else _) _ _ s;rw[tV (show ¬((Value.ref d==Value.none)=true)from hZ)];refine tS (tT (tS (wpAny_dictEntries hod hdd ?_)));rw[tV (by simp)];refine tS (tT (tS (wpAny_dictEpoch hod hdd ?_)));rw[tV (by simp)];refine tT ?_;simp only[show ¬((es.size:Int)<0)from by omega,if_false,mP,Array.getElem?_eq_none (tL es.size)];refine tS ?_;first | refine tS (wpAny_typeNameOfWhole_valiter ty (tT ?_)) | refine tS (wpAny_typeNameOf_valiter ty (tT ?_))
 show wpAny _ _ (setField (.ref it) 0 .none >>= _) _ _ s;refine tS (wpAny_setField ho hd (by simp) (show wpAny _ _ (newExc (.type "StopIteration") [] >>= _) _ _ _ from tS ?_));simp only[newExc,newTuple];refine tS (wpAny_newObj_type (tS (m:=firstArgMember _ _) (wpAny_of_eq (a:=Value.none) (by first | rfl | (simp only[firstArgMember];rfl)) (wpAny_newObj_type ?_ (by size_fits)))) (by size_fits));simp only[raiseNew];refine tS (wpAny_handled ?_);rw[show A.in1.handled=none from hh];refine tS (tT (wpAny_throw ?_));refine tS (wpAny_isInstance (b:=true) (T:="StopIteration") ⟨_,gZ _ rfl,rfl⟩ isSubtype_stop ?_);exact tT (q _ (((Heap.SameBut.update ..).extBut.push _).push _))
theorem JE{h h':Heap}{n:Nat}(x:h.IsValIter it d i n ep)(k:∀o,h.get? it=some o->h'.get? it=some o):h'.IsValIter it d i n ep:=let ⟨o,ho,r⟩:=x;⟨o,k o ho,r⟩
theorem JD{h h':Heap}(x:h.IsValuesView vw d)(k:∀o,h.get? vw=some o->h'.get? vw=some o):h'.IsValuesView vw d:=let ⟨o,ho,r⟩:=x;⟨o,k o ho,r⟩
theorem FO{n:Nat}{Q:Value->Shared->Prop}(k:s.heap.IsValIter it d i n ep)(h:Q (.ref it) s):wpAny (model prog w) A (pyIter (.ref it)) Q E s:=by
 first | exact wpAny_pyIter_valiter k h | exact PySem.W.wpAny_pyIter_valiter k h
theorem JT(hh:A.handled=none)(hne:d≠it):Walks prog w A it [it,d] [it] es.size (λi v=>∃h:i<es.size,v=es[i].val) (λi h=>h.IsValIter it d i es.size ep/\Raw h d es ep) where
 sub:=λb hb=>by simp at hb;simp [hb]
 frame:=λ_ _ _ st hk=>⟨JE st.1 λo e=>hk it (by simp) o e,st.2.keep λo e=>hk d (by simp) o e⟩
 item:=λi s Q E hi st hQ=>OG st.1 st.2 hi λh' k' hs'=>hQ _ h' s.toks ⟨hi,rfl⟩ ⟨k',st.2.keep λo e=>hs'.extBut d o hne e⟩ λb o hb e=>hs'.extBut b o (λh=>hb (by simp [h])) e
 done:=λs Q E st hQ=>RM hh st.1 st.2 λh' he'=>hQ h' s.toks λb o hb e=>he' b o (λh=>hb (by simp [h])) e
 self:=λ_ _ _ _ st hQ=>FO st.1 hQ
theorem RJ:PySem.W.KdlSrc prog w "dict_values" vw d es.size (λi v=>∃h:i<es.size,v=es[i].val) (λh=>h.IsValuesView vw d/\Raw h d es ep) where
 type:=λ_ hm=>hm.1.typeIs
 there:=λ_ hm=>⟨let ⟨_,ho,_⟩:=hm.1;nX ho,hm.2.lt⟩
 keep:=λ_ _ hm hk=>⟨JD hm.1 λo e=>hk vw (.inl rfl) o e,hm.2.keep λo e=>hk d (.inr rfl) o e⟩
 notList:=by decide
 notTuple:=by decide
 hint:=λ_ _ _ _ hm hq=>PySem.W.kdl_hint_values hm.1.typeIs hq
 iter:=λ_ _ hh hm=>⟨_,_,(λ_ _ hq=>OH hm.1 hm.2 hq),JT hh (nZ hm.2.lt),⟨⟨_,gZ _ rfl,rfl,rfl⟩,hm.2.keep λo e=>gK _ e⟩⟩
end
section
variable{X:Cx}
def YZ(to:TE):TE:=fun σ H Q=>to σ H λv H1=>∃d ag,v=.ref d/\H1 d=some (.dT ag)/\Lw.New H1 (.lst (ag.map (·.2))) Q
theorem KTvals{H:Hp} :∀{ag:List (List Key×V)} {xs:List (List Key×Addr×Value)},KT H ag xs->Vals (ag.map (·.2)) (xs.map λx=>x.2.2):=by
 intro ag xs h;induction h with
 | nil=>exact .nil
 | cons k _ ih=>exact .cons k.2.2 ih
theorem RS{o:Expr}{to:TE}{p apos cpos pos:Pos}(hc:X.calm=true)(hg:Gl X "list")(hm:X.mg "list" = none)(ho:PE X o to)(hbase:attributeBase o "values" X.env (eval o X.env)=eval o X.env:=by rfl)(hline:(apos.endLine==cpos.line)=true:=by rfl)
  (hs2:starEach [.Call (.Attribute o "values" apos) [] [] cpos] X.env=[(false,eval (.Call (.Attribute o "values" apos) [] [] cpos) X.env)]:=by rfl) :
  PE X (.Call (.Name "list" p) [.Call (.Attribute o "values" apos) [] [] cpos] [] pos) (YZ to):=by
 intro ac s σ H Q I h;refine wpAny_Call_Name_kw (yA I hg hm (show bootBuiltins "list" = some (.type "list") by decide +kernel) ?_ (by decide) (by decide));refine PyProof.Rows.callWith_type1 ?_ hs2 rfl;rw[hs2];show wpAny _ _ (spliced ((false,eval (.Call (.Attribute o "values" apos) [] [] cpos) X.env)::backTo pos [])) _ _ s;refine Calls.spliced_cons ?_;refine wpAny_Call_method0_late hbase hline (thn (ho ac s σ H _ I h) λv s1 ⟨x,H1,I1,r1,d,ag,e,ed,q⟩=>?_);subst e;cases r1;obtain⟨h1,h2⟩:=JH I1 (x:=.ref d) rfl (T:="dict") (.inr (.inr (.inl ⟨rfl,.inr ⟨ag,ed⟩⟩)));obtain⟨z,lo,ks,rel,dd⟩:=UH I1.hok ed;obtain⟨o',es,ep,hd1,hd2,hd3,he,his,hn⟩:=id dd;have raw:Raw s1.heap d es ep:=⟨o',hd1,hd2,hd3⟩;have esz:es.size=ag.length:=by rw[size_of_entries he,<-Paired.length rel]
 refine⟨"dict","dict.values",PySem.F.plainAttrs_dict,PySem.F.slot_dict_values,PySem.F.type_dict_values,h1,h2,Calls.callWith_builtin rfl (PySem.evalArgs_none ?_)⟩;refine OF lo raw ?_;refine Calls.spliced_nil ?_;have psz:(s1.heap.push { cls:=.type "dict_values",data:=.fields #[.ref d] }).objs.size=s1.heap.objs.size+1:=nN ..;refine PySem.W.kdl_call (RJ (vw:=s1.heap.objs.size) (d:=d) (es:=es) (ep:=ep)) (I1.ok.hd hc) ⟨⟨_,gZ _ rfl,rfl,rfl⟩,raw.keep λo e=>gK _ e⟩ (by rw[esz];exact z) λh' tk acc' c' hk hS' hacc=>?_;have n:H1 (s1.heap.push { cls:=.type "dict_values",data:=.fields #[.ref d] }).objs.size=none:=I1.hok.fresh (by rw[psz];exact Nat.le_succ _);have va:acc'.toList=ks.map λx=>x.2.2:=by
  refine List.ext_getElem? λj=>?_;by_cases hj:j<es.size
  ·obtain⟨hj2,ev⟩:=hacc.2 j acc'[j]! (by rw[Array.getElem?_eq_getElem (by rw[hacc.1];exact hj),getElem!_pos acc' j (by rw[hacc.1];exact hj)]);have e1:=entry_at he j;rw[Array.getElem?_eq_getElem hj]at e1;cases e2:ks[j]? with
   | none=>rw[e2]at e1;cases e1
   | some x=>
    rw[e2]at e1;have e3:es[j]=entryOfKey _ x:=Option.some.inj e1;rw[mH,e2,Array.getElem?_toList,Array.getElem?_eq_getElem (by rw[hacc.1];exact hj)];rw[getElem!_pos acc' j (by rw[hacc.1];exact hj)]at ev;rw[ev,e3]
    rfl
  ·rw[gP (by rw[Array.length_toList,hacc.1];omega),gP (by rw[mY,<-Paired.length rel,<-esz];omega)]
 refine⟨.ref _,_,I1.laid (t':=tk) (o:=.lst (ag.map (·.2))) (λb ob q=>hk b ob (gK _ q)) (by rw[psz];exact Nat.le_succ _) ?_,rfl,q _ _ n (Lw.kF _ n) jF⟩;refine⟨by rw[mY];exact z,ks.map (λx=>x.2.2),c',KTvals rel, ?_⟩;rw[<-va,Array.toArray_toList];exact hS'
end
end LwD
namespace Lw
open PySem PySem.Spec PyProof.Rows L2
section
variable{X:Cx}
theorem uN{i:Nat}{y:Str}{py spos:Pos}(hN:X.N.Nodup)(hi:X.N[i]? = some y)(hx:Loc X.env.scope y){own:Nat}{idx:List Nat}{N:List Str}{elt target iter c:Expr}{scope:Scope}{cl:List (Str×Addr)}{pos:Pos}{wi:TI}{g:TG}{tt:TT}{te:TE}(hc:X.calm=true)
  (hk:scope.kind=.function) (hclos:closureFor scope X.env=pure cl) (hcell:∀x∈scope.names,x.2≠.cell) (hnames:∀x∈scope.names,x.2=.local->scope.names.lookup x.1=some .local)
  (hsub:∀x c,cl.lookup x=some c->X.env.cells.lookup x=some c) (hhas:∀x,((relabel scope X.env).names.lookup x=some .cell∨(relabel scope X.env).names.lookup x=some .free)->∃c,cl.lookup x=some c)
  (hlen:N.length=own+idx.length)
  (hidx:∀(k j:Nat) (x:Str),idx[k]? = some j->N[own+k]? = some x->X.N[j]? = some x/\X.env.kindOf x=some .cell/\(relabel scope X.env).names.lookup x=some .cell/\X.env.scope.names.lookup x=some .cell)
  (hit:PI X target iter wi) (hg:∀C fp s2 H2,PG (jJ X N scope cl C fp s2 H2) target g) (ht:∀C fp s2 H2,PT (jJ X N scope cl C fp s2 H2) c tt) (he:∀C fp s2 H2,PE (jJ X N scope cl C fp s2 H2) elt te)
  (hsw:swapsWith (.ListComp elt [⟨target,iter,[c],0⟩] scope pos) (some (.Name y py)) spos.line X.env=pure true:=by rfl)
  (hs:∀x,foldedSetIterable iter X.env x=pure x:=by intro _;rfl) (hfn:X.fn y=true∨X.env.scope.names.lookup y=some .local:=by first | exact .inl rfl | exact .inr rfl | assumption):PS X (.Assign [.Name y py] (.ListComp elt [⟨target,iter,[c],0⟩] scope pos) spos) (yC (EO own idx wi g tt te) (kR i)):=by
 intro ac s σ H D I h;rw[exec_Assign_Name_used _ _ _ _ hsw];refine tS (wpAny_standAt (tS ?_));show wpAny _ X.A (do let _<-comprehension (.ListComp elt [⟨target,iter,[c],0⟩] scope pos) scope X.env _ (newList []) false (eval iter X.env) (some (assign (.Name y py) X.env))) _ _ s;refine tS (tU (wpAny_comprehension_free (use:=some (assign (.Name y py) X.env)) (Q:=λ_ s'=>∃σ' H',Inv X ac σ' H' s'/\D.nx σ' H') rfl hs hclos hk hnames (thn (hit ac s σ H _ I h) λv s1 h1=>thn h1 λitv s2 h2=>?_)) (λ_ s' hq=>tT (tT hq)) λ_ _ e=>e);obtain⟨it,fp,tn,J,H1,e,I2,T,st2,f2,hR⟩:=h2;subst e;have hlt:∀b∈fp,b<s2.heap.objs.size:=λb hb=>by
  obtain⟨o,ho,_⟩:=T.obj 0 _ st2 b hb;exact nX ho
 refine wpAny_newObj_type (wpAny_newFunctionEnv hcell (by intro y hy;simp at hy) (λh₁ hns₁ hsb₁=>?_) hk);dsimp only at hns₁ hsb₁ ⊢;generalize hHH:s2.heap.push { cls:=.type "list",dict:=none,data:=.seq ([]:List Value).toArray } = HH at hns₁ hsb₁ ⊢;have hCe:HH.objs.size=s2.heap.objs.size+1:=by rw[<-hHH,nN]
 have hDC:s2.heap.objs.size≠HH.objs.size:=by rw[hCe];exact nZ (mW _)
 have hCle:s2.heap.objs.size<=HH.objs.size:=by rw[hCe];exact Nat.le_succ _
 have old:∀b o,s2.heap.get? b=some o->h₁.get? b=some o:=λb o e=>hsb₁.extBut b o (by rw[hCe];exact nZ (Nat.lt_succ_of_lt (nX e))) (gK _ (hHH▸gK _ e));have hD:h₁.get? s2.heap.objs.size=some { cls:=.type "list",dict:=none,data:=.seq ([]:List Value).toArray } :=hsb₁.extBut _ _ hDC (gK _ (hHH▸gZ _ rfl));have nD:H1 s2.heap.objs.size=none:=I2.hok.fresh uV ;obtain⟨W,⟨m0,w0⟩,turn⟩:=hR s2.heap.objs.size _ nD (kF (.lst []) nD) jF;generalize hσ:(List.replicate own none++idx.map λj=>(σ[j]?).getD none:L2.St)=σ0 at turn;have lσ:σ0.length=N.length:=by rw[<-hσ,hV,gO,mY,hlen]
 have ok:=xT (N:=N) (cl:=cl) (C:=HH.objs.size) I2 hk hsub hhas hCle f2 hlt;have oldC:∀c v,s2.heap.IsCell c v->h₁.IsCell c v:=λc v ⟨o,ho,hd⟩=>⟨o,old c o ho,hd⟩;have I4:Inv (jJ X N scope cl HH.objs.size fp s2 H1) [] σ0 (upd H1 s2.heap.objs.size (.lst [])) { s2 with heap:=h₁,toks:=s2.toks+([]:List (Str×Value)).length } :=by
  refine⟨ok,rfl,I2.bare,Un.laid old uV nD,⟨_,hns₁,λi x v e1 e2 _=>?_⟩,(λx c z=>?_), ?_,(λx c z=>?_),(λp hp=>nomatch hp),I2.hok.laid old uV ?_,lσ⟩
  ·
   rw[<-hσ]at e2;by_cases hi':i<own
   ·rw[gF (by rw[gO];exact hi'),List.getElem?_replicate]at e2;split at e2<;>cases e2
   ·obtain⟨k,rfl⟩:∃k,i=own+k:=⟨i-own,by omega⟩;rw[gC (by rw[gO];omega),gO,Nat.add_sub_cancel_left,mH]at e2;cases ej:idx[k]? with
    | none=>rw[ej]at e2;cases e2
    | some j=>
     rw[ej,Option.map_some]at e2;have e2:=Option.some.inj e2;obtain⟨n1,n2,n3,n4⟩:=hidx k j x ej e1;have e3:σ[j]? = some (some v):=by
      cases q:σ[j]? with
      | none=>rw[q]at e2;cases e2
      | some y=>rw[q,Option.getD_some]at e2;rw[e2]
     obtain⟨m,hm,hl⟩:=I2.loc;obtain⟨u,ru,lk⟩:=hl j x v n1 e3 (.inr (.inl n4));refine⟨u,ru, ?_⟩;rcases lk with⟨kl,_⟩ | ⟨_,c,hcl,hic⟩
     ·rw[n2]at kl;cases kl
     ·obtain⟨c',hc'⟩:=hhas x (.inl n3);have:c'=c:=Option.some.inj ((hsub x c' hc').symm.trans hcl);subst this;exact .inr ⟨.inl n3,c',hc',oldC _ _ hic⟩
  ·obtain⟨v,hv⟩:=I2.cell x c (hsub x c z);exact⟨v,oldC _ _ hv⟩
  ·show(upd H1 s2.heap.objs.size (.lst [])) HH.objs.size=none;rw[jH (Ne.symm hDC)];exact I2.hok.fresh hCle
  ·obtain⟨v,hv⟩:=I2.cell x c (hsub x c z);show(upd H1 s2.heap.objs.size (.lst [])) c=none;rw[jH (nZ hv.lt)];exact I2.freeC x c (hsub x c z)
  ·exact⟨by show 0<=sizeLine;decide,[],0,.nil,hD⟩
 have stat:∀{H':Hp},(∀b∈fp,H' b=none)->∀b∈fp,FpOk (jJ X N scope cl HH.objs.size fp s2 H1) [] H' b:=λhn b hb=>
  ⟨hn b hb,(ok.exf b hb).1,ok.exfs b hb,.inl hb,(ok.exf b hb).2,λp hp=>nomatch hp⟩
 have st4:tn 0 h₁:=T.keep _ _ _ st2 λb _ o e=>old b o e;have fr4:∀b∈fp,(upd H1 s2.heap.objs.size (.lst [])) b=none:=λb hb=>by
  rw[jH (nZ (hlt b hb))];exact(f2 b hb).1
 have loop:codeAny (model X.prog X.w) X.A (.compLoop (.ListComp elt [⟨target,iter,[c],0⟩] scope pos) 0 (.ref it) (.ref s2.heap.objs.size) (compEnvC scope cl HH.objs.size X.env))
   (compPost (model X.prog X.w) X.A X.xe (some (assign (.Name y py) X.env)) (λ_ s'=>∃σ' H',Inv X ac σ' H' s'/\D.nx σ' H') (.ref s2.heap.objs.size) HH.objs.size) { s2 with heap:=h₁,toks:=s2.toks+([]:List (Str×Value)).length } :=by
  refine zO (λn s'=>∃i ys H',Inv (jJ X N scope cl HH.objs.size fp s2 H1) [] σ0 H' s'/\tn i s'.heap/\(∀b∈fp,H' b=none)/\W i n ys H') ?_ m0 ⟨0,[],_,I4,st4,fr4,w0⟩;rintro n s3 ⟨i,ys,H3,I3,st3,fr3,w3⟩;obtain⟨hp3,hz3,hw⟩:=turn i n ys H3 w3;rcases hw with⟨stop,qn⟩ | ⟨go,step⟩
  ·refine thn (T.done (jJ X N scope cl HH.objs.size fp s2 H1) rfl rfl rfl hc i [] s3 _ H3 _ I3 (stat fr3) st3 stop) λr s4 ⟨hr,I5⟩=>?_;subst hr;obtain⟨m,hm,_⟩:=id I5.loc;have U:=I5.base;have fC:H3 HH.objs.size=none:=I5.free;have IX:Inv X ac σ H3 s4:=I2.call' (ch:=fp) (s':=s4) I5.os U I5.hok I5.bare (λb hb=>⟨(f2 b hb).2.2.2.1,(f2 b hb).2.1,(f2 b hb).2.2.2.2.1,(f2 b hb).2.2.2.2.2⟩);have ltC:∀b,b<s2.heap.objs.size->b≠HH.objs.size:=λb hb=>nZ (mB hb hCle);show wpAny _ X.A (assign (.Name y py) X.env (.ref s2.heap.objs.size)) _ _ s4;refine wpAny_assign_Name (uC IX hN hi hx (v:=.ref s2.heap.objs.size) rfl (λs5 I6 ⟨a,sb,ha⟩=>?_) hfn);have aC:a≠HH.objs.size:=by
    rcases ha with ha | ha
    ·rw[ha];exact ltC _ I2.lt
    ·obtain⟨v,hv⟩:=I2.cell y a ha;exact ltC _ hv.lt
   refine⟨m,hm.sameBut sb (Ne.symm aC),λh' sb'=>⟨_,H3, ?_,qn⟩⟩;refine I6.turned (it:=HH.objs.size) (t':=s5.toks) (λb o hb e=>sb'.extBut b o hb e) fC (Ne.symm (ltC _ I2.lt)) (.inr (nY I2.sz hCle)) (λx c hc=>?_) (λp hp=>?_)
   ·obtain⟨v,hv⟩:=I2.cell x c hc;exact ltC _ hv.lt
   ·exact ltC _ (nX (I2.pin p hp).1)
  ·refine tU (T.item (jJ X N scope cl HH.objs.size fp s2 H1) rfl rfl rfl hc i [] s3 _ H3 (λ_ _=>False) I3 (stat fr3) st3 go) (λr s4 ⟨u,hr,h4⟩=>?_) λ_ _ z=>z.elim;subst hr;refine tU h4 (λ_ s5 ⟨x,H5,I5,r5,y5,st5,fr5⟩=>?_) λ_ _ z=>z.elim;have I5':=I5.pinned (stat fr5) (T.obj _ _ st5);refine tU (hg _ _ _ _ _ s5 _ H5 x u _ I5' r5 (step x H5 y5)) (λ_ s6 ⟨σ6,H6,I6,kp6,q6⟩=>?_) λ_ _ z=>z.elim;refine tU (ht _ _ _ _ _ s6 σ6 H6 _ I6 q6) (λb s6' ⟨H6',I6',q6'⟩=>?_) λ_ _ z=>z.elim;cases b with
   | false=>
    rw[tV hZ]at q6' ⊢;obtain⟨m',hm',w7⟩:=q6';refine⟨m',hm',i+1,_,_,(I6'.unpinned).weak (by rw[lσ,I6'.len];rfl) kp6,T.keep _ _ _ st5 λb hb o e=>(I6'.pin (b,o) (gN _ (gN _ (jS hb e)))).1,λb hb=>?_,w7⟩;obtain⟨o,e,d⟩:=T.obj _ _ st5 b hb;exact(I6'.pin (b,o) (gN _ (gN _ (jS hb e)))).2.1
   | true=>
    rw[tW rfl]at q6' ⊢;refine tU (he _ _ _ _ _ s6' σ6 H6' _ I6' q6') (λy s7 ⟨yv,H7,I7,r7,q7⟩=>?_) λ_ _ z=>z.elim;obtain⟨e7,m',hm',w7⟩:=q7;refine tU (vC (X:=jJ X N scope cl HH.objs.size fp s2 H1) _ s7 σ6 H7 (.ref s2.heap.objs.size) [yv] (.ref s2.heap.objs.size) [y] (λ_ H8=>H8=upd H7 s2.heap.objs.size (.lst (ys++[yv]))) I7 rfl (.cons r7 .nil) ⟨_,ys,yv,rfl,rfl,e7,hz3,rfl⟩) (λ_ s8 ⟨_,H8,I8,_,q8⟩=>?_) λ_ _ z=>z.elim;subst q8;refine⟨m',hm',i+1,_,_,(I8.unpinned).weak (by rw[lσ,I8.len];rfl) kp6,T.keep _ _ _ st5 λb hb o e=>(I8.pin (b,o) (gN _ (gN _ (jS hb e)))).1,λb hb=>?_,w7⟩;obtain⟨o,e,d⟩:=T.obj _ _ st5 b hb;exact(I8.pin (b,o) (gN _ (gN _ (jS hb e)))).2.1
 exact codeAny_compStart_list loop (T.self _ 0 _ _ _ st4 loop)
end
end Lw
namespace L2
open PySem PySem.Spec PyProof.Rows
section
variable{X:Cx}
theorem PM{α:Type}{M:Model}{A:Around}{E:Value->Shared->Prop}{s:Shared}{F:Nat->Option α×Unit->Sem (ForInStep (Option α×Unit))}{R:Option α×Unit->Shared->Prop}{j:Nat}
  (h1:∀i (Q:ForInStep (Option α×Unit)->Shared->Prop),i<j->Q (.yield (none,())) s->wpAny M A (F i (none,())) Q E s) (h2:wpAny M A (F j (none,())) (λr s'=>∃a,r=.done (some a,())/\R (some a,()) s') E s) :
  ∀m a:Nat,a<=j->j<a+m->wpAny M A (forIn (List.range' a m) (none,()) F) R E s:=by
 intro m;induction m with
 | zero=>intro a h3 h4;omega
 | succ m ih=>
  intro a h3 h4;rw[List.range'_succ,List.forIn_cons];by_cases e:a=j
  ·subst e;refine tS (tU h2 (λr s' h=>?_) λ_ _ e=>e);obtain⟨a,rfl,h⟩:=h;exact tT h
  ·exact tS (h1 a _ (by omega) (ih (a+1) (by omega) (by omega)))
def ZJ(K:tX):V->List V->Hp->VK->Prop:=λx xs H Q=>∃(p:Addr) (ys:List V) (y:V) (j:Nat),x=.ref p/\xs=[y]/\SqT K H p ys/\IK y=true/\ys.all IK=true/\j<ys.length/\(∀i z,i<j->ys[i]? = some z->eqV z y=false)/\(∀z,ys[j]? = some z->eqV z y=true)/\Q (.int j) H
theorem SU:MtR X "tuple.index" (ZJ X.K):=by
 intro ac s σ H x xs v us Q I rx rs q;obtain⟨p,ys,y,j,rfl,rfl,hp,fy,fa,hj,hn,hy,q⟩:=q;cases rx;obtain⟨u,rfl,ru⟩:=xK rs;obtain⟨its,rv,pl,hz⟩:=I.tuple hp;have hT:s.TypeIs (.ref p) "tuple":=by
  obtain⟨o,ho,hc,_⟩:=pl;exact⟨o,ho,hc⟩
 refine wpAny_call_entry F.slot_tuple_index hT F.entry_tuple_index ?_ (F.args_tuple_index_2 _ _);unfold Builtin.«tuple.index»;refine tS (m:=selfAndSome "tuple.index" "index" 1 3 _) (tT ?_);refine tS (tupleItemsOf_ pl ?_);refine tS (tT ?_);refine tS (tT ?_);refine tS ?_;rw[Std.Legacy.Range.forIn_eq_forIn_range'];have hl:=rv.length;have esz:([0:min its.toArray.size its.toArray.size]:Std.Legacy.Range).size=its.length:=by
  simp [Std.Legacy.Range.size]
 rw[esz];have e0:List.range' ([0:min its.toArray.size its.toArray.size]:Std.Legacy.Range).start its.length ([0:min its.toArray.size its.toArray.size]:Std.Legacy.Range).step=List.range' 0 its.length:=rfl;rw[e0];have at':∀a,a<ys.length->∃z v,ys[a]? = some z/\its.toArray[a]? = some v/\RelV z v/\IK z=true:=λa ha=>by
  obtain⟨z,hzz⟩:∃z,ys[a]? = some z:=⟨ys[a],by simp [ha]⟩;obtain⟨v,hv,rz⟩:=rv.get hzz;exact⟨z,v,hzz,by simpa using hv,rz,List.all_eq_true.mp fa z (gS hzz)⟩
 refine PM (j:=j) (λi R hi hR=>?_) ?_ _ 0 (tM _) (by omega)
 ·obtain⟨z,v,h1,h2,h3,h4⟩:=at' i (by omega);rw[h2];refine tS (UG h3 ru h4 fy _ _ _ _ ?_);rw[hn i z hi h1,tV hZ];exact tT hR
 ·obtain⟨z,v,h1,h2,h3,h4⟩:=at' j hj;rw[h2];refine tS (UG h3 ru h4 fy _ _ _ _ ?_);rw[hy z h1,tW rfl];refine tS (m:=retInt (j:Int)) ?_;unfold retInt;refine tS (wpAny_mkInt ?_);exact tT (tT ⟨_,rfl,tT ⟨_,rfl,.int j,H,I.tok _,⟨_,rfl⟩,q⟩⟩)
end
end L2
namespace LwF
def dot(I:List Nat)(a v:Nat->Rat):Rat:=(I.map λi=>a i*v i).sum
theorem vX(a v:Nat->Rat):dot [] a v=0:=rfl
theorem kA(i:Nat)(I:List Nat)(a v:Nat->Rat):dot (i::I) a v=a i*v i+dot I a v:=by
 unfold dot;rw[nO,nU]
theorem wW(I J:List Nat)(a v:Nat->Rat):dot (I++J) a v=dot I a v+dot J a v:=by
 induction I with
 | nil=>rw[List.nil_append,vX];grind
 | cons i I ih=>rw[List.cons_append,kA,kA,ih];grind
theorem jZ{I:List Nat}{a a' v v':Nat->Rat}(h:∀i∈I,a i*v i=a' i*v' i):dot I a v=dot I a' v':=by
 induction I with
 | nil=>rfl
 | cons i I ih=>rw[kA,kA,h i (by simp),ih λj hj=>h j (by simp [hj])]
theorem FV(I:List Nat)(a v v':Nat->Rat):dot I a (λi=>v i+v' i)=dot I a v+dot I a v':=by
 induction I with
 | nil=>simp only[vX];grind
 | cons i I ih=>simp only[kA,ih];grind
theorem xB(I:List Nat)(a v:Nat->Rat)(t:Rat):dot I a (λi=>t*v i)=t*dot I a v:=by
 induction I with
 | nil=>simp only[vX];grind
 | cons i I ih=>simp only[kA,ih];grind
theorem xS{I:List Nat}{a v:Nat->Rat}(h:∀i∈I,v i=0):dot I a v=0:=by
 induction I with
 | nil=>rfl
 | cons i I ih=>rw[kA,h i (by simp),ih λj hj=>h j (by simp [hj])];grind
theorem UL(I:List Nat)(a b v:Nat->Rat)(c:Rat):dot I (λi=>a i-c*b i) v=dot I a v-c*dot I b v:=by
 induction I with
 | nil=>simp only[vX];grind
 | cons i I ih=>simp only[kA,ih];grind
theorem uJ{I:List Nat}{k:Nat}(hk:k∈I)(a v:Nat->Rat):dot I a v=a k*v k+dot (I.erase k) a v:=by
 induction I with
 | nil=>cases hk
 | cons i I ih=>
  by_cases h:i=k
  ·subst h;rw[List.erase_cons_head,kA]
  ·rw[List.erase_cons_tail (by simpa using h),kA,kA,ih (by rcases nP.mp hk with e | e;exact absurd e.symm h;exact e)]
   grind
theorem KS(I:List Nat)(a v:Nat->Rat)(p:Nat->Bool)(h:∀i∈I,p i=false->v i=0):dot I a v=dot (I.filter p) a v:=by
 induction I with
 | nil=>rfl
 | cons i I ih=>
  rw[kA,ih λj hj=>h j (by simp [hj])];by_cases hp:p i=true
  ·rw[List.filter_cons_of_pos hp,kA]
  ·rw[List.filter_cons_of_neg hp,h i (by simp) (by simpa using hp)];grind
theorem QY:∀(A:List (Nat->Rat)) (I:List Nat),I.Nodup->A.length<I.length->∃v:Nat->Rat,(∃i∈I,v i≠0)/\(∀i,i∉I->v i=0)/\∀a∈A,dot I a v=0
 | [],I,_,h=>by
  cases I with
  | nil=>simp at h
  | cons k I=>exact⟨λi=>if i=k then 1 else 0,⟨k,by simp,by simp⟩,λi hi=>tV λz=>hi (by simp [z]),λa ha=>nomatch ha⟩
 | a::A,I,nd,h=>by
  by_cases hz:∀i∈I,a i=0
  ·obtain⟨v,h1,h2,h3⟩:=QY A I nd (by simp at h;omega);refine⟨v,h1,h2,λb hb=>?_⟩;rcases nP.mp hb with rfl | hb
   ·have:dot I b v=dot I (λ_=>0) v:=jZ λi hi=>by rw[hz i hi]
    rw[this];clear this;generalize I=J;induction J with
    | nil=>rfl
    | cons j J ih=>rw[kA,ih];grind
   ·exact h3 b hb
  ·obtain⟨k,hk,ak⟩:∃k,k∈I/\a k≠0:=gD λn=>hz λi hi=>gD λm=>n ⟨i,hi,m⟩;have nd':=nd.erase k;have le:(I.erase k).length=I.length-1:=List.length_erase_of_mem hk;obtain⟨v,⟨i,hi,vi⟩,h2,h3⟩:=QY (A.map λb i=>b i-b k/a k*a i) (I.erase k) nd' (by rw[mY,le];simp at h;omega);have kn:k∉I.erase k:=λz=>(List.Nodup.mem_erase_iff nd).mp z |>.1 rfl;have vk:v k=0:=h2 k kn;let t:=-(dot (I.erase k) a v)/a k;have e:∀b,dot (I.erase k) b (λi=>if i=k then t else v i)=dot (I.erase k) b v:=λb=>jZ λi hi=>by rw[tV];rintro rfl;exact kn hi
   have tk:a k*t = -(dot (I.erase k) a v):=by show a k*(-(dot (I.erase k) a v)/a k)=_;grind
   refine⟨λi=>if i=k then t else v i,⟨i,List.mem_of_mem_erase hi, ?_⟩,λj hj=>?_,λb hb=>?_⟩
   ·show(if i=k then t else v i)≠0;rw[tV (λz:i=k=>kn (z▸hi))];exact vi
   ·show(if j=k then t else v j)=0;rw[tV (λz:j=k=>hj (z▸hk))];exact h2 j λz=>hj (List.mem_of_mem_erase z)
   ·rw[uJ hk,e];simp only[if_true];rcases nP.mp hb with rfl | hb
    ·rw[tk];grind
    ·have:=h3 _ (List.mem_map_of_mem hb);rw[UL]at this;have tb:b k*t=b k/a k*(a k*t):=by grind
     rw[tb,tk];grind
termination_by A _ _ _=>A.length
decreasing_by all_goals (simp only[mY,mT];omega)
abbrev Vc:=Nat->Rat
theorem BT{c:Rat}(h:0<c):0<=c⁻¹:=Rat.le_of_lt (Rat.inv_pos.mpr h)
inductive Cone(G:Vc->Prop):Vc->Prop where
 | zero:Cone G λ_=>0
 | gen {g:Vc} {t:Rat} :G g->0<=t->Cone G λi=>t*g i
 | add {a b:Vc} :Cone G a->Cone G b->Cone G λi=>a i+b i
theorem Cone.mono{G G':Vc->Prop}(h:∀g,G g->G' g){x:Vc}(c:Cone G x):Cone G' x:=by
 induction c with
 | zero=>exact .zero
 | gen g t=>exact .gen (h _ g) t
 | add _ _ h1 h2=>exact .add h1 h2
theorem Cone.eq{G:Vc->Prop}{x y:Vc}(c:Cone G x)(h:∀i,y i=x i):Cone G y:=by
 have:y=x:=funext h;rw[this];exact c
theorem Cone.smul{G:Vc->Prop}{x:Vc}(c:Cone G x){t:Rat}(ht:0<=t):Cone G λi=>t*x i:=by
 induction c with
 | zero=>exact Cone.zero.eq λi=>by grind
 | gen g t'=>exact(Cone.gen g (nM ht t')).eq λi=>by grind
 | add _ _ h1 h2=>exact(Cone.add h1 h2).eq λi=>by grind
structure Lin(f:Vc->Rat):Prop where
 add:∀a b:Vc,f (λi=>a i+b i)=f a+f b
 smul:∀(t:Rat) (a:Vc),f (λi=>t*a i)=t*f a
theorem Lin.zero{f:Vc->Rat}(h:Lin f):f (λ_=>0)=0:=by
 have:=h.smul 0 λ_=>0;have e:(λi:Nat=>(0:Rat)*(λ_:Nat=>(0:Rat)) i)=λ_=>0:=by funext i;grind
 rw[e]at this;grind
theorem MN(I:List Nat)(a:Vc):Lin (dot I a):=⟨λx y=>FV I a x y,λt x=>xB I a x t⟩
theorem Lin.nn{f:Vc->Rat}(h:Lin f){G:Vc->Prop}(hg:∀g,G g->0<=f g){x:Vc}(c:Cone G x):0<=f x:=by
 induction c with
 | zero=>rw[h.zero];exact tR
 | gen g t=>rw[h.smul];exact nM t (hg _ g)
 | add _ _ h1 h2=>rw[h.add];exact Rat.add_nonneg h1 h2
def both(f:Vc->Rat)(u d:Vc):Vc:=λi=>u i * -(f d)+d i*f u
def Next(f:Vc->Rat)(G:Vc->Prop):Vc->Prop:=λx=>(G x/\f x=0)∨∃u d,G u/\G d/\0<f u/\f d<0/\x=both f u d
theorem HM{f:Vc->Rat}(h:Lin f){G:Vc->Prop}{x:Vc}(c:Cone (λg=>G g/\0<f g) x):0<=f x/\(f x=0->∀i,x i=0):=by
 induction c with
 | zero=>exact⟨by rw[h.zero];exact tR,λ_ _=>rfl⟩
 | gen g t=>
  rename_i g0 t0;rw[h.smul];refine⟨nM t (Rat.le_of_lt g.2),λz i=>?_⟩;have:=g.2;have:t0=0:=by rcases Rat.mul_eq_zero.mp z with e | e;exact e;rw[e]at this;exact absurd this (Rat.lt_irrefl)
  rw[this];grind
 | add _ _ h1 h2=>
  rw[h.add];refine⟨Rat.add_nonneg h1.1 h2.1,λz i=>?_⟩;have a1:=h1.1;have a2:=h2.1;show _+_=(0:Rat);rw[h1.2 (by grind) i,h2.2 (by grind) i];grind
theorem SQ{f:Vc->Rat}(h:Lin f){G:Vc->Prop}{x:Vc}(c:Cone (λg=>G g/\f g<0) x):f x<=0/\(f x=0->∀i,x i=0):=by
 have h':Lin λv=>-(f v):=⟨λa b=>by show -(f _)=_;rw[h.add];grind,λt a=>by show -(f _)=_;rw[h.smul];grind⟩;have:=HM h' (c.mono (G':=λg=>G g/\0 < -(f g)) λg k=>⟨k.1,by have:=k.2;grind⟩);exact⟨by have:=this.1;grind,λz=>this.2 (by rw[z];grind)⟩
theorem QA{f:Vc->Rat}(h:Lin f){G:Vc->Prop}{p q:Vc}(cp:Cone (λg=>G g/\0<f g) p)(cq:Cone (λg=>G g/\f g<0) q):Cone (Next f G) (both f p q):=by
 induction cp with
 | zero=>exact Cone.zero.eq λi=>by unfold both;rw[h.zero];grind
 | add _ _ h1 h2=>exact(Cone.add h1 h2).eq λi=>by unfold both;rw[h.add];grind
 | gen gu tu=>
  rename_i u t;induction cq with
  | zero=>exact Cone.zero.eq λi=>by unfold both;rw[h.zero];grind
  | add _ _ h1 h2=>exact(Cone.add h1 h2).eq λi=>by unfold both;rw[h.add];grind
  | gen gd td=>
   rename_i d r;exact(Cone.gen (G:=Next f G) (g:=both f u d) (t:=t*r) (.inr ⟨u,d,gu.1,gd.1,gu.2,gd.2,rfl⟩) (nM tu td)).eq λi=>by unfold both;rw[h.smul,h.smul];grind
theorem parts{f:Vc->Rat}{G:Vc->Prop}{x:Vc}(c:Cone G x):∃o p q,Cone (λg=>G g/\f g=0) o/\Cone (λg=>G g/\0<f g) p/\Cone (λg=>G g/\f g<0) q/\∀i,x i=o i+p i+q i:=by
 induction c with
 | zero=>exact⟨_,_,_,.zero,.zero,.zero,λi=>by grind⟩
 | gen g t=>
  rename_i g0 t0;have tri:f g0<0∨f g0=0∨0<f g0:=by grind
  rcases tri with z | z | z
  ·exact⟨_,_,_,.zero,.zero,.gen ⟨g,z⟩ t,λi=>by grind⟩
  ·exact⟨_,_,_,.gen ⟨g,z⟩ t,.zero,.zero,λi=>by grind⟩
  ·exact⟨_,_,_,.zero,.gen ⟨g,z⟩ t,.zero,λi=>by grind⟩
 | add _ _ h1 h2=>
  obtain⟨o,p,q,a1,a2,a3,a4⟩:=h1;obtain⟨o',p',q',b1,b2,b3,b4⟩:=h2;exact⟨_,_,_,.add a1 b1,.add a2 b2,.add a3 b3,λi=>by show _+_=_;rw[a4,b4];grind⟩
theorem SN{f:Vc->Rat}(h:Lin f){G:Vc->Prop}{x:Vc}(c:Cone G x)(z:f x=0):Cone (Next f G) x:=by
 obtain⟨o,p,q,a1,a2,a3,a4⟩:=parts (f:=f) c;have e:f x=f o+f p+f q:=by
  have:x=λi=>(λi=>o i+p i) i+q i:=funext a4;rw[this,h.add,h.add]
 have o0:f o=0:=by
  have l:=h.nn (G:=λg=>G g/\f g=0) (λg k=>by rw[k.2];exact tR) a1;have h':Lin λv=>-(f v):=⟨λa b=>by show -(f _)=_;rw[h.add];grind,λt a=>by show -(f _)=_;rw[h.smul];grind⟩;have r:=h'.nn (G:=λg=>G g/\f g=0) (λg k=>by show 0<=-(f g);rw[k.2];grind) a1
  grind
 have co:Cone (Next f G) o:=a1.mono λg k=>.inl k;have hp:=HM h a2;have hq:=SQ h a3;by_cases c0:f p=0
 ·have q0:f q=0:=by grind
  exact co.eq λi=>by rw[a4,hp.2 c0 i,hq.2 q0 i];grind
 ·have cp:0<f p:=by have:=hp.1;grind
  have fq:f q = -(f p):=by grind
  have b:=(QA h a2 a3).smul (t:=(f p)⁻¹) (BT cp);exact(Cone.add co b).eq λi=>by rw[a4];unfold both;rw[fq];grind
def xE(n:Nat)(v:Vc):List Nat:=(List.range n).filter λi=>decide (v i≠0)
theorem mem_supp{n:Nat}{v:Vc}{i:Nat} :i∈xE n v↔i<n/\v i≠0:=by unfold xE;simp
structure InC(n:Nat)(A:List Vc)(s:Vc):Prop where
 nn:∀i,0<=s i
 out:∀i,n<=i->s i=0
 z:∀a∈A,dot (List.range n) a s=0
theorem InC.lt{n:Nat}{A:List Vc}{s:Vc}(h:InC n A s){i:Nat}(hi:s i≠0):i<n:=gD λz=>hi (h.out i (by omega))
theorem InC.pos{n:Nat}{A:List Vc}{s:Vc}(h:InC n A s){i:Nat}(hi:s i≠0):0<s i:=by have:=h.nn i;grind
theorem MX{p q:Nat->Bool} :∀{l:List Nat},(∀i∈l,p i=true->q i=true)->∀{j:Nat},j∈l->q j=true->p j=false->(l.filter p).length<(l.filter q).length
 | [],_,_,hj,_,_=>nomatch hj
 | a::l,h,j,hj,qj,pj=>by
  have le:∀l:List Nat,(∀i∈l,p i=true->q i=true)->(l.filter p).length<=(l.filter q).length:=λl h=>by
   induction l with
   | nil=>exact tL _
   | cons b l ih=>
    have:=ih λi hi=>h i (by simp [hi]);rw[mX,mX];split
    ·rename_i hp;rw[tW (h b (by simp) hp)];simp only[mT];omega
    ·split<;>(try simp only[mT])<;>omega
  have hl:∀i∈l,p i=true->q i=true:=λi hi=>h i (by simp [hi]);have:=le l hl;rw[mX,mX];rcases nP.mp hj with rfl | hj
  ·rw[tW qj,tV (by rw[pj];decide),mT];omega
  ·have:=MX hl hj qj pj;split
   ·rename_i hp;rw[tW (h a (by simp) hp)];simp only[mT];omega
   ·split<;>(try simp only[mT])<;>omega
theorem LJ{n:Nat}{v w:Vc}(h:∀i,v i≠0->w i≠0){j:Nat}(hj:j<n)(wj:w j≠0)(vj:v j=0):(xE n v).length<(xE n w).length:=
 MX (λi _ hi=>by simp only[decide_eq_true_eq]at hi ⊢;exact h i hi) (nI.mpr hj) (by simpa using wj) (by simpa using vj)
theorem IC(r:Nat->Rat):∀(I:List Nat),I≠[]->∃j∈I,∀i∈I,r j<=r i
 | [],h=>absurd rfl h
 | [a],_=>⟨a,by simp,λi hi=>by simp at hi;rw[hi];exact tR⟩
 | a::b::I,_=>by
  obtain⟨j,hj,hl⟩:=IC r (b::I) (by simp);by_cases h:r a<=r j
  ·exact⟨a,by simp,λi hi=>by
    rcases nP.mp hi with rfl | hi
    ·exact tR
    ·exact Rat.le_trans h (hl i hi)⟩
  ·exact⟨j,gT _ hj,λi hi=>by
    rcases nP.mp hi with rfl | hi
    ·grind
    ·exact hl i hi⟩
theorem div_le{a b t:Rat}(hb:0<b)(h:t<=a/b):t*b<=a:=by
 have:=Rat.mul_le_mul_of_nonneg_right h (Rat.le_of_lt hb)
 rwa [Rat.div_mul_cancel (by grind)]at this
theorem XR{a b:Rat}(ha:0<a)(hb:0<b):0<a/b:=by
 rw[tO];exact Rat.mul_pos ha (Rat.inv_pos.mpr hb)
theorem BD{n:Nat}{A:List Vc}{s w:Vc}(hs:InC n A s)(wz:∀a∈A,dot (List.range n) a w=0)(sub:∀i,w i≠0->s i≠0){i0:Nat}(h0:0<w i0) :
  ∃t,0<=t/\InC n A (λi=>s i-t*w i)/\(xE n λi=>s i-t*w i).length<(xE n s).length/\(∀i,s i-t*w i≠0->s i≠0):=by
 have w0:w i0≠0:=by grind
 obtain⟨j,hj,hl⟩:=IC (λi=>s i/w i) ((List.range n).filter λi=>decide (0<w i)) (List.ne_nil_of_mem (a:=i0) (by simp;exact⟨hs.lt (sub i0 w0),h0⟩));simp only[List.mem_filter,nI,decide_eq_true_eq]at hj hl;obtain⟨jn,wj⟩:=hj;have wj0:w j≠0:=by grind
 have sj:=hs.pos (sub j wj0);have tp:=XR sj wj;have sz:∀i,s i=0->s i-s j/w j*w i=0:=λi h=>by
  have:w i=0:=gD λz=>sub i z h;rw[h,this];grind
 have jz:s j-s j/w j*w j=0:=by rw[Rat.div_mul_cancel wj0];grind
 refine⟨s j/w j,Rat.le_of_lt tp,⟨λi=>?_,λi hi=>sz i (hs.out i hi),λa ha=>?_⟩,LJ (λi h z=>h (sz i z)) jn (sub j wj0) jz,λi h z=>h (sz i z)⟩
 ·by_cases wi:0<w i
  ·have i_n:i<n:=hs.lt (sub i (by grind));have:=div_le wi (hl i ⟨i_n,wi⟩)
   grind
  ·have h1:=hs.nn i;have h2:0<=s j/w j * -(w i):=nM (Rat.le_of_lt tp) (by grind)
   grind
 ·have e:(λi=>s i-s j/w j*w i)=λi=>s i+(λi=>-(s j/w j)*w i) i:=by funext i;grind
  rw[e,FV,xB,hs.z a ha,wz a ha];grind
theorem XV{G:Vc->Prop}(nn:∀g,G g->∀i,0<=g i){s:Vc}(c:Cone G s):(∀i,0<=s i)/\∀i,s i≠0->∃g,G g/\(∃j,g j≠0)/\∀j,g j≠0->s j≠0:=by
 induction c with
 | zero=>exact⟨λ_=>tR,λi h=>absurd rfl h⟩
 | gen g t=>
  rename_i g0 t0;refine⟨λi=>nM t (nn _ g i),λi h=>⟨g0,g,⟨i,λz=>h (by show t0*g0 i=0;rw[z];grind)⟩,λj hj z=>?_⟩⟩;rcases Rat.mul_eq_zero.mp z with e | e
  ·exact h (by show t0*g0 i=0;rw[e];grind)
  ·exact hj e
 | add _ _ h1 h2=>
  rename_i a b _ _;refine⟨λi=>Rat.add_nonneg (h1.1 i) (h2.1 i),λi h=>?_⟩;by_cases ha:a i=0
  ·have hb:b i≠0:=λz=>h (by show a i+b i=0;rw[ha,z];grind);obtain⟨g,k1,k2,k3⟩:=h2.2 i hb;exact⟨g,k1,k2,λj hj z=>k3 j hj (by have:=h1.1 j;have:=h2.1 j;have z:a j+b j=0:=z;grind)⟩
  ·obtain⟨g,k1,k2,k3⟩:=h1.2 i ha;exact⟨g,k1,k2,λj hj z=>k3 j hj (by have:=h1.1 j;have:=h2.1 j;have z:a j+b j=0:=z;grind)⟩
theorem prune{n:Nat}{A:List Vc}{G K:Vc->Prop}(hG:∀g,G g->InC n A g)(gen:∀s,InC n A s->Cone G s)(hK:∀k,K k->InC n A k)(keep:∀g,G g->(xE n g).length<=A.length+1->∃k,K k/\xE n k=xE n g):∀(N:Nat) (s:Vc),(xE n s).length<=N->InC n A s->Cone K s:=by
 intro N;induction N with
 | zero=>
  intro s h hs;refine Cone.zero.eq λi=>gD λz=>?_;have:i∈xE n s:=mem_supp.mpr ⟨hs.lt z,z⟩;rw[List.length_eq_zero_iff.mp (Nat.le_zero.mp h)]at this;cases this
 | succ N ih=>
  intro s h hs;by_cases h0:∀i,s i=0
  ·exact Cone.zero.eq h0
  obtain⟨i0,si0⟩:∃i,s i≠0:=gD λz=>h0 λi=>gD λy=>z ⟨i,y⟩;have n0:=hs.lt si0;by_cases hA:∃m,InC n A m/\(∃i,m i≠0)/\(∀i,m i≠0->s i≠0)/\(xE n m).length<(xE n s).length
  ·obtain⟨m,mc,⟨i,mi⟩,sub,lt⟩:=hA;obtain⟨t,t0,c,l,_⟩:=BD hs mc.z sub (mc.pos mi);have c1:=ih _ (by omega) c;have c2:=ih _ (by omega) mc;exact(Cone.add c1 (c2.smul t0)).eq λi=>by grind
  ·obtain⟨g,Gg,⟨gi,hgi⟩,gs⟩:=(XV (λg hg=>(hG g hg).nn) (gen s hs)).2 i0 si0;have gc:=hG g Gg;have sg:∀i,s i≠0->g i≠0:=λi hi z=>hA ⟨g,gc,⟨gi,hgi⟩,gs,LJ gs (hs.lt hi) hi z⟩;have eq:xE n g=xE n s:=by
    unfold xE;refine List.filter_congr λi _=>?_;by_cases z:s i=0
    ·have:g i=0:=gD λy=>gs i y z;simp [z,this]
    ·simp [z,sg i z]
   have few:(xE n s).length<=A.length+1:=gD λaa=>by
    have mem0:i0∈xE n s:=mem_supp.mpr ⟨n0,si0⟩;have nd:(xE n s).Nodup:=List.Nodup.sublist List.filter_sublist List.nodup_range;obtain⟨v,⟨k,hk,vk⟩,vo,vz⟩:=QY A ((xE n s).erase i0) (nd.erase i0) (by rw[List.length_erase_of_mem mem0];omega);have v0:v i0=0:=vo i0 λz=>(List.Nodup.mem_erase_iff nd).mp z |>.1 rfl;have vs:∀i,v i≠0->s i≠0:=λi hi=>(mem_supp.mp (List.mem_of_mem_erase (gD λz=>hi (vo i z)))).2;have dz:∀a∈A,dot (List.range n) a v=0:=λa ha=>by
     rw[KS (List.range n) a v (λi=>decide (s i≠0)) λi _ hi=>gD λz=>by simp at hi;exact vs i z hi];show dot (xE n s) a v=0;rw[uJ mem0,v0,vz a ha];grind
    have fin:∀w:Vc,(∀a∈A,dot (List.range n) a w=0)->(∀i,w i≠0->s i≠0)->w i0=0->0<w k->False:=λw wz ws w0 wk=>by
     obtain⟨t,t0,c,l,sb⟩:=BD hs wz ws wk;exact hA ⟨_,c,⟨i0,by show s i0-t*w i0≠0;rw[w0];grind⟩,sb,l⟩
    by_cases p:0<v k
    ·exact fin v dz vs v0 p
    ·exact fin (λi=>-1*v i) (λa ha=>by rw[xB,dz a ha];grind) (λi hi=>vs i λz=>hi (by show -1*v i=0;rw[z];grind)) (by show -1*v i0=0;rw[v0];grind) (by show 0 < -1*v k;grind)
   obtain⟨k,Kk,ek⟩:=keep g Gg (by rw[eq];exact few);have kc:=hK k Kk;have k0:k i0≠0:=(mem_supp.mp (by rw[ek,eq];exact mem_supp.mpr ⟨n0,si0⟩:i0∈xE n k)).2;have ks:∀i,k i≠0->s i≠0:=λi hi=>(mem_supp.mp (by rw[<-eq,<-ek];exact mem_supp.mpr ⟨kc.lt hi,hi⟩:i∈xE n s)).2;obtain⟨t,t0,c,l,sb⟩:=BD hs kc.z ks (kc.pos k0);have all0:∀i,s i-t*k i=0:=λi=>gD λz=>hA ⟨_,c,⟨i,z⟩,sb,l⟩;exact(Cone.gen Kk t0).eq λi=>by have:=all0 i;grind
abbrev Rw:=List Int
def shr(m:Nat)(r:Rw):Vc:=λi=>((r.getD (m+2+i) 0:Int):Rat)
def yL(u d:Rw)(l:Nat):Rw:=List.zipWith (λx y=>x * -(d.getD l 0)+y*u.getD l 0) u d
def vK(m:Nat)(r:Rw):List Nat:=(List.range (r.length-(m+2))).filter λi=>decide (r.getD (m+2+i) 0≠0)
def ups(l:Nat)(af:List Rw):List Rw:=af.filter λr=>decide (r.getD l 0>0)
def zK(l:Nat)(af:List Rw):List Rw:=af.filter λr=>decide (r.getD l 0<0)
def IJ(l:Nat)(af:List Rw):List Rw:=af.filter λr=>decide (r.getD l 0=0)
def zW(l:Nat)(us ds:List Rw):List Rw:=us.flatMap λu=>ds.map λd=>yL u d l
def zV(l:Nat)(af:List Rw):List Rw:=IJ l af++zW l (ups l af) (zK l af)
def zY(m l:Nat):List (List Nat×Rw)->List Rw->List (List Nat×Rw)
 | F,[]=>F
 | F,r::rs=>if (vK m r).length<=l+2/\vK m r∉F.map (·.1)then zY m l (F++[(vK m r,r)]) rs else zY m l F rs
def yX(m l:Nat)(af:List Rw):List Rw:=(zY m l [] (zV l af)).map (·.2)
def kD(m:Nat)(af:List Rw):Nat->List Rw
 | 0=>af
 | e+1=>yX m e (kD m af e)
structure RowOk(m S n:Nat)(rim:Nat->Nat->Rat)(e:Nat)(r:Rw):Prop where
 len:r.length=m+2+S
 lin:∀j,j<m+2->((r.getD j 0:Int):Rat)=dot (List.range n) (λi=>rim i j) (shr m r)
 nn:∀i,0<=r.getD (m+2+i) 0
 out:∀i,n<=i->r.getD (m+2+i) 0=0
 z:∀j,j<e->r.getD j 0=0
def fnl(rim:Nat->Nat->Rat)(e:Nat):List Vc:=(List.range e).map λl i=>rim i l
theorem RowOk.inC{m S n e:Nat}{rim:Nat->Nat->Rat}{r:Rw}(h:RowOk m S n rim e r)(he:e<=m):InC n (fnl rim e) (shr m r):=by
 refine⟨λi=>by unfold shr;exact_mod_cast h.nn i,λi hi=>by unfold shr;rw[h.out i hi];rfl,λa ha=>?_⟩;obtain⟨l,hl,rfl⟩:=tD.mp ha;have hl:=nI.mp hl;rw[<-h.lin l (by omega),h.z l hl];rfl
theorem wX{u d:Rw}{l:Nat}(h:u.length=d.length):(yL u d l).length=u.length:=by unfold yL;rw[List.length_zipWith];omega
theorem xV{u d:Rw}{l:Nat}(h:u.length=d.length)(j:Nat):(yL u d l).getD j 0=u.getD j 0 * -(d.getD l 0)+d.getD j 0*u.getD l 0:=by
 unfold yL;rw[gA,gA,gA (l:=d),List.getElem?_zipWith];by_cases hj:j<u.length
 ·have hd:j<d.length:=by omega
  simp [gG hj,gG hd]
 ·have hd:d.length<=j:=by omega
  simp [gP (Nat.le_of_not_lt hj),gP hd]
theorem NI{m S n e:Nat}{rim:Nat->Nat->Rat}{u d:Rw}(hu:RowOk m S n rim e u)(hd:RowOk m S n rim e d)(pu:0<u.getD e 0)(pd:d.getD e 0<0):RowOk m S n rim (e+1) (yL u d e):=by
 have hl:u.length=d.length:=hu.len.trans hd.len.symm;refine⟨(wX hl).trans hu.len,λj hj=>?_,λi=>?_,λi hi=>?_,λj hj=>?_⟩
 ·have es:shr m (yL u d e)=λi=>(-(d.getD e 0:Int):Rat)*shr m u i+(λi=>((u.getD e 0:Int):Rat)*shr m d i) i:=by
   funext i
   unfold shr;rw[xV hl]
   push_cast
   grind
  rw[es,FV,xB,xB,<-hu.lin j hj,<-hd.lin j hj,xV hl]
  push_cast
  grind
 ·rw[xV hl];exact Int.add_nonneg (Int.mul_nonneg (hu.nn i) (by omega)) (Int.mul_nonneg (hd.nn i) (by omega))
 ·rw[xV hl,hu.out i hi,hd.out i hi];omega
 ·rw[xV hl];by_cases h:j=e
  ·subst h;grind
  ·rw[hu.z j (by omega),hd.z j (by omega)];omega
theorem RowOk.up{m S n e:Nat}{rim:Nat->Nat->Rat}{r:Rw}(h:RowOk m S n rim e r)(z:r.getD e 0=0):RowOk m S n rim (e+1) r:=
 ⟨h.len,h.lin,h.nn,h.out,λj hj=>by by_cases k:j=e;rw[k];exact z;exact h.z j (by omega)⟩
theorem mem_cand{l:Nat}{af:List Rw}{c:Rw} :c∈zV l af↔(c∈af/\c.getD l 0=0)∨∃u d,(u∈af/\0<u.getD l 0)/\(d∈af/\d.getD l 0<0)/\c=yL u d l:=by
 unfold zV IJ zW ups zK;simp only[nB,List.mem_filter,List.mem_flatMap,tD,decide_eq_true_eq];constructor
 ·rintro(h | ⟨u,hu,d,hd,rfl⟩)
  ·exact .inl h
  ·exact .inr ⟨u,d,hu,hd,rfl⟩
 ·rintro(h | ⟨u,d,hu,hd,rfl⟩)
  ·exact .inl h
  ·exact .inr ⟨u,hu,d,hd,rfl⟩
theorem yP(m l:Nat):∀(rs:List Rw) (F:List (List Nat×Rw)),(∀x∈F,x.1=vK m x.2)->
  (∀x∈zY m l F rs,x.1=vK m x.2/\(x∈F∨x.2∈rs))/\(∀x∈F,x∈zY m l F rs)/\∀r∈rs,(vK m r).length<=l+2->∃x∈zY m l F rs,vK m x.2=vK m r
 | [],F,h=>⟨λx hx=>⟨h x hx,.inl hx⟩,λ_ hx=>hx,λ_ hr=>nomatch hr⟩
 | r::rs,F,h=>by
  unfold zY;split
  ·rename_i c;obtain⟨i1,i2,i3⟩:=yP m l rs (F++[(vK m r,r)]) λx hx=>by
    rcases nB.mp hx with hx | hx
    ·exact h x hx
    ·rw[mC.mp hx]
   refine⟨λx hx=>⟨(i1 x hx).1, ?_⟩,λx hx=>i2 x (by simp [hx]),λr' hr' hb=>?_⟩
   ·rcases(i1 x hx).2 with y | y
    ·rcases nB.mp y with y | y
     ·exact .inl y
     ·rw[mC.mp y];exact .inr (by simp)
    ·exact .inr (by simp [y])
   ·rcases nP.mp hr' with rfl | hr'
    ·exact⟨(vK m r',r'),i2 _ (by simp),rfl⟩
    ·exact i3 r' hr' hb
  ·rename_i c;obtain⟨i1,i2,i3⟩:=yP m l rs F h;refine⟨λx hx=>⟨(i1 x hx).1,(i1 x hx).2.imp id λy=>by simp [y]⟩,i2,λr' hr' hb=>?_⟩;rcases nP.mp hr' with rfl | hr'
   ·have:vK m r'∈F.map (·.1):=gD λz=>c ⟨hb,z⟩;obtain⟨x,hx,e⟩:=tD.mp this;exact⟨x,i2 x hx,by rw[<-h x hx];exact e⟩
   ·exact i3 r' hr' hb
theorem FA{n S:Nat}(h:n<=S){p:Nat->Bool}(hp:∀i,n<=i->p i=false):(List.range S).filter p=(List.range n).filter p:=by
 obtain⟨k,rfl⟩:∃k,S=n+k:=⟨S-n,by omega⟩;have z:((List.range k).map λx=>n+x).filter p=[]:=List.filter_eq_nil_iff.mpr λi hi=>by
  obtain⟨j,_,rfl⟩:=tD.mp hi;rw[hp _ (by omega)];decide
 rw[List.range_add,List.filter_append,z,List.append_nil]
theorem uL{m S n e:Nat}{rim:Nat->Nat->Rat}{r:Rw}(h:RowOk m S n rim e r)(hn:n<=S):vK m r=xE n (shr m r):=by
 unfold vK xE;rw[h.len,show m+2+S-(m+2)=S by omega,FA hn λi hi=>by rw[h.out i hi];decide];refine List.filter_congr λi _=>?_;unfold shr;by_cases z:r.getD (m+2+i) 0=0
 ·rw[z];simp
 ·have:((r.getD (m+2+i) 0:Int):Rat)≠0:=by exact_mod_cast z
  simp only[ne_eq,z,not_false_eq_true,decide_true,this]
structure StOk(m S n:Nat)(rim:Nat->Nat->Rat)(e:Nat)(af:List Rw):Prop where
 ok:∀r∈af,RowOk m S n rim e r
 gen:∀s,InC n (fnl rim e) s->Cone (λv=>∃r∈af,v=shr m r) s
theorem II(rim:Nat->Nat->Rat)(e:Nat):fnl rim (e+1)=fnl rim e++[λi=>rim i e]:=by unfold fnl;rw[nE,mZ];rfl
theorem uB{m l:Nat}{af:List Rw}{k:Rw}(h:k∈yX m l af):k∈zV l af:=by
 obtain⟨x,hx,rfl⟩:=tD.mp h;rcases((yP m l (zV l af) [] λ_ h=>nomatch h).1 x hx).2 with y | y
 ·cases y
 ·exact y
theorem StOk.next{m S n e:Nat}{rim:Nat->Nat->Rat}{af:List Rw}(h:StOk m S n rim e af)(he:e<m)(hn:n<=S):StOk m S n rim (e+1) (yX m e af):=by
 have co:∀c∈zV e af,RowOk m S n rim (e+1) c:=λc hc=>by
  rcases mem_cand.mp hc with⟨a,b⟩ | ⟨u,d,⟨u1,u2⟩,⟨d1,d2⟩,rfl⟩
  ·exact(h.ok c a).up b
  ·exact NI (h.ok u u1) (h.ok d d1) u2 d2
 have sub:∀k∈yX m e af,k∈zV e af:=λk hk=>uB hk;refine⟨λr hr=>co r (sub r hr),λs hs=>?_⟩;refine prune (G:=λv=>∃c∈zV e af,v=shr m c) ?_ ?_ ?_ ?_ _ s uV hs
 ·rintro g ⟨c,hc,rfl⟩;exact(co c hc).inC (by omega)
 ·intro s hs;have fs:dot (List.range n) (λi=>rim i e) s=0:=hs.z _ (by rw[II];simp);have c0:=h.gen s ⟨hs.nn,hs.out,λa ha=>hs.z a (by rw[II];simp [ha])⟩;refine(SN (MN (List.range n) λi=>rim i e) c0 fs).mono ?_;rintro g (⟨⟨r,hr,rfl⟩,z⟩ | ⟨u,d,⟨ru,hu,rfl⟩,⟨rd,hd,rfl⟩,pu,pd,rfl⟩)
  ·rw[<-(h.ok r hr).lin e (by omega)]at z;exact⟨r,mem_cand.mpr (.inl ⟨hr,by exact_mod_cast z⟩),rfl⟩
  ·have lu:=(h.ok ru hu).lin e (by omega);have ld:=(h.ok rd hd).lin e (by omega);rw[<-lu]at pu;rw[<-ld]at pd;refine⟨yL ru rd e,mem_cand.mpr (.inr ⟨ru,rd,⟨hu,by exact_mod_cast pu⟩,⟨hd,by exact_mod_cast pd⟩,rfl⟩), ?_⟩
   funext i
   unfold both;rw[<-lu,<-ld];unfold shr;rw[xV ((h.ok ru hu).len.trans (h.ok rd hd).len.symm)]
   push_cast
   rfl
 ·rintro k ⟨r,hr,rfl⟩;exact(co r (sub r hr)).inC (by omega)
 ·rintro g ⟨c,hc,rfl⟩ hl;have lA:(fnl rim (e+1)).length=e+1:=by unfold fnl;simp
  rw[lA,<-uL (co c hc) hn]at hl;obtain⟨x,hx,ex⟩:=(yP m e (zV e af) [] λ_ h=>nomatch h).2.2 c hc hl;have xm:x.2∈yX m e af:=List.mem_map_of_mem hx;exact⟨_,⟨x.2,xm,rfl⟩,by rw[<-uL (co _ (sub _ xm)) hn,<-uL (co c hc) hn,ex]⟩
theorem xQ{m S n:Nat}{rim:Nat->Nat->Rat}{af:List Rw}(h:StOk m S n rim 0 af)(hn:n<=S):∀e,e<=m->StOk m S n rim e (kD m af e)
 | 0,_=>h
 | e+1,he=>(xQ h hn e (by omega)).next (by omega) hn
def rw':List Int->List Rat->Rat
 | n::ns,k::ks=>(n:Rat)*k+rw' ns ks
 | _,_=>0
theorem vL(ns:List Int):rw' ns []=0:=by cases ns<;>rfl
def rest(l:Nat)(ks:List Rat)(r:Rw):Rat:=rw' (r.drop (l+1)) ks
def vT(l:Nat)(ks:List Rat)(v:Rat)(r:Rw):Rat:=if ((r.getD l 0:Int):Rat)*v+rest l ks r<0 then rest l ks r/((-(r.getD l 0):Int):Rat)else v
def MG(l:Nat)(ks:List Rat)(af:List Rw):Rat:=af.foldl (vT l ks) 0
def qF(m:Nat)(st:Nat->List Rw)(T:Rat):Nat->List Rat
 | 0=>[T,1]
 | k+1=>MG (m-1-k) (qF m st T k) (st (m-1-k))::qF m st T k
theorem qU(m:Nat)(st:Nat->List Rw)(T:Rat):∀k,(qF m st T k).length=k+2
 | 0=>rfl
 | k+1=>by unfold qF;rw[mT,qU m st T k]
structure Bears(l:Nat)(ks:List Rat)(af:List Rw):Prop where
 z:∀r∈af,r.getD l 0=0->0<=rest l ks r
 p:∀u∈af,∀d∈af,0<u.getD l 0->d.getD l 0<0->0<=((-(d.getD l 0):Int):Rat)*rest l ks u+((u.getD l 0:Int):Rat)*rest l ks d
theorem VA{N a w X R:Rat}(hN:N<0)(w1:N*w+R=0)(q:0<=-N*X+a*R):0<=a*w+X:=by
 have hR:R = -(N*w):=by grind
 have e: -N*(a*w+X) = -N*X+a*R:=by rw[hR];grind
 refine gD λk=>?_;have:=Rat.mul_pos (a:=-N) (b:=-(a*w+X)) (by grind) (by grind);have e2: -N * -(a*w+X) = -(-N*(a*w+X)):=by grind
 rw[e2,e]at this
 grind
theorem UZ{N a w X R:Rat}(hN:0<N)(w1:N*w+R=0)(q:0<=-a*R+N*X):0<=a*w+X:=by
 have hR:R = -(N*w):=by grind
 have e:N*(a*w+X) = -a*R+N*X:=by rw[hR];grind
 refine gD λk=>?_;have:=Rat.mul_pos (a:=N) (b:=-(a*w+X)) (by grind) (by grind);have e2:N * -(a*w+X) = -(N*(a*w+X)):=by grind
 rw[e2,e]at this
 grind
theorem DE{l:Nat}{ks:List Rat}{af:List Rw}(h:Bears l ks af){done:List Rw}{r:Rw}(hr:r∈af)(hd:∀x∈done,x∈af){v:Rat}(hv:∀x∈done,0<=((x.getD l 0:Int):Rat)*v+rest l ks x) :
  (((r.getD l 0:Int):Rat)*v+rest l ks r<0->r.getD l 0≠0)/\∀x∈done++[r],0<=((x.getD l 0:Int):Rat)*vT l ks v r+rest l ks x:=by
 have nz:((r.getD l 0:Int):Rat)*v+rest l ks r<0->r.getD l 0≠0:=λc z=>by
  have:=h.z r hr z;rw[z]at c;have e:((0:Int):Rat)=0:=rfl
  grind
 refine⟨nz,λx hx=>?_⟩;unfold vT;by_cases c:((r.getD l 0:Int):Rat)*v+rest l ks r<0
 ·rw[tW c];have rz:=nz c;have rq:((r.getD l 0:Int):Rat)≠0:=by exact_mod_cast rz
  have ec:((-(r.getD l 0):Int):Rat) = -((r.getD l 0:Int):Rat):=by push_cast;rfl
  have pp:=h.p;generalize hR:rest l ks r=R at c pp ⊢;generalize hN:((r.getD l 0:Int):Rat)=N at c rq ec ⊢;rw[ec];have w1:N*(R / -N)+R=0:=by grind
  generalize hw:R / -N=w at w1 ⊢;rcases nB.mp hx with hx | hx
  ·have h1:=hv x hx;have xm:=hd x hx;generalize hX:rest l ks x=X at h1 ⊢;generalize hx0:((x.getD l 0:Int):Rat)=a at h1 ⊢;rcases Int.lt_or_gt_of_ne rz with rn | rp
   ·have Nn:N<0:=by rw[<-hN];exact_mod_cast rn
    have wv:w<v:=by
     refine gD λk=>?_;have:=nM (a:=-N) (b:=w-v) (by grind) (by grind)
     grind
    by_cases xp:0<x.getD l 0
    ·have ap:0<a:=by rw[<-hx0];exact_mod_cast xp
     have q:=h.p x xm r hr xp rn;rw[hR,hX,hx0]at q;have e2:((-(r.getD l 0):Int):Rat) = -N:=by rw[<-hN];push_cast;rfl
     rw[e2]at q;exact VA Nn w1 q
    ·have an:a<=0:=by rw[<-hx0];exact_mod_cast (Int.not_lt.mp xp)
     have:=nM (a:=-a) (b:=v-w) (by grind) (by grind)
     grind
   ·have Np:0<N:=by rw[<-hN];exact_mod_cast rp
    have wv:v<w:=by
     refine gD λk=>?_;have:=nM (a:=N) (b:=v-w) (by grind) (by grind)
     grind
    by_cases xn:x.getD l 0<0
    ·have an:a<0:=by rw[<-hx0];exact_mod_cast xn
     have q:=h.p r hr x xm rp xn;have e2:((-(x.getD l 0):Int):Rat) = -a:=by rw[<-hx0];push_cast;rfl
     rw[hR,hX,e2,hN]at q;exact UZ Np w1 q
    ·have ap:0<=a:=by rw[<-hx0];exact_mod_cast (Int.not_lt.mp xn)
     have:=nM (a:=a) (b:=w-v) (by grind) (by grind)
     grind
  ·rw[mC.mp hx,hN,hR,w1];exact tR
 ·rw[tV c];rcases nB.mp hx with hx | hx
  ·exact hv x hx
  ·rw[mC.mp hx];grind
theorem BQ{l:Nat}{ks:List Rat}{af:List Rw}(h:Bears l ks af):∀(todo done:List Rw) (v:Rat),(∀x∈todo,x∈af)->(∀x∈done,x∈af)->(∀x∈done,0<=((x.getD l 0:Int):Rat)*v+rest l ks x)->∀x∈done++todo,0<=((x.getD l 0:Int):Rat)*todo.foldl (vT l ks) v+rest l ks x
 | [],done,v,_,_,h3=>λx hx=>h3 x (by simpa using hx)
 | r::todo,done,v,h1,h2,h3=>λx hx=>by
  have s:=DE h (h1 r (by simp)) h2 h3;have:=BQ h todo (done++[r]) (vT l ks v r) (λx hx=>h1 x (by simp [hx])) (λx hx=>by rcases nB.mp hx with y | y;exact h2 x y;rw[mC.mp y];exact h1 r (by simp)) s.2 x (by simpa using hx);exact this
theorem WU{l:Nat}{ks:List Rat}{af:List Rw}(h:Bears l ks af){i:Nat}{r:Rw}(hr:af[i]? = some r)(c:((r.getD l 0:Int):Rat)*(af.take i).foldl (vT l ks) 0+rest l ks r<0):r.getD l 0≠0:=
 (DE h (gS hr) (done:=af.take i) (λx hx=>gY hx) (BQ h (af.take i) [] 0 (λx hx=>gY hx) (λ_ hx=>nomatch hx) (λ_ hx=>nomatch hx))).1 c
theorem LY{a b:Int} :∀{us ds:List Int} {ks:List Rat},us.length=ds.length->rw' (List.zipWith (λx y=>x*a+y*b) us ds) ks=(a:Rat)*rw' us ks+(b:Rat)*rw' ds ks
 | [],[],ks,_=>by
  show(0:Rat)=_*rw' [] ks+_*rw' [] ks;have:rw' [] ks=0:=by cases ks<;>rfl
  rw[this];grind
 | u::us,d::ds,[],_=>by rw[vL,vL,vL];grind
 | u::us,d::ds,k::ks,h=>by
  show((u*a+d*b:Int):Rat)*k+rw' (List.zipWith _ us ds) ks=(a:Rat)*((u:Rat)*k+rw' us ks)+(b:Rat)*((d:Rat)*k+rw' ds ks);rw[LY (by simpa using h)]
  push_cast
  grind
theorem OD{u d:Rw}{l:Nat}{ks:List Rat}(h:u.length=d.length):rest l ks (yL u d l)=((-(d.getD l 0):Int):Rat)*rest l ks u+((u.getD l 0:Int):Rat)*rest l ks d:=by
 unfold rest yL;rw[List.drop_zipWith];exact LY (by rw[List.length_drop,List.length_drop,h])
def xOf(l:Nat)(ks:List Rat):Vc:=λj=>if j<l then 0 else ks.getD (j-l) 0
theorem FU:∀(r:Rw) (ks:List Rat),ks.length<=r.length->dot (List.range ks.length) (λj=>((r.getD j 0:Int):Rat)) (λj=>ks.getD j 0)=rw' r ks
 | r,[],_=>by rw[vL];rfl
 | [],k::ks,h=>by simp at h
 | n::r,k::ks,h=>by
  have ih:=FU r ks (by simpa using h);show dot (List.range (ks.length+1)) _ _=(n:Rat)*k+rw' r ks;rw[List.range_succ_eq_map,kA,<-ih];unfold dot;rw[tJ];simp
  rfl
theorem PQ(l:Nat):∀(N:Nat) (a x:Vc),(∀j,j<l->x j=0)->dot (List.range (l+N)) a x=dot (List.range N) (λj=>a (l+j)) (λj=>x (l+j)):=by
 intro N a x h;rw[List.range_add,wW,xS λi hi=>h i (nI.mp hi)];unfold dot;rw[tJ,tE]
 rfl
theorem DU(r:Rw)(l j:Nat):(r.drop l).getD j 0=r.getD (l+j) 0:=by rw[gA,List.getElem?_drop,<-gA]
theorem val_x{m S n e:Nat}{rim:Nat->Nat->Rat}{r:Rw}(h:RowOk m S n rim e r){l:Nat}{ks:List Rat}(hl:l<=m+2)(hk:ks.length=m+2-l):rw' (r.drop l) ks=dot (List.range (m+2)) (λj=>((r.getD j 0:Int):Rat)) (xOf l ks):=by
 have e1:m+2=l+(m+2-l):=by omega
 have xz:∀j,j<l->xOf l ks j=0:=λj hj=>tW hj;rw[e1,PQ l _ _ _ xz,<-FU (r.drop l) ks (by rw[List.length_drop,h.len];omega),hk];refine jZ λj hj=>?_;unfold xOf;rw[DU,tV (by omega),show l+j-l=j by omega]
theorem DZ(I J:List Nat)(f:Nat->Nat->Rat)(s x:Vc):dot J (λj=>dot I (λi=>f i j) s) x=dot I (λi=>dot J (f i) x) s:=by
 induction J with
 | nil=>simp only[vX];exact(by
   induction I with
   | nil=>rfl
   | cons i I ih=>rw[kA,<-ih];grind)
 | cons j J ih=>
  rw[kA,ih];clear ih;induction I with
  | nil=>simp only[vX];grind
  | cons i I ih=>
   simp only[kA]at ih ⊢;rw[<-ih];grind
theorem StOk.nn{m S n e:Nat}{rim:Nat->Nat->Rat}{af:List Rw}(h:StOk m S n rim e af)(he:e<=m){ks:List Rat}(hk:ks.length=m+2-e)(hv:∀r∈af,0<=rw' (r.drop e) ks){r:Rw}(hr:RowOk m S n rim e r):0<=rw' (r.drop e) ks:=by
 have key:∀r:Rw,RowOk m S n rim e r->rw' (r.drop e) ks=dot (List.range n) (λi=>dot (List.range (m+2)) (rim i) (xOf e ks)) (shr m r):=λr hr=>by
  rw[val_x hr (by omega) hk,<-DZ (List.range n) (List.range (m+2)) rim];exact jZ λj hj=>by rw[hr.lin j (nI.mp hj)]
 rw[key r hr];refine(MN _ _).nn ?_ (h.gen _ (hr.inC he));rintro g ⟨k,hk',rfl⟩;rw[<-key k (h.ok k hk')];exact hv k hk'
theorem StOk.bears{m S n l:Nat}{rim:Nat->Nat->Rat}{af:List Rw}(h:StOk m S n rim l af)(hl:l<m)(hn:n<=S){ks:List Rat}(hk:ks.length=m+1-l)(hv:∀r∈yX m l af,0<=rw' (r.drop (l+1)) ks):Bears l ks af:=by
 have N:=h.next hl hn;refine⟨λr hr z=>N.nn (by omega) (by omega) hv ((h.ok r hr).up z),λu hu d hd pu pd=>?_⟩;rw[<-OD ((h.ok u hu).len.trans (h.ok d hd).len.symm)];exact N.nn (by omega) (by omega) hv (NI (h.ok u hu) (h.ok d hd) pu pd)
theorem xA{r:Rw}{l:Nat}(h:l<r.length):r.drop l=r.getD l 0::r.drop (l+1):=by
 rw[List.drop_eq_getElem_cons h,gA,gG h];rfl
theorem VO{m S n l:Nat}{rim:Nat->Nat->Rat}{af:List Rw}(h:StOk m S n rim l af)(hl:l<m){ks:List Rat}(B:Bears l ks af):∀r∈af,0<=rw' (r.drop l) (MG l ks af::ks):=λr hr=>by
 rw[xA (by rw[(h.ok r hr).len];omega)];exact BQ B af [] 0 (λ_ h=>h) (λ_ h=>nomatch h) (λ_ h=>nomatch h) r (by simpa using hr)
theorem yE{m S n:Nat}{rim:Nat->Nat->Rat}{af:List Rw}(h:StOk m S n rim 0 af)(hn:n<=S){T:Rat}(fin:∀r∈kD m af m,0<=rw' (r.drop m) [T,1]) :
  ∀k,k<=m->(∀r∈kD m af (m-k),0<=rw' (r.drop (m-k)) (qF m (kD m af) T k))/\∀j,j<k->Bears (m-1-j) (qF m (kD m af) T j) (kD m af (m-1-j))
 | 0,_=>⟨fin,λj hj=>by omega⟩
 | k+1,hk=>by
  obtain⟨i1,i2⟩:=yE h hn fin k (by omega);have el:m-(k+1)=m-1-k:=by omega
  have es:m-k=(m-1-k)+1:=by omega
  have st:=xQ h hn (m-1-k) (by omega);rw[es]at i1;have B:Bears (m-1-k) (qF m (kD m af) T k) (kD m af (m-1-k)):=st.bears (by omega) hn (by rw[qU];omega) i1;refine⟨?_,λj hj=>?_⟩
  ·rw[el];exact VO st (by omega) B
  ·by_cases e:j=k
   ·rw[e];exact B
   ·exact i2 j (by omega)
end LwF
namespace Lw
open PySem PySem.Spec PyProof.Rows L2
theorem rvT{K:tX}{H:Hp}{p:Addr}{xs:List V}{i:Int}{v:V}{Q:VK}{σ:L2.St}{a:Nat}(e1:σ[a]? = some (some (.ref p)))(h:SqT K H p xs)(e:atI xs i=some v)(q:Q v H):tOp (rIxT K) (kK a) (tC (.int i)) σ H Q:=⟨_,e1,p,xs,i,v,rfl,rfl,h,e,q⟩
theorem rvL{K:tX}{H:Hp}{p:Addr}{xs:List V}{i:Int}{v:V}{Q:VK}{σ:L2.St}{a:Nat}(e1:σ[a]? = some (some (.ref p)))(h:SqL K H p xs)(e:atI xs i=some v)(q:Q v H):tOp (AE K) (kK a) (tC (.int i)) σ H Q:=⟨_,e1,p,xs,i,v,rfl,rfl,h,e,q⟩
theorem gT2{K:tX}{H:Hp}{a:Addr}{x y:V}{i j n:Nat}{σ:L2.St}{Q:L2.St->Hp->Prop}(h:SqT K H a [x,y])(hn:2=n)(q:Q ((σ.set i (some x)).set j (some y)) H):KQ K n (yI (kR i) (yI (kR j) gNil)) (.ref a) σ H Q:=⟨a,_,rfl,h,hn,_,_,rfl,_,_,rfl,rfl,q⟩
theorem oVV{C:Int->Int->Prop}{g:Int->Int->V}{σ:L2.St}{a b:Nat}{x y:Int}{H:Hp}{Q:VK}(e1:σ[a]? = some (some (.int x)))(e2:σ[b]? = some (some (.int y)))(c:C x y)(q:Q (g x y) H):tOp (rI C g) (kK a) (kK b) σ H Q:=⟨_,e1,_,e2,_,_,rfl,rfl,c,q⟩
theorem TW{p:Addr}{xs:List V}{i:Int}{j a:Nat}{v:V}{σ:L2.St}{H:Hp}{Q:L2.St->Hp->Prop}(e:σ[a]? = some (some (.ref p)))(h:H p=some (.lst xs))(hj:ixN xs.length i=some j)(q:Q σ (upd H p (.lst (xs.set j v)))):IH (kK a) (tC (.int i)) rSetL v σ H Q:=⟨_,e,p,xs,i,j,rfl,rfl,h,hj,q⟩
def Tape(cl:Addr)(H:Hp)(tp:Addr)(B:Int):Prop:=∃(ns:List Int) (spot rest left:Int),H tp=some (.lst [.ref cl,.int spot,.int rest,.int left])/\H cl=some (.lst (ns.map V.int))/\ns.length<=63/\0<=spot/\spot<=B
theorem Tape.mono{cl:Addr}{H H':Hp}{tp:Addr}{B B':Int}(e:Same H H')(hB:B<=B')(h:Tape cl H tp B):Tape cl H' tp B':=by
 obtain⟨ns,spot,rest,left,h1,h2,h3,h4,h5⟩:=h;exact⟨ns,spot,rest,left,e _ _ h1,e _ _ h2,h3,h4,by omega⟩
def spGcd:Sp:=λvs H Q _=>∃a b:Int,vs=[.int a,.int b]/\0<b/\b.natAbs<2^8000/\Q (.int (Int.gcd a b)) H
def spDraw:Sp:=λvs H Q _=>∃(tp:Addr) (aa B:Int),vs=[.ref tp,.int aa]/\∃cl,Tape cl H tp B/\B<2^40/\0<aa/\aa<2^100/\
 ∀(r:Int) (H':Hp),0<=r->r<aa->Tape cl H' tp (B+1)->But tp H H'->Q (.int r) H'
theorem NF{tp:Addr}{aa B:Int}{cl:Addr}{H:Hp}{Q:VK}{σ:L2.St}{a:Nat}(e:σ[a]? = some (some (.ref tp)))(hT:Tape cl H tp B)(h1:B<2^40)(h2:0<aa)(h3:aa<2^100)(k:∀(r:Int) (H':Hp),0<=r->r<aa->Tape cl H' tp (B+1)->But tp H H'->Q (.int r) H'):LH spDraw [] E0 (qX (kK a) (qX (tC (.int aa)) tNil)) σ H Q:=⟨_,e,tp,aa,B,rfl,cl,hT,h1,h2,h3,k⟩
def xG(t b:Int):Int:=(if b<0 then 0-t else t)/(Int.gcd t b:Int)
def xH(t b:Int):Int:=(if b<0 then 0-b else b)/(Int.gcd t b:Int)
def LowFit(t b:Int):Prop:=b.natAbs<2^8000∨(t.natAbs<2^13400/\b.natAbs<2^13400)
def spLow:Sp:=λvs H Q _=>∃t b:Int,vs=[.int t,.int b]/\b≠0/\LowFit t b/\
 ∀(p:Addr) (H':Hp),H p=none->Same H H'->H' p=some (.tup [.int (xG t b),.int (xH t b)])->Q (.ref p) H'
def LN(K:tX):Sp:=λvs H Q _=>∃(a:Addr) (ns:List Int),vs=[.ref a]/\SqL K H a (ns.map V.int)/\ns.length<=63/\∀H',Q (.bl true) H'
structure Txt(mg:Str->Option Value):Prop where
 isi:mg "isinstance" = none
 len:mg "len" = none
 int:mg "int" = none
 bool:mg "bool" = none
 tup:mg "tuple" = none
 lst:mg "list" = none
 abs:mg "abs" = none
 rng:mg "range" = none
 lbits:∃t,mg "LONG_BITS" = some (.int 8000 t)
 sum:mg "sum" = none
 zip:mg "zip" = none
 sorted:mg "sorted" = none
 enum:mg "enumerate" = none
 dct:mg "dict" = none
 max:mg "max" = none
 rev:mg "reversed" = none
 verr:mg "ValueError" = none
structure Df(K:tX)(mg:Str->Option Value)(x:Str)(st:Stmt)(ps:List Str)(f:Addr)(fd:FuncData):Prop where
 F:Fun K x x st f fd
 b:Binds K fd ps []
 m:mg x=some (.ref f)
variable{P:Program}{w:World}{K:tX}{mg:Str->Option Value}{base:Heap}{f fd:_}
theorem scGcd:FnScope ["one","other"] ["one","other"] (jL OB):=⟨rfl,rfl,rfl,by decide +kernel,rfl,by decide +kernel,by decide +kernel⟩
theorem WY{X:Cx} :MtR X "int.bit_length" (λx xs H Q=>∃i:Int,x=.int i/\xs=[]/\Q (.int (Builtin.Int.intBits i:Nat)) H):=by
 intro ac s σ H x xs v us Q I rx rs q;obtain⟨i,rfl,rfl,q⟩:=q;obtain⟨t,rfl⟩:=rx;cases rs;exact call_int_bit_length ⟨.int (Builtin.Int.intBits i:Nat),H,I.tok _,⟨_,rfl⟩,q⟩
theorem KF(F:Fun K "greatest_divisor" "greatest_divisor" OB f fd)(T:Txt mg):FnOk P w K mg base CX0 1 f fd ["one","other"] spGcd:=by
 obtain⟨tl,hl⟩:=T.lbits;refine F.ok scGcd (λvs H Q E h=>?_) (λcdv A outer s H vs Q E hr h=>?_)
 ·obtain⟨a,b,rfl,_⟩:=h
  rfl
 ·obtain⟨a,b,rfl,hb,hs,k⟩:=h;refine⟨_,jB (HK PassesOwn.never (jT HR (pv 1) jD (jY _))
    (jE (kU (jT uP (ZQ PySem.F.plainAttrs_int slot_int_bit_length type_int_bit_length WY (pv 1)) (qB (v:=.int 8000) (by rfl) hl ⟨_,rfl⟩) (jY _)) zR
     (jE (JX (i:=0) (j:=1) rfl scGcd.nd rfl rfl (by decide) rfl rfl (jA (pv 1) (jA (jK xF (pv 0) (pv 1)) jC)) rfl)))))
   (jE (jP (pv 0))), ?_⟩
  try dsimp only[cxK]
  refine GQ (fun σ H1=>H1=H/\∃p q:Int,σ=[some (.int p),some (.int q)]/\0<=q/\(0<q∨0<=p)/\q.natAbs<2^8000/\Int.gcd p q=Int.gcd a b)
   (fun σ _=>match σ with | [_,some (.int q)]=>q.toNat | _=>0) ⟨rfl,a,b,rfl,by omega,.inl hb,hs,rfl⟩ ?_ ?_
  ·rintro σ H1 ⟨rfl,p,q,rfl,h0,h1,hq8,h2⟩;refine⟨_,rfl,rfl,_,rfl, ?_⟩;refine AG (λe=>?_) (λe=>?_)
   ·have hq:0<q:=by
     have:q≠0:=λz=>by simp [z]at e
     omega
    have hbits:(Builtin.Int.intBits q)<=8000:=PySem.intBits_le_iff.mpr hq8;refine⟨_,rfl,rfl,_,rfl,rfl,_,_,rfl,rfl,_,rfl,vF (nA (by omega)) ?_⟩;refine⟨_,rfl,_,rfl,_,rfl,_,_,rfl,rfl,hq,_,_,rfl, ?_⟩;have m1:=Int.emod_nonneg p (b:=q) (by omega);have m2:=Int.emod_lt_of_pos p hq;have m3:(p%q).natAbs<=q.natAbs:=by omega
    refine⟨⟨rfl,q,p%q,rfl,m1,.inr h0,hU m3 hq8,(LwM.IG p q).trans h2⟩, ?_⟩;show(p%q).toNat<q.toNat;omega
   ·have hq:q=0:=by
     by_cases z:q=0
     ·exact z
     ·exact absurd (by simp [z]) e
    subst hq;refine⟨_,rfl, ?_⟩;have:p=((Int.gcd a b:Nat):Int):=by
     rw[<-h2,Int.gcd_zero_right];omega
    rw[this];exact k
  ·rintro σ H1 Q1 Q2 hQ ⟨v,e,hs,k',ek,q⟩;exact⟨v,e,hs,k',ek,hQ _ _ q⟩
theorem scLow:FnScope ["top","bottom","one","other"] ["top","bottom"] (jL RB):=⟨rfl,rfl,rfl,by decide +kernel,rfl,by decide +kernel,by decide +kernel⟩
theorem SH(F:Fun K "_law_low" "_law_low" RB f fd)(T:Txt mg):FnOk P w K mg base CX0 1 f fd ["top","bottom"] spLow:=by
 refine F.ok scLow (λvs H Q E h=>?_) (λcdv A outer s H vs Q E hr h=>?_)
 ·obtain⟨t,b,rfl,_⟩:=h
  rfl
 ·obtain⟨t,b,rfl,hb,hs,k⟩:=h;refine⟨_,jB (kU (jT zX (pv 1) jD (jY _)) (jE (JX (i:=0) (j:=1) rfl scLow.nd rfl rfl (by decide) rfl rfl (jA (jK zH jD (pv 0)) (jA (jK zH jD (pv 1)) jC)) rfl)) kC)
   (jB (jM (i:=2) scLow.nd rfl (Or.inl rfl) (qC UX (by rfl) T.abs boot_abs (jA (pv 0) jC)))
   (jB (jM (i:=3) scLow.nd rfl (Or.inl rfl) (pv 1))
   (jB (HK PassesOwn.never (jT uP (pv 2) jD (jY _)) (jE (JX (i:=2) (j:=3) rfl scLow.nd rfl rfl (by decide) rfl rfl (jA (jK xF (pv 3) (pv 2)) (jA (pv 2) jC)) rfl)))
   (jE (jP (ZP (jA (jK LwD.HS (pv 0) (pv 3)) (jA (jK LwD.HS (pv 1) (pv 3)) jC)))))))), ?_⟩
  try dsimp only[cxK]
  refine⟨_,rfl,_,_,rfl,rfl,_,rfl, ?_⟩;have fin:∀t' b':Int,0<b'->(∀q:Int,0<q->q<=b'->LwD.CDivP t' q/\LwD.CDivP b' q)->t'=(if b<0 then 0-t else t)->b'=(if b<0 then 0-b else b)->Int.gcd t' b'=Int.gcd t b->
    (xD (yC (tCB (λxs H Q=>∃i,xs=[V.int i]/\Q (.int (if i<0 then -i else i)) H) (qX (kK 0) tNil)) (kR 2)) (xD (yC (kK 1) (kR 3)) (xD (JL (LG (tOp (rI0 λi j=>V.bl (decide (j<i))) (kK 2) (tC (.int 0)))) (tPar 2 3 (qX (tOp (rI (λ_ j=>0<j) λi j=>.int (i%j)) (kK 3) (kK 2)) (qX (kK 2) tNil)))) (NW (tTup (qX (tOp (rI LwD.CDivP λi j=>.int (i/j)) (kK 0) (kK 3)) (qX (tOp (rI LwD.CDivP λi j=>.int (i/j)) (kK 1) (kK 3)) tNil))))))) { nx:=λ_ H'=>Q .non H',rt:=Q } [some (.int t'),some (.int b'),none,none] H:=by
   intro t' b' hb' hs' et eb hg;refine⟨_,rfl,_,rfl,_,rfl, ?_⟩;refine GQ (fun σ H1=>H1=H/\∃p q:Int,σ=[some (.int t'),some (.int b'),some (.int p),some (.int q)]/\0<=p/\0<q/\Int.gcd q p=Int.gcd t b)
    (fun σ _=>match σ with | [_,_,some (.int p),_]=>p.toNat | _=>0) ⟨rfl,_,b',rfl,by split<;>omega,hb', ?_⟩ ?_ ?_
   ·rw[<-hg,Int.gcd_comm t'];split
    ·exact Int.gcd_neg
    ·rfl
   ·rintro σ H1 ⟨rfl,p,q,rfl,h0,h1,h2⟩;refine⟨_,rfl,_,_,rfl,rfl,_,rfl, ?_⟩;refine AG (λe=>?_) (λe=>?_)
    ·have hp:0<p:=mL e;refine⟨_,rfl,_,rfl,_,_,rfl,rfl,hp,_,rfl,_,_,rfl, ?_⟩;have m1:=Int.emod_nonneg q (b:=p) (by omega);have m2:=Int.emod_lt_of_pos q hp;refine⟨⟨rfl,q%p,p,rfl,m1,hp,(LwM.IG q p).trans h2⟩, ?_⟩;show(q%p).toNat<p.toNat;omega
    ·have hp:p=0:=by
      have:¬0<p:=λz=>e (nG z);omega
     subst hp;have hq:q=((Int.gcd t b:Nat):Int):=by
      rw[<-h2,Int.gcd_zero_right];omega
     have gb:q<=b':=by
      rw[hq,<-hg];exact LwM.TR t' b' hb'
     obtain⟨c1,c2⟩:=hs' q h1 gb;refine⟨_,rfl,_,rfl,_,_,rfl,rfl,c1,_,rfl,_,rfl,_,_,rfl,rfl,c2,uY, ?_⟩;refine fresh λp H' n s1 e1=>k p H' n s1 ?_;rw[e1,hq,et,eb]
     rfl
   ·rintro σ H1 Q1 Q2 hQ ⟨v,e,i,j,e1,e2,k',ek,q⟩;exact⟨v,e,i,j,e1,e2,k',ek,hQ _ _ q⟩
  have hs2:∀t' b':Int,t'.natAbs=t.natAbs->b'.natAbs=b.natAbs->0<b'->∀q:Int,0<q->q<=b'->LwD.CDivP t' q/\LwD.CDivP b' q:=λt' b' e1 e2 h0 q h1 h2=>by
   rcases hs with hs | ⟨ha,hb2⟩
   ·have hq:q.natAbs<2^8000:=hU (by omega) hs;exact⟨LwD.IV ⟨h1,hq⟩,LwD.IV ⟨h1,hq⟩⟩
   ·exact⟨LwD.CD h1 uV (by rw[e1];exact ha),LwD.CD h1 uV (by rw[e2];exact hb2)⟩
  by_cases n:b<0
  ·refine vS (nG n) ?_;refine⟨_,rfl,_,_,rfl,rfl,_,rfl,_,_,rfl,rfl,_,_,rfl, ?_⟩;refine fin (0-t) (0-b) (by omega) (hs2 _ _ (by omega) (by omega) (by omega)) (by rw[tW n]) (by rw[tW n]) ?_;rw[Int.zero_sub,Int.zero_sub,Int.neg_gcd,Int.gcd_neg]
  ·refine vF (nA n) ?_;exact fin t b (by omega) (hs2 _ _ rfl rfl (by omega)) (by rw[tV n]) (by rw[tV n]) rfl
theorem ML{t b:Int}(h:0<b):xG t b=t/(Int.gcd t b:Int)/\xH t b=b/(Int.gcd t b:Int):=by
 unfold xG xH;rw[tV (by omega),tV (by omega)];exact⟨rfl,rfl⟩
theorem YA{ns:List Int}{i:Int}(h0:0<=i)(h1:i<ns.length):∃c:Int,atI (ns.map V.int) i=some (.int c):=by
 obtain⟨j,rfl⟩:=gI h0;have hj:j<ns.length:=by omega
 exact⟨ns[j],yS (by simp [hj])⟩
theorem scDraw:FnScope ["tape","many","spot","cell","some","rest"] ["tape","many"] (jL BI):=⟨rfl,rfl,rfl,by decide +kernel,rfl,by decide +kernel,by decide +kernel⟩
theorem MD(F:Fun K "_law_draw" "_law_draw" BI f fd)(T:Txt mg):FnOk P w K mg base CX0 1 f fd ["tape","many"] spDraw:=by
 refine F.ok scDraw (λvs H Q E h=>?_) (λcdv A outer s H vs Q E hr h=>?_)
 ·obtain⟨tp,aa,B,rfl,_⟩:=h
  rfl
 ·obtain⟨tp,aa,B,rfl,cl,⟨ns,spot,rest,left,h1,h2,h3,h4,h5⟩,hB,hm,hm2,k⟩:=h;have hne:cl≠tp:=by
   rintro rfl;rw[h1]at h2;injection h2 with h2
   injection h2 with h2
   cases ns with
   | nil=>cases h2
   | cons n r=>injection h2 with z;cases z
  refine⟨_,jB (kU (jT xX (jQ jW (pv 0) jD (λ_ _=>rfl)) jD (jY _))
    (jB (jM (i:=2) scDraw.nd rfl (Or.inl rfl) (jQ jW (pv 0) jD (λ_ _=>rfl)))
    (jB (qL (jK kJ (pv 2) jD) (zF (pv 0) jD vZ))
    (jB (jM (i:=3) scDraw.nd rfl (Or.inl rfl) jD)
    (jB (kU (jT uP (qC qS (by rfl) T.len PySem.boot_len (jA (jQ jW (pv 0) jD (λ_ _=>rfl)) jC)) jD (jY _))
     (jE (jM (i:=3) scDraw.nd rfl (Or.inl rfl) (jQ jW (jQ jW (pv 0) jD (λ_ _=>rfl)) (jK xF (pv 2) (qC qS (by rfl) T.len PySem.boot_len (jA (jQ jW (pv 0) jD (λ_ _=>rfl)) jC))) (λ_ _=>rfl)))) kC)
    (jB (kU (PW.pt (YM (jT op_ge (pv 2) (qC qS (by rfl) T.len PySem.boot_len (jA (jQ jW (pv 0) jD (λ_ _=>rfl)) jC)) (jY _)) (RP (jT zX (pv 3) (jK FH jD jD) (jY _)))))
     (jB (jM (i:=4) scDraw.nd rfl (Or.inl rfl) (jK kJ (jK kJ (jK xF (jK wG (pv 2) (pv 2)) jD) (jK wG jD (pv 2))) jD))
     (jB (jM (i:=4) scDraw.nd rfl (Or.inl rfl) (jK xF (jK wG (jK kJ (jK xF (pv 3) jD) jD) (pv 4)) jD))
     (jE (jP (jK xF (jK xF (jK kJ (jK VX (jK xF (jK wG (pv 4) (pv 4)) jD) jD) (jK wG jD (pv 2))) jD) (pv 1)))))) kC)
    (jB (qL (jK zH (pv 3) (jK FH jD jD)) (zF (pv 0) jD vZ))
    (jE (qL jD (zF (pv 0) jD vZ))))))))) kC)
   (jB (qL (jK zH (jQ jW (pv 0) jD (λ_ _=>rfl)) jD) (zF (pv 0) jD vZ))
   (jB (jM (i:=5) scDraw.nd rfl (Or.inl rfl) (jQ jW (pv 0) jD (λ_ _=>rfl)))
   (jB (qL (jK qO (pv 5) (pv 1)) (zF (pv 0) jD vZ))
   (jE (jP (jK xF (pv 5) (pv 1))))))), ?_⟩
  try dsimp only[cxK]
  have hmd:aa.natAbs<2^8000:=by
   have:aa.natAbs<2^100:=by
    have h:((2^100:Nat):Int)=2^100:=by decide
    omega
   exact mB this (gU (by decide) (by decide))
  have tail:∀(spot' rest' left':Int) (a b c d:Option V) (H1:Hp),H1 tp=some (.lst [.ref cl,.int spot',.int rest',.int left'])->But tp H H1->0<=spot'->spot'<=B+1->
    (xD (yC (tOp (rI0 λi j=>V.int (i-j)) (tOp (AE K) (kK 0) (tC (.int 3))) (tC (.int 1))) (IH (kK 0) (tC (.int 3)) rSetL))
     (xD (yC (tOp (AE K) (kK 0) (tC (.int 2))) (kR 5))
     (xD (yC (tOp (rI CDivL λi j=>.int (i/j)) (kK 5) (kK 1)) (IH (kK 0) (tC (.int 2)) rSetL))
     (NW (tOp (rI (λ_ j=>0<j) λi j=>.int (i%j)) (kK 5) (kK 1)))))) { nx:=λ_ H'=>Q .non H',rt:=Q } [some (.ref tp),some (.int aa),a,b,c,d] H1:=by
   intro spot' rest' left' a b c d H1 g1 g2 g3 g4;refine(rvL rfl (SqL.of g1) rfl ⟨_,_,rfl,rfl, ?_⟩);refine TW rfl g1 rfl ?_;refine(rvL rfl (SqL.of jF) rfl ?_);refine oVV rfl rfl ⟨hm,hmd⟩ (TW rfl jF rfl ?_);refine⟨_,rfl,_,rfl,_,_,rfl,rfl,hm, ?_⟩;refine k _ _ (Int.emod_nonneg _ (by omega)) (Int.emod_lt_of_pos _ hm) ⟨ns,spot',_,_,jF, ?_,h3,g3,g4⟩ ?_
   ·rw[jH hne,jH hne];exact g2 _ _ h2 hne
   ·exact(g2.trans (But.upd _ _ _)).trans (But.upd _ _ _)
  refine(rvL rfl (SqL.of h1) rfl ⟨rfl,_,rfl, ?_⟩);by_cases hl:left=0
  ·subst hl;refine vS (by decide) ?_;refine(rvL rfl (SqL.of h1) rfl ?_);refine⟨_,rfl,_,_,rfl,rfl,TW rfl h1 rfl ?_⟩;have T1:∀o,(upd H tp o) cl=some (.lst (ns.map V.int)):=λo=>by
    rw[jH hne];exact h2
   have mid:∀(cell:Int) (b c:Option V),(xD (tIfS (tOr (LG (tOp (rI0 λi j=>V.bl (decide (j<=i))) (kK 2) (tCB (λxs H Q=>∃p ys,xs=[V.ref p]/\(SqL K H p ys∨SqT K H p ys)/\Q (.int ys.length) H) (qX (tOp (AE K) (kK 0) (tC (.int 0))) tNil))))
      (LG (tOp (rI0 λi j=>V.bl (decide (i<j))) (kK 3) (tOp (rI CPow λi j=>.int (i^j.toNat)) (tC (.int 10)) (tC (.int 18))))))
     (xD (yC (tOp (rI0 λi j=>V.int (i+j)) (tOp (rI0 λi j=>V.int (i+j)) (tOp (rI (λ_ j=>0<j) λi j=>.int (i%j)) (tOp (rI CMul λi j=>.int (i*j)) (kK 2) (kK 2)) (tC (.int 10007))) (tOp (rI CMul λi j=>.int (i*j)) (tC (.int 61)) (kK 2))) (tC (.int 7))) (kR 4))
     (xD (yC (tOp (rI (λ_ j=>0<j) λi j=>.int (i%j)) (tOp (rI CMul λi j=>.int (i*j)) (tOp (rI0 λi j=>V.int (i+j)) (tOp (rI (λ_ j=>0<j) λi j=>.int (i%j)) (kK 3) (tC (.int 999983))) (tC (.int 3))) (kK 4)) (tC (.int 1000003))) (kR 4))
     (NW (tOp (rI (λ_ j=>0<j) λi j=>.int (i%j)) (tOp (rI (λ_ j=>0<j) λi j=>.int (i%j)) (tOp (rI0 λi j=>V.int (i+j)) (tOp (rI CDiv λi j=>.int (i/j)) (tOp (rI (λ_ j=>0<j) λi j=>.int (i%j)) (tOp (rI CMul λi j=>.int (i*j)) (kK 4) (kK 4)) (tC (.int 999979))) (tC (.int 3))) (tOp (rI CMul λi j=>.int (i*j)) (tC (.int 131)) (kK 2))) (tC (.int 99991))) (kK 1)))))
     tNext)
     (xD (yC (tOp (rI0 λi j=>V.int (i-j)) (kK 3) (tOp (rI CPow λi j=>.int (i^j.toNat)) (tC (.int 10)) (tC (.int 18)))) (IH (kK 0) (tC (.int 2)) rSetL))
     (yC (tC (.int 40)) (IH (kK 0) (tC (.int 3)) rSetL))))
     { nx:=(xD (yC (tOp (rI0 λi j=>V.int (i-j)) (tOp (AE K) (kK 0) (tC (.int 3))) (tC (.int 1))) (IH (kK 0) (tC (.int 3)) rSetL))
     (xD (yC (tOp (AE K) (kK 0) (tC (.int 2))) (kR 5))
     (xD (yC (tOp (rI CDivL λi j=>.int (i/j)) (kK 5) (kK 1)) (IH (kK 0) (tC (.int 2)) rSetL))
     (NW (tOp (rI (λ_ j=>0<j) λi j=>.int (i%j)) (kK 5) (kK 1)))))) { nx:=λ_ H'=>Q .non H',rt:=Q },rt:=Q } [some (.ref tp),some (.int aa),some (.int spot),some (.int cell),b,c] (upd H tp (.lst [.ref cl,.int (spot+1),.int rest,.int 0])):=by
    intro cell b c;have pw:CPow 10 18:=⟨by decide,by decide,by decide⟩;have drawn:(xD (yC (tOp (rI0 λi j=>V.int (i+j)) (tOp (rI0 λi j=>V.int (i+j)) (tOp (rI (λ_ j=>0<j) λi j=>.int (i%j)) (tOp (rI CMul λi j=>.int (i*j)) (kK 2) (kK 2)) (tC (.int 10007))) (tOp (rI CMul λi j=>.int (i*j)) (tC (.int 61)) (kK 2))) (tC (.int 7))) (kR 4))
     (xD (yC (tOp (rI (λ_ j=>0<j) λi j=>.int (i%j)) (tOp (rI CMul λi j=>.int (i*j)) (tOp (rI0 λi j=>V.int (i+j)) (tOp (rI (λ_ j=>0<j) λi j=>.int (i%j)) (kK 3) (tC (.int 999983))) (tC (.int 3))) (kK 4)) (tC (.int 1000003))) (kR 4))
     (NW (tOp (rI (λ_ j=>0<j) λi j=>.int (i%j)) (tOp (rI (λ_ j=>0<j) λi j=>.int (i%j)) (tOp (rI0 λi j=>V.int (i+j)) (tOp (rI CDiv λi j=>.int (i/j)) (tOp (rI (λ_ j=>0<j) λi j=>.int (i%j)) (tOp (rI CMul λi j=>.int (i*j)) (kK 4) (kK 4)) (tC (.int 999979))) (tC (.int 3))) (tOp (rI CMul λi j=>.int (i*j)) (tC (.int 131)) (kK 2))) (tC (.int 99991))) (kK 1))))) { nx:=λ_ _=>False,rt:=Q } [some (.ref tp),some (.int aa),some (.int spot),some (.int cell),b,c] (upd H tp (.lst [.ref cl,.int (spot+1),.int rest,.int 0])):=by
     refine⟨_,rfl,_,rfl,_,_,rfl,rfl,.inl ⟨by omega,by omega⟩,_,_,rfl,rfl,(by show(0:Int)<_;decide), ?_⟩;refine⟨_,rfl,_,_,rfl,rfl,.inl ⟨by omega,by omega⟩,_,_,rfl,rfl,_,_,rfl,rfl, ?_⟩;have c1:=Int.emod_nonneg cell (b:=999983) (by decide);have c2:=Int.emod_lt_of_pos cell (b:=999983) (by decide);refine⟨_,rfl,_,_,rfl,rfl,(by show(0:Int)<_;decide),_,_,rfl,rfl,_,rfl,_,_,rfl,rfl,.inl ⟨by omega,by omega⟩,_,_,rfl,rfl,(by show(0:Int)<_;decide), ?_⟩;generalize hx:((cell%999983+3)*(spot*spot%10007+61*spot+7))=x;have d1:=Int.emod_nonneg x (b:=1000003) (by decide);have d2:=Int.emod_lt_of_pos x (b:=1000003) (by decide);refine⟨_,rfl,_,rfl,_,_,rfl,rfl,.inl ⟨by omega,by omega⟩,_,_,rfl,rfl,(by show(0:Int)<_;decide),_,_,rfl,rfl,⟨by decide,by decide⟩, ?_⟩;refine⟨_,rfl,_,_,rfl,rfl,.inl ⟨by decide,by decide⟩,_,_,rfl,rfl,_,_,rfl,rfl,(by show(0:Int)<_;decide),_,rfl,_,_,rfl,rfl,hm, ?_⟩;exact k _ _ (Int.emod_nonneg _ (by omega)) (Int.emod_lt_of_pos _ hm) ⟨ns,spot+1,_,_,jF,T1 _,h3,by omega,by omega⟩ (But.upd _ _ _)
    refine⟨_,rfl,rvL rfl (SqL.of jF) rfl ⟨cl,_,rfl,.inl (SqL.of (T1 _)),_,_,rfl,rfl,_,rfl, ?_⟩⟩;by_cases z1:((ns.map V.int).length:Int)<=spot
    ·refine vS (nG z1) (FP ?_);exact drawn
    ·refine vF (nA z1) ?_;refine⟨_,rfl,_,_,rfl,rfl,pw,_,_,rfl,rfl,_,rfl, ?_⟩;by_cases z2:cell<(10:Int)^(18:Int).toNat
     ·refine vS (nG z2) ?_;exact drawn
     ·refine vF (nA z2) ?_;refine⟨_,rfl,_,_,rfl,rfl,pw,_,_,rfl,rfl,TW rfl jF rfl ?_⟩;refine TW rfl jF rfl ?_;exact tail (spot+1) _ 40 _ _ _ _ _ jF (((But.upd _ _ _).trans (But.upd _ _ _)).trans (But.upd _ _ _)) (by omega) (by omega)
   refine(rvL rfl (SqL.of jF) rfl ⟨cl,_,rfl,.inl (SqL.of (T1 _)),_,_,rfl,rfl,_,rfl, ?_⟩);by_cases hn:(0:Int)<((ns.map V.int).length:Int)
   ·refine vS (nG hn) ?_;obtain⟨c,hc⟩:=YA (ns:=ns) (i:=spot%((ns.map V.int).length:Int)) (Int.emod_nonneg _ (by omega)) (by have:=Int.emod_lt_of_pos spot hn;rw[mY]at this ⊢;exact this);refine(rvL rfl (SqL.of jF) rfl ⟨_,rfl,rvL rfl (SqL.of jF) rfl ⟨cl,_,rfl,.inl (SqL.of (T1 _)),_,_,rfl,rfl,hn,cl,_,_,_,rfl,rfl,SqL.of (T1 _),hc, ?_⟩⟩);exact mid c _ _
   ·refine vF (nA hn) ?_;exact mid 0 _ _
  ·refine vF (nA (by intro z;injection z with z;exact hl z)) ?_;exact tail spot rest left _ _ _ _ H h1 (But.refl _ _) h4 (by omega)
end Lw
namespace LwV
abbrev Pl:=List (List Int×Rat)
def cf:Pl->List Int->Rat
 | [],_=>0
 | x::P,m=>(if x.1=m then x.2 else 0)+cf P m
theorem zT(x:List Int×Rat)(P:Pl)(m:List Int):cf (x::P) m=(if x.1=m then x.2 else 0)+cf P m:=rfl
theorem CC:∀(P Q:Pl) (m:List Int),cf (P++Q) m=cf P m+cf Q m
 | [],Q,m=>by show cf Q m=0+cf Q m;grind
 | x::P,Q,m=>by rw[List.cons_append,zT,zT,CC P Q m];grind
theorem UU{P:Pl}{m:List Int}(h:∀x∈P,x.1≠m):cf P m=0:=by
 induction P with
 | nil=>rfl
 | cons x P ih=>
  rw[zT,tV (h x (by simp)),ih λy hy=>h y (by simp [hy])]
  grind
theorem cf_in{P:Pl}{m:List Int}(h:cf P m≠0):m∈P.map (·.1):=by
 refine gD λn=>h (UU λx hx e=>n ?_);exact tD.mpr ⟨x,hx,e⟩
theorem cf_one{P:Pl}(nd:(P.map (·.1)).Nodup){x:List Int×Rat}(hx:x∈P):cf P x.1=x.2:=by
 induction P with
 | nil=>cases hx
 | cons y P ih=>
  rw[nO,List.nodup_cons]at nd;rw[zT];rcases nP.mp hx with rfl | h
  ·rw[tW rfl,UU λz hz e=>nd.1 (tD.mpr ⟨z,hz,e⟩)]
   grind
  ·rw[tV λe=>nd.1 (tD.mpr ⟨x,h,e.symm⟩),ih nd.2 h]
   grind
end LwV
namespace LwQ
theorem JV{t b o u t' b':Int}{R1 R2:Nat}(hb:0<b)(hu:0<u)(h:t'*(b*u)=(t*u+o*b)*b')(h1:t.natAbs<=R1*b.natAbs)(h2:o.natAbs<=R2*u.natAbs):t'.natAbs<=(R1+R2)*b'.natAbs:=by
 have e:=congrArg Int.natAbs h;rw[nH,nH,nH]at e;have k:(t*u+o*b).natAbs<=(R1+R2)*(b.natAbs*u.natAbs):=by
  refine nY (Int.natAbs_add_le _ _) ?_;rw[nH,nH,Nat.add_mul];refine Nat.add_le_add ?_ ?_
  ·calc t.natAbs*u.natAbs<=R1*b.natAbs*u.natAbs:=gX _ h1
    _=R1*(b.natAbs*u.natAbs):=Nat.mul_assoc ..
  ·calc o.natAbs*b.natAbs<=R2*u.natAbs*b.natAbs:=gX _ h2
    _=R2*(b.natAbs*u.natAbs):=by rw[Nat.mul_assoc,Nat.mul_comm u.natAbs]
 have p:0<b.natAbs*u.natAbs:=Nat.mul_pos (by omega) (by omega);refine Nat.le_of_mul_le_mul_right ?_ p;rw[e]
 calc (t*u+o*b).natAbs*b'.natAbs<=(R1+R2)*(b.natAbs*u.natAbs)*b'.natAbs:=gX _ k
  _=(R1+R2)*b'.natAbs*(b.natAbs*u.natAbs):=by grind
end LwQ
namespace Lw
open PySem PySem.Spec PyProof.Rows L2
structure FrOk(n:Nat)(t b:Int):Prop where
 pos:0<b
 low:Int.gcd t b=1
 st:t.natAbs<2^n
 sb:b.natAbs<2^n
def At2(H:Hp)(p:Addr)(t b:Int):Prop:=H p=some (.tup [.int t,.int b])
theorem NO{a b:Int}{m n:Nat}(ha:a.natAbs<2^m)(hb:b.natAbs<2^n):(a*b).natAbs<2^(m+n):=by
 rw[nH,tP];exact Nat.mul_lt_mul'' ha hb
theorem YD{a b:Int}{n:Nat}(ha:a.natAbs<2^n)(hb:b.natAbs<2^n):(a+b).natAbs<2^(n+1):=by
 rw[Nat.pow_succ];omega
theorem kH{a:Int}{m n:Nat}(ha:a.natAbs<2^m)(h:m<=n):a.natAbs<2^n:=mB ha (gU (by decide) h)
theorem qT{a g:Int}{n:Nat}(ha:a.natAbs<2^n)(hg:1<=g):(a/g).natAbs<2^n:=hU (LwM.BZ a g hg) ha
theorem AV{a b:Int}{n:Nat}(hb:0<b)(hs:b.natAbs<2^n):((Int.gcd a b:Nat):Int).natAbs<2^n:=by
 have:=LwM.TR a b hb;have:=LwM.qR a b hb;omega
theorem qV{t b:Int}(h:0<b):xG t b=t/(Int.gcd t b:Int):=(ML h).1
theorem vN{t b:Int}(h:0<b):xH t b=b/(Int.gcd t b:Int):=(ML h).2
def YJ(K:tX)(nt nb:Int->Int->Int->Int->Int):Sp:=λvs H Q _=>∃(p q:Addr) (t b o u:Int),vs=[.ref p,.ref q]/\SqT K H p [.int t,.int b]/\SqT K H q [.int o,.int u]/\FrOk 7900 t b/\FrOk 7900 o u/\
 ∀(r:Addr) (H':Hp),H r=none->Same H H'->At2 H' r (xG (nt t b o u) (nb t b o u)) (xH (nt t b o u) (nb t b o u))->Q (.ref r) H'
abbrev LM(K:tX):Sp:=YJ K (λt _ o _=>t*o) (λ_ b _ u=>b*u)
theorem vE{K:tX}{H H':Hp}{a:Addr}{xs:List V}(s:Same H H')(h:SqT K H a xs):SqT K H' a xs:=by
 rcases h with(h | ⟨o,h⟩) | h
 ·exact .inl (.inl (s _ _ h))
 ·exact .inl (.inr ⟨o,s _ _ h⟩)
 ·exact .inr h
variable{P:Program}{w:World}{K:tX}{mg:Str->Option Value}{base:Heap}{f fd:_}
theorem scMul:FnScope ["one","other","top","bottom","over","under","first","second"] ["one","other"] (jL OA):=⟨rfl,rfl,rfl,by decide +kernel,rfl,by decide +kernel,by decide +kernel⟩
theorem SG{fG:Addr}{fdG:FuncData}(F:Fun K "multiplied" "multiplied" OA f fd)(T:Txt mg)(DG:Df K mg "greatest_divisor" OB ["one","other"] fG fdG):FnOk P w K mg base CX0 2 f fd ["one","other"] (LM K):=by
 have GG:FnOk P w K mg base CX0 1 fG fdG ["one","other"] spGcd:=KF DG.F T;refine F.ok scMul (λvs H Q E h=>?_) (λcdv A outer s H vs Q E hr h=>?_)
 ·obtain⟨p,q,t,b,o,u,rfl,_⟩:=h
  rfl
 ·obtain⟨p,q,t,b,o,u,rfl,hp,hq,f1,f2,k⟩:=h;refine⟨_,jB (qL (pv 0) (qW rfl (jO (jI (i:=2) scMul.nd rfl (Or.inl rfl)) (jO (jI (i:=3) scMul.nd rfl (Or.inl rfl)) kS))))
   (jB (qL (pv 1) (qW rfl (jO (jI (i:=4) scMul.nd rfl (Or.inl rfl)) (jO (jI (i:=5) scMul.nd rfl (Or.inl rfl)) kS))))
   (jB (jM (i:=6) scMul.nd rfl (Or.inl rfl) (jG GG hr rfl DG.m DG.F.kp DG.b .nil jR (jA (pv 2) (jA (pv 5) jC))))
   (jB (jM (i:=7) scMul.nd rfl (Or.inl rfl) (jG GG hr rfl DG.m DG.F.kp DG.b .nil jR (jA (pv 4) (jA (pv 3) jC))))
   (jE (jP (jV (jA (jK qH (jK qO (pv 2) (pv 6)) (jK qO (pv 4) (pv 7))) (jA (jK qH (jK qO (pv 3) (pv 7)) (jK qO (pv 5) (pv 6))) jC)))))))), ?_⟩
  try dsimp only[cxK]
  refine⟨_,rfl,p,_,rfl,hp,rfl,_,_,rfl,_,_,rfl,rfl, ?_⟩;refine⟨_,rfl,q,_,rfl,hq,rfl,_,_,rfl,_,_,rfl,rfl, ?_⟩;refine⟨_,rfl,_,rfl,t,u,rfl,f2.pos,kH f2.sb (by decide), ?_⟩;refine⟨_,rfl,_,rfl,o,b,rfl,f1.pos,kH f1.sb (by decide), ?_⟩;have a1:=LwM.qR t u f2.pos;have a2:=LwM.qR o b f1.pos;have d1:CDivL t (Int.gcd t u:Int):=⟨by omega,kH (AV f2.pos f2.sb) (by decide)⟩;have d2:CDivL t (Int.gcd o b:Int):=⟨by omega,kH (AV f1.pos f1.sb) (by decide)⟩;have m:=LwM.WX f1.pos f2.pos f1.low f2.low;refine⟨_,rfl,_,rfl,_,_,rfl,rfl,d1,_,rfl,_,rfl,_,_,rfl,rfl,d2,_,_,rfl,rfl,⟨kH (qT f1.st a1) (by decide),kH (qT f2.st a2) (by decide)⟩, ?_⟩;refine⟨_,rfl,_,rfl,_,_,rfl,rfl,d2,_,rfl,_,rfl,_,_,rfl,rfl,d1,_,_,rfl,rfl,⟨kH (qT f1.sb a2) (by decide),kH (qT f2.sb a1) (by decide)⟩,uY,λr H' n s e=>?_⟩;refine k r H' n s ?_;have bu:=tN f1.pos f2.pos;show H' r=_;rw[e,qV bu,vN bu];dsimp only;rw[m.1,m.2]
def BF(K:tX):Sp:=λvs H Q _=>∃(p q:Addr) (t b o u:Int),vs=[.ref p,.ref q]/\SqT K H p [.int t,.int b]/\SqT K H q [.int o,.int u]/\FrOk 7900 t b/\FrOk 7900 o u/\o≠0/\
 ∀(r:Addr) (H':Hp),H r=none->Same H H'->At2 H' r (xG (t*u) (b*o)) (xH (t*u) (b*o))->Q (.ref r) H'
theorem AT{t b:Int}(h:b<0):xG (-t) (-b)=xG t b/\xH (-t) (-b)=xH t b:=by
 unfold xG xH;simp only[tV (show ¬(-b<0) by omega),tW h,Int.neg_gcd,Int.gcd_neg,Int.zero_sub];exact⟨trivial,trivial⟩
theorem scDiv:FnScope ["one","other","over","under"] ["one","other"] (jL JP):=⟨rfl,rfl,rfl,by decide +kernel,rfl,by decide +kernel,by decide +kernel⟩
theorem WM{fM fG:Addr}{fdM fdG:FuncData}(F:Fun K "divided" "divided" JP f fd)(T:Txt mg)(DM:Df K mg "multiplied" OA ["one","other"] fM fdM)(DG:Df K mg "greatest_divisor" OB ["one","other"] fG fdG):FnOk P w K mg base CX0 3 f fd ["one","other"] (BF K):=by
 have GM:FnOk P w K mg base CX0 2 fM fdM ["one","other"] (LM K):=SG DM.F T DG;refine F.ok scDiv (λvs H Q E h=>?_) (λcdv A outer s H vs Q E hr h=>?_)
 ·obtain⟨p,q,t,b,o,u,rfl,_⟩:=h
  rfl
 ·obtain⟨p,q,t,b,o,u,rfl,hp,hq,f1,f2,ho,k⟩:=h;refine⟨_,jB (qL (pv 1) (qW rfl (jO (jI (i:=2) scDiv.nd rfl (Or.inl rfl)) (jO (jI (i:=3) scDiv.nd rfl (Or.inl rfl)) kS))))
   (jB (kU (jT xX (pv 2) jD (jY _)) (jE HL) kC)
   (jB (kU (jT zX (pv 2) jD (jY _)) (jE (jP (jG GM hr rfl DM.m DM.F.kp DM.b .nil jR (jA (pv 0) (jA (jV (jA (vI qJ (pv 3)) (jA (vI qJ (pv 2)) jC))) jC))))) kC)
   (jE (jP (jG GM hr rfl DM.m DM.F.kp DM.b .nil jR (jA (pv 0) (jA (jV (jA (pv 3) (jA (pv 2) jC))) jC))))))), ?_⟩
  try dsimp only[cxK]
  refine⟨_,rfl,q,_,rfl,hq,rfl,_,_,rfl,_,_,rfl,rfl, ?_⟩;refine⟨_,rfl,rfl,_,rfl,vF (nA (by intro z;injection z with z;exact ho z)) ?_⟩;refine⟨_,rfl,_,_,rfl,rfl,_,rfl, ?_⟩;have gc:Int.gcd u o=1:=by rw[Int.gcd_comm];exact f2.low
  by_cases hn:o<0
  ·refine vS (nG hn) ?_;refine⟨_,rfl,_,rfl,_,rfl,_,rfl,_,rfl,uY,λz H1 n1 s1 e1=>?_⟩;refine⟨p,z,t,b,-u,-o,rfl,vE s1 hp,SqT.of e1,f1,⟨by omega,by rw[Int.neg_gcd,Int.gcd_neg];exact gc,by rw[nK];exact f2.sb,by rw[nK];exact f2.st⟩,λr H' n s e=>?_⟩;refine k r H' (s1.free n) (s1.trans s) ?_;dsimp only at e;rw[Int.mul_neg,Int.mul_neg,(AT (Int.mul_neg_of_pos_of_neg f1.pos hn)).1,(AT (Int.mul_neg_of_pos_of_neg f1.pos hn)).2]at e;exact e
  ·refine vF (nA hn) ?_;refine⟨_,rfl,_,rfl,_,rfl,uY,λz H1 n1 s1 e1=>?_⟩;refine⟨p,z,t,b,u,o,rfl,vE s1 hp,SqT.of e1,f1,⟨by omega,gc,f2.sb,f2.st⟩,λr H' n s e=>?_⟩;exact k r H' (s1.free n) (s1.trans s) e
abbrev JM(K:tX):Sp:=YJ K (λt b o u=>t*u+o*b) (λ_ b _ u=>b*u)
theorem scAddF:FnScope ["one","other","top","bottom","over","under","shared","total","left"] ["one","other"] (jL HI):=⟨rfl,rfl,rfl,by decide +kernel,rfl,by decide +kernel,by decide +kernel⟩
theorem WO{fG:Addr}{fdG:FuncData}(F:Fun K "added" "added" HI f fd)(T:Txt mg)(DG:Df K mg "greatest_divisor" OB ["one","other"] fG fdG):FnOk P w K mg base CX0 2 f fd ["one","other"] (JM K):=by
 have GG:FnOk P w K mg base CX0 1 fG fdG ["one","other"] spGcd:=KF DG.F T;refine F.ok scAddF (λvs H Q E h=>?_) (λcdv A outer s H vs Q E hr h=>?_)
 ·obtain⟨p,q,t,b,o,u,rfl,_⟩:=h
  rfl
 ·obtain⟨p,q,t,b,o,u,rfl,hp,hq,f1,f2,k⟩:=h;refine⟨_,jB (qL (pv 0) (qW rfl (jO (jI (i:=2) scAddF.nd rfl (Or.inl rfl)) (jO (jI (i:=3) scAddF.nd rfl (Or.inl rfl)) kS))))
   (jB (qL (pv 1) (qW rfl (jO (jI (i:=4) scAddF.nd rfl (Or.inl rfl)) (jO (jI (i:=5) scAddF.nd rfl (Or.inl rfl)) kS))))
   (jB (jM (i:=6) scAddF.nd rfl (Or.inl rfl) (jG GG hr rfl DG.m DG.F.kp DG.b .nil jR (jA (pv 3) (jA (pv 5) jC))))
   (jB (jM (i:=7) scAddF.nd rfl (Or.inl rfl) (jK kJ (jK qH (pv 2) (jK qO (pv 5) (pv 6))) (jK qH (pv 4) (jK qO (pv 3) (pv 6)))))
   (jB (jM (i:=8) scAddF.nd rfl (Or.inl rfl) (jG GG hr rfl DG.m DG.F.kp DG.b .nil jR (jA (pv 7) (jA (pv 6) jC))))
   (jE (jP (jV (jA (jK qO (pv 7) (pv 8)) (jA (jK qH (jK qO (pv 3) (pv 6)) (jK qO (pv 5) (pv 8))) jC))))))))), ?_⟩
  refine⟨_,rfl,p,_,rfl,hp,rfl,_,_,rfl,_,_,rfl,rfl, ?_⟩;refine⟨_,rfl,q,_,rfl,hq,rfl,_,_,rfl,_,_,rfl,rfl, ?_⟩;have s1:=LwM.qR b u f2.pos;have sA:((Int.gcd b u:Nat):Int).natAbs<2^7900:=AV f2.pos f2.sb;have sD:CDivL u (Int.gcd b u:Int):=⟨by omega,kH sA (by decide)⟩;refine⟨_,rfl,_,rfl,b,u,rfl,f2.pos,kH f2.sb (by decide), ?_⟩;refine⟨_,rfl,_,rfl,_,rfl,_,_,rfl,rfl,sD,_,_,rfl,rfl,⟨kH f1.st (by decide),kH (qT f2.sb s1) (by decide)⟩, ?_⟩;refine⟨_,rfl,_,rfl,_,rfl,_,_,rfl,rfl,sD,_,_,rfl,rfl,⟨kH f2.st (by decide),kH (qT f1.sb s1) (by decide)⟩,_,_,rfl,rfl, ?_⟩;have tA:(t*(u/(Int.gcd b u:Int))+o*(b/(Int.gcd b u:Int))).natAbs<2^15801:=YD (n:=15800) (NO (m:=7900) (n:=7900) f1.st (qT f2.sb s1)) (NO (m:=7900) (n:=7900) f2.st (qT f1.sb s1));refine⟨_,rfl,_,rfl,_,_,rfl,by omega,kH sA (by decide), ?_⟩;have m:=LwM.YC f1.pos f2.pos f1.low f2.low;have l1:=LwM.qR (t*(u/(Int.gcd b u:Int))+o*(b/(Int.gcd b u:Int))) (Int.gcd b u:Int) (by omega);have lA:((Int.gcd (t*(u/(Int.gcd b u:Int))+o*(b/(Int.gcd b u:Int))) (Int.gcd b u:Int):Nat):Int).natAbs<2^7900:=AV (by omega) sA;generalize hT:t*(u/(Int.gcd b u:Int))+o*(b/(Int.gcd b u:Int))=T at *;generalize hl:(Int.gcd T (Int.gcd b u:Int):Int)=l at *;have lD:CDivL u l:=⟨by omega,kH lA (by decide)⟩;refine⟨_,rfl,_,rfl,_,_,rfl,rfl,lD,_,rfl,_,rfl,_,_,rfl,rfl,sD,_,rfl,_,rfl,_,_,rfl,rfl,lD,_,_,rfl,rfl,⟨kH (qT f1.sb s1) (by decide),kH (qT f2.sb (by omega)) (by decide)⟩,uY,λr H' n s e=>?_⟩
  refine k r H' n s ?_;have bu:=tN f1.pos f2.pos;show H' r=_;rw[e,qV bu,vN bu];dsimp only;rw[hT,m.1,m.2]
structure FrS(t b:Int):Prop where
 pos:0<b
 low:Int.gcd t b=1
 st:t.natAbs<2^40
 sb:b.natAbs<2^14
def LO(c M:Int):Sp:=λvs H Q _=>∃(tp:Addr) (B:Int),vs=[.ref tp]/\∃cl,Tape cl H tp B/\B<M/\
 ∀(r:Addr) (t b:Int) (H':Hp),FrS t b->At2 H' r t b->r≠tp->Tape cl H' tp (B+c)->But tp H H'->(∀c o,H c=some o->c≠r)->Q (.ref r) H'
theorem low_fr{t b:Int}(hb:0<b)(ht:t.natAbs<2^40)(hs:b.natAbs<2^14):FrS (xG t b) (xH t b):=by
 have g1:=LwM.qR t b hb;have gp:0<Int.gcd t b:=by omega
 rw[qV hb,vN hb];refine⟨?_,Int.gcd_ediv_gcd_ediv_gcd gp,qT ht g1,qT hs g1⟩;exact Int.ediv_pos_of_pos_of_dvd hb (by omega) (mO ..)
theorem AI{cl:Addr}{H:Hp}{tp r:Addr}{B:Int}(T:Tape cl H tp B)(n:H r=none):r≠tp:=by
 obtain⟨ns,spot,rest,left,z,_⟩:=T;rintro rfl;rw[n]at z;cases z
theorem uQ{p:Addr}{H H':Hp}{r:Addr}(b:But p H H')(n:H' r=none)(hr:r≠p):H r=none:=by
 cases q:H r with
 | none=>rfl
 | some o=>rw[b r o q hr]at n;cases n
theorem scNumber:FnScope ["tape","way","top","great"] ["tape"] (jL AO):=⟨rfl,rfl,rfl,by decide +kernel,rfl,by decide +kernel,by decide +kernel⟩
theorem OT{fD fL:Addr}{fdD fdL:FuncData}(F:Fun K "_law_number" "_law_number" AO f fd)(T:Txt mg)(DD:Df K mg "_law_draw" BI ["tape","many"] fD fdD)(DL:Df K mg "_law_low" RB ["top","bottom"] fL fdL):FnOk P w K mg base CX0 2 f fd ["tape"] (LO 6 (2^38)):=by
 have GD:FnOk P w K mg base CX0 1 fD fdD ["tape","many"] spDraw:=MD DD.F T;have GL:FnOk P w K mg base CX0 1 fL fdL ["top","bottom"] spLow:=SH DL.F T;refine F.ok scNumber (λvs H Q E h=>?_) (λcdv A outer s H vs Q E hr h=>?_)
 ·obtain⟨tp,B,rfl,_⟩:=h
  rfl
 ·obtain⟨tp,B,rfl,cl,hT,hB,k⟩:=h;refine⟨_,jB (jM (i:=1) scNumber.nd rfl (Or.inl rfl) (jG GD hr rfl DD.m DD.F.kp DD.b .nil jR (jA (pv 0) (jA jD jC))))
   (jB (jM (i:=2) scNumber.nd rfl (Or.inl rfl) (jK zH (jG GD hr rfl DD.m DD.F.kp DD.b .nil jR (jA (pv 0) (jA jD jC))) jD))
   (jB (kU (jT zX (pv 1) jD (jY _)) (jE (jP (jV (jA (pv 2) (jA jD jC))))) kC)
   (jB (kU (jT zX (pv 1) jD (jY _)) (jE (jP (jG GL hr rfl DL.m DL.F.kp DL.b .nil jR (jA (pv 2) (jA (jK kJ jD (jG GD hr rfl DD.m DD.F.kp DD.b .nil jR (jA (pv 0) (jA jD jC)))) jC))))) kC)
   (jB (jM (i:=3) scNumber.nd rfl (Or.inl rfl) (jK wG (jG GD hr rfl DD.m DD.F.kp DD.b .nil jR (jA (pv 0) (jA (jK FH jD jD) jC))) (jK zH jD (jK wG jD (jG GD hr rfl DD.m DD.F.kp DD.b .nil jR (jA (pv 0) (jA jD jC)))))))
   (jE (jP (jG GL hr rfl DL.m DL.F.kp DL.b .nil jR (jA (pv 3) (jA (jK kJ jD (jG GD hr rfl DD.m DD.F.kp DD.b .nil jR (jA (pv 0) (jA (jK FH jD jD) jC)))) jC)))))))))
   , ?_⟩
  refine⟨_,rfl,tp,24,B,rfl,_,hT,by omega,by decide,by decide,λway H1 w0 w1 T1 b1=>?_⟩;refine⟨_,rfl,tp,13,_,rfl,_,T1,by omega,by decide,by decide,λtop H2 t0 t1 T2 b2=>⟨_,_,rfl,rfl, ?_⟩⟩;have p10:∀n:Int,0<=n->n<=1000000->CPow 10 n:=λn h0 h1=>⟨h0,h1,by decide⟩;have tell:∀(t b B':Int) (H3:Hp),0<b->t.natAbs<2^40->b.natAbs<2^14->Tape cl H3 tp B'->B'<=B+6->But tp H H3->spLow [.int t,.int b] H3 Q E0:=by
   intro t b B' H3 hb ht hs T3 hB' b3;refine⟨t,b,rfl,by omega,.inl (kH hs (by decide)),λp H4 n4 s4 e4=>?_⟩;refine k p _ _ H4 (low_fr hb ht hs) e4 (AI T3 n4) (T3.mono s4 (by omega)) (b3.trans (But.of s4)) (λc o hc hp=>?_);subst hp;have:=uQ b3 n4 (AI T3 n4);rw[hc]at this;cases this
  refine⟨_,rfl,_,_,rfl,rfl,_,rfl, ?_⟩;refine AG (λ_=>?_) (λ_=>?_)
  ·refine⟨_,rfl,uY,λp H3 n3 s3 e3=>?_⟩;refine k p (top-6) 1 H3 ⟨by decide,by simp,by omega,by decide⟩ e3 (AI T2 n3) (T2.mono s3 (by omega)) ((b1.trans b2).trans (But.of s3)) (λc o hc hp=>?_);subst hp;have:=uQ (b1.trans b2) n3 (AI T2 n3);rw[hc]at this;cases this
  ·refine⟨_,rfl,_,_,rfl,rfl,_,rfl, ?_⟩;refine AG (λ_=>?_) (λ_=>?_)
   ·refine⟨_,rfl,_,rfl,tp,7,_,rfl,_,T2,by omega,by decide,by decide,λc H3 c0 c1 T3 b3=>⟨_,_,rfl,rfl, ?_⟩⟩;exact tell _ _ _ H3 (by omega) (by omega) (by omega) T3 (by omega) ((b1.trans b2).trans b3)
   ·refine⟨_,rfl,_,_,rfl,rfl,p10 12 (by decide) (by decide),tp,_,_,rfl,_,T2,by omega,by decide,by decide,λg H3 g0 g1 T3 b3=>?_⟩;refine⟨_,rfl,tp,2,_,rfl,_,T3,by omega,by decide,by decide,λr H4 r0 r1 T4 b4=>?_⟩;refine⟨_,_,rfl,rfl,.inl ⟨by decide,by decide⟩,_,_,rfl,rfl,_,_,rfl,rfl,.inr ⟨by omega,by omega⟩, ?_⟩;refine⟨_,rfl,_,rfl,_,_,rfl,rfl,p10 4 (by decide) (by decide),tp,_,_,rfl,_,T4,by omega,by decide,by decide,λc H5 c0 c1 T5 b5=>⟨_,_,rfl,rfl, ?_⟩⟩;have e12:(10:Int)^(12:Int).toNat=1000000000000:=by decide +kernel
    have e4:(10:Int)^(4:Int).toNat=10000:=by decide +kernel
    rw[e12]at g1;rw[e4]at c1;have hr2:r=0∨r=1:=by omega
    refine tell _ _ _ H5 (by omega) ?_ (by omega) T5 (by omega) ((((b1.trans b2).trans b3).trans b4).trans b5);rcases hr2 with rfl | rfl
    ·simp only[Int.mul_zero,Int.sub_zero,Int.mul_one];omega
    ·rw[show(1:Int)-2*1 = -1 by decide,Int.mul_neg,Int.mul_one,nK];omega
open LwQ
def spPlus:Sp:=λvs H Q _=>∃(p q:Addr) (t b o u:Int),vs=[.ref p,.ref q]/\At2 H p t b/\At2 H q o u/\0<b/\0<u/\t.natAbs<2^50000/\b.natAbs<2^50000/\o.natAbs<2^50000/\u.natAbs<2^8000/\
 ∀(r:Addr) (t' b':Int) (H':Hp),H r=none->Same H H'->At2 H' r t' b'->0<b'->b'.natAbs<=b.natAbs*u.natAbs->t'*(b*u)=(t*u+o*b)*b'->Q (.ref r) H'
theorem MH{b u:Int}(h:decide (V.int (b%u)=V.int 0)=true):b=u*(b/u):=by
 have e:b%u=0:=by
  have:=mL h;injection this
 have:=Int.mul_ediv_add_emod b u;omega
theorem scPlus:FnScope ["one","other","top"] ["one","other"] (jL LR):=⟨rfl,rfl,rfl,by decide +kernel,rfl,by decide +kernel,by decide +kernel⟩
theorem MC(F:Fun K "_law_plus" "_law_plus" LR f fd):FnOk P w K mg base CX0 1 f fd ["one","other"] spPlus:=by
 refine F.ok scPlus (λvs H Q E h=>?_) (λcdv A outer s H vs Q E hr h=>?_)
 ·obtain⟨p,q,t,b,o,u,rfl,_⟩:=h
  rfl
 ·obtain⟨p,q,t,b,o,u,rfl,hp,hq,hb,hu,st,sb,so,su,k⟩:=h;refine⟨_,jB (kU (jT xX (jK xF (jQ kI (pv 0) jD (λ_ _=>rfl)) (jQ kI (pv 1) jD (λ_ _=>rfl))) jD (jY _))
    (jE (jP (jV (jA (jK kJ (jQ kI (pv 0) jD (λ_ _=>rfl)) (jK qH (jQ kI (pv 1) jD (λ_ _=>rfl)) (jK qO (jQ kI (pv 0) jD (λ_ _=>rfl)) (jQ kI (pv 1) jD (λ_ _=>rfl))))) (jA (jQ kI (pv 0) jD (λ_ _=>rfl)) jC))))) kC)
   (jB (kU (jT xX (jK xF (jQ kI (pv 1) jD (λ_ _=>rfl)) (jQ kI (pv 0) jD (λ_ _=>rfl))) jD (jY _))
    (jE (jP (jV (jA (jK kJ (jQ kI (pv 1) jD (λ_ _=>rfl)) (jK qH (jQ kI (pv 0) jD (λ_ _=>rfl)) (jK qO (jQ kI (pv 1) jD (λ_ _=>rfl)) (jQ kI (pv 0) jD (λ_ _=>rfl))))) (jA (jQ kI (pv 1) jD (λ_ _=>rfl)) jC))))) kC)
   (jB (jM (i:=2) scPlus.nd rfl (Or.inl rfl) (jK kJ (jK qH (jQ kI (pv 0) jD (λ_ _=>rfl)) (jQ kI (pv 1) jD (λ_ _=>rfl))) (jK qH (jQ kI (pv 1) jD (λ_ _=>rfl)) (jQ kI (pv 0) jD (λ_ _=>rfl)))))
   (jE (jP (jV (jA (pv 2) (jA (jK qH (jQ kI (pv 0) jD (λ_ _=>rfl)) (jQ kI (pv 1) jD (λ_ _=>rfl))) jC))))))), ?_⟩
  have P:=SqT.of (K:=K) hp;have R:=SqT.of (K:=K) hq;have d1:(b/u).natAbs<2^100000:=kH (qT sb hu) (by decide);have d2:(u/b).natAbs<2^100000:=kH (qT su hb) (by decide);have st':t.natAbs<2^100000:=kH st (by decide);have sb':b.natAbs<2^100000:=kH sb (by decide);have so':o.natAbs<2^100000:=kH so (by decide);have su':u.natAbs<2^100000:=kH su (by decide);have lb:b.natAbs<=b.natAbs*u.natAbs:=Nat.le_mul_of_pos_right _ (by omega);have lu:u.natAbs<=b.natAbs*u.natAbs:=Nat.le_mul_of_pos_left _ (by omega);refine⟨_,rfl,p,_,_,_,rfl,rfl,P,rfl,_,rfl,q,_,_,_,rfl,rfl,R,rfl,_,_,rfl,rfl,hu,rfl,_,rfl, ?_⟩;refine AG (λe=>?_) (λ_=>?_)
  ·refine⟨_,rfl,p,_,_,_,rfl,rfl,P,rfl,_,rfl,q,_,_,_,rfl,rfl,R,rfl,_,rfl,p,_,_,_,rfl,rfl,P,rfl,_,rfl,q,_,_,_,rfl,rfl,R,rfl,_,_,rfl,rfl,⟨hu,su⟩,_,_,rfl,rfl,⟨so',d1⟩,_,_,rfl,rfl,_,rfl,p,_,_,_,rfl,rfl,P,rfl,uY,λr H1 n1 s1 e1=>?_⟩;refine k r _ _ H1 n1 s1 e1 hb lb ?_;have m:=MH e;generalize b/u=x at m;subst m
   grind
  refine⟨_,rfl,q,_,_,_,rfl,rfl,R,rfl,_,rfl,p,_,_,_,rfl,rfl,P,rfl,_,_,rfl,rfl,hb,rfl,_,rfl, ?_⟩;refine AG (λe=>?_) (λ_=>?_)
  ·have m:=MH e;have bu:b.natAbs<2^8000:=by
    have:b∣u:=⟨_,m⟩;have:=Int.le_of_dvd hu this;exact hU (by omega) su
   refine⟨_,rfl,q,_,_,_,rfl,rfl,R,rfl,_,rfl,p,_,_,_,rfl,rfl,P,rfl,_,rfl,q,_,_,_,rfl,rfl,R,rfl,_,rfl,p,_,_,_,rfl,rfl,P,rfl,_,_,rfl,rfl,⟨hb,bu⟩,_,_,rfl,rfl,⟨st',d2⟩,_,_,rfl,rfl,_,rfl,q,_,_,_,rfl,rfl,R,rfl,uY,λr H1 n1 s1 e1=>?_⟩;refine k r _ _ H1 n1 s1 e1 hu lu ?_;generalize u/b=x at m;subst m
   grind
  ·refine⟨_,rfl,p,_,_,_,rfl,rfl,P,rfl,_,rfl,q,_,_,_,rfl,rfl,R,rfl,_,_,rfl,rfl,⟨st',su'⟩,_,rfl,q,_,_,_,rfl,rfl,R,rfl,_,rfl,p,_,_,_,rfl,rfl,P,rfl,_,_,rfl,rfl,⟨so',sb'⟩,_,_,rfl,rfl, ?_⟩;refine⟨_,rfl,_,rfl,p,_,_,_,rfl,rfl,P,rfl,_,rfl,q,_,_,_,rfl,rfl,R,rfl,_,_,rfl,rfl,⟨sb',su'⟩,uY,λr H1 n1 s1 e1=>?_⟩;exact k r _ _ H1 n1 s1 e1 (tN hb hu) (Nat.le_of_eq (nH _ _)) rfl
open LwV
structure Kp(H H':Hp):Prop where
 tup:∀a xs,H a=some (.tup xs)->H' a=some (.tup xs)
 frz:∀a o x,H a=some (.frz o x)->H' a=some (.frz o x)
theorem Kp.of{H H':Hp}(s:Same H H'):Kp H H':=⟨λ_ _ e=>s _ _ e,λ_ _ _ e=>s _ _ e⟩
theorem Kp.trans{A B C:Hp}(h:Kp A B)(k:Kp B C):Kp A C:=⟨λ_ _ e=>k.tup _ _ (h.tup _ _ e),λ_ _ _ e=>k.frz _ _ _ (h.frz _ _ _ e)⟩
def Soft:HO->Prop
 | .tup _=>False
 | .frz _ _=>False
 | _=>True
theorem Kp.but{p:Addr}{H H':Hp}{x:HO}(b:But p H H')(e:H p=some x)(s:Soft x):Kp H H':=
 ⟨λa xs h=>b _ _ h λz=>by rw[z,e]at h;cases h;exact s,λa o y h=>b _ _ h λz=>by rw[z,e]at h;cases h;exact s⟩
theorem Kp.butT{cl tp:Addr}{H H':Hp}{B:Int}(b:But tp H H')(T:Tape cl H tp B):Kp H H':=by
 obtain⟨ns,spot,rest,left,z,_⟩:=T;exact Kp.but b z trivial
theorem Kp.upd{p:Addr}{H:Hp}{x y:HO}(e:H p=some x)(s:Soft x):Kp H (upd H p y):=Kp.but (p:=p) (λc o h n=>by rw[jH n];exact h) e s
theorem Kp.sqT{K:tX}{H H':Hp}{a:Addr}{xs:List V}(k:Kp H H')(h:SqT K H a xs):SqT K H' a xs:=by
 rcases h with(h | ⟨o,h⟩) | h
 ·exact .inl (.inl (k.tup _ _ h))
 ·exact .inl (.inr ⟨o,k.frz _ _ _ h⟩)
 ·exact .inr h
structure Ent where
 ns:List Int
 c:Addr
 t:Int
 b:Int
 k:Nat
def Ent.kv(e:Ent):List Key×V:=(LwD.ik e.ns,.ref e.c)
def Ent.pr(e:Ent):List Int×Rat:=(e.ns,(e.t:Rat)/(e.b:Rat))
def pl(E:List Ent):Pl:=E.map Ent.pr
structure Sz where
 D:Nat
 v:Nat
 S:Nat
 n:Nat
structure EntOk(H:Hp)(aa D v:Nat)(e:Ent):Prop where
 len:e.ns.length=aa
 nn:∀n∈e.ns,0<=n
 deg:e.ns.sum<=D
 at':At2 H e.c e.t e.b
 pos:0<e.b
 nz:e.t≠0
 sb:e.b.natAbs<=2^e.k
 st:e.t.natAbs<=2^v*e.b.natAbs
theorem EntOk.kp{H H':Hp}{aa D v:Nat}{e:Ent}(h:EntOk H aa D v e)(k:Kp H H'):EntOk H' aa D v e:=⟨h.len,h.nn,h.deg,k.tup _ _ h.at',h.pos,h.nz,h.sb,h.st⟩
theorem EntOk.up{H:Hp}{aa D v v':Nat}{e:Ent}(h:EntOk H aa D v e)(k:v<=v'):EntOk H aa D v' e:=⟨h.len,h.nn,h.deg,h.at',h.pos,h.nz,h.sb,nY h.st (gX _ (gU (by decide) k))⟩
structure DB(H:Hp)(aa:Nat)(z:Sz)(E:List Ent):Prop where
 nd:(E.map Ent.ns).Nodup
 each:∀e∈E,EntOk H aa z.D z.v e
 sum:(E.map Ent.k).sum<=z.S
 few:E.length<=z.n
theorem DB.kp{H H':Hp}{aa:Nat}{z:Sz}{E:List Ent}(h:DB H aa z E)(k:Kp H H'):DB H' aa z E:=⟨h.nd,λe he=>(h.each e he).kp k,h.sum,h.few⟩
theorem DB.up{H:Hp}{aa:Nat}{z z':Sz}{E:List Ent}(h:DB H aa z E)(hD:z.D<=z'.D)(hv:z.v<=z'.v)(hS:z.S<=z'.S)(hn:z.n<=z'.n):DB H aa z' E:=⟨h.nd,λe he=>by
 have k:=(h.each e he).up hv;exact⟨k.len,k.nn,by have:=k.deg;omega,k.at',k.pos,k.nz,k.sb,k.st⟩,nY h.sum hS,nY h.few hn⟩
theorem KH:∀{l:List Nat} {n:Nat},n∈l->n<=l.sum
 | a::r,n,h=>by
  rw[nU];rcases nP.mp h with rfl | h
  ·exact Nat.le_add_right ..
  ·exact nY (KH h) (Nat.le_add_left ..)
theorem DB.k{H:Hp}{aa:Nat}{z:Sz}{E:List Ent}(h:DB H aa z E){e:Ent}(he:e∈E):e.k<=z.S:=nY (KH (List.mem_map_of_mem he)) h.sum
theorem KP{ns ms:List Int}(h:LwD.ik ns=LwD.ik ms):ns=ms:=by
 have:=congrArg (List.map kV) h;rw[LwD.wK,LwD.wK]at this;exact(List.map_inj_right (f:=V.int) (λa b e=>by injection e)).mp this
section
variable{k:List Key}{v v0:V}{L R l:List (List Key×V)}
theorem VF(h:∀p∈l,p.1≠k):xC l k=none:=by
 unfold xC;rw[List.find?_eq_none.mpr λp hp=>by simp [h p hp]]
 rfl
theorem LB(h:∀p∈L,p.1≠k):xC (L++(k,v)::R) k=some v:=by
 unfold xC;rw[List.find?_append,List.find?_eq_none.mpr λp hp=>by simp [h p hp]];simp
theorem FC(h:∀p∈l,p.1≠k):yV l k v=l++[(k,v)]:=by
 unfold yV;rw[tV];intro z;obtain⟨p,hp,e⟩:=List.any_eq_true.mp z;exact h p hp (mL e)
theorem MI(h:∀p∈l,p.1≠k):l.map (λkv=>if kv.1=k then(kv.1,v)else kv)=l:=by
 conv=>rhs;rw[<-List.map_id l]
 exact List.map_congr_left λp hp=>by rw[tV (h p hp)];rfl
theorem VT(h1:∀p∈L,p.1≠k)(h2:∀p∈R,p.1≠k):yV (L++(k,v0)::R) k v=L++(k,v)::R:=by
 unfold yV;rw[tW (by simp),mZ,nO,MI h1,MI h2];simp
theorem UJ(h1:∀p∈L,p.1≠k)(h2:∀p∈R,p.1≠k):AA (L++(k,v0)::R) k=L++R:=by
 unfold AA;rw[List.filter_append,mX,List.filter_eq_self.mpr (λp hp=>nG (h1 p hp)),List.filter_eq_self.mpr (λp hp=>nG (h2 p hp))];simp
end
theorem yO{E:List Ent}{ns:List Int}(h:ns∉E.map Ent.ns):∀p∈E.map Ent.kv,p.1≠LwD.ik ns:=by
 intro p hp z;obtain⟨e,he,rfl⟩:=tD.mp hp;exact h (tD.mpr ⟨e,he,KP z⟩)
theorem PL{t b o u t' b':Int}(hb:0<b)(hu:0<u)(hb':0<b')(h:t'*(b*u)=(t*u+o*b)*b'):(t':Rat)/(b':Rat)=(t:Rat)/(b:Rat)+(o:Rat)/(u:Rat):=by
 have h1:(b:Rat)≠0:=by simpa using (show b≠0 by omega)
 have h2:(u:Rat)≠0:=by simpa using (show u≠0 by omega)
 have h3:(b':Rat)≠0:=by simpa using (show b'≠0 by omega)
 have e:(t':Rat)*(b*u)=(t*u+o*b)*b':=by exact_mod_cast h
 grind
theorem OI{t b o u t' b':Int}{v:Nat}(hb:0<b)(hu:0<u)(h:t'*(b*u)=(t*u+o*b)*b')(h1:t.natAbs<=2^v*b.natAbs)(h2:o.natAbs<=2^v*u.natAbs):t'.natAbs<=2^(v+1)*b'.natAbs:=by
 have:=JV hb hu h h1 h2;rw[Nat.pow_succ,Nat.mul_two];exact this
def KB(B:List Int->Nat)(E:List Ent):Prop:=∀e∈E,e.k<=B e.ns
theorem DB.kb{H:Hp}{aa:Nat}{z:Sz}{E:List Ent}(h:DB H aa z E):KB (λ_=>z.S) E:=λ_ he=>h.k he
theorem KB.up{B B':List Int->Nat}{E:List Ent}(h:KB B E)(k:∀m,B m<=B' m):KB B' E:=λe he=>nY (h e he) (k _)
def spPut:Sp:=λvs H Q _=>∃(d b q:Addr) (ns:List Int) (o u:Int) (aa j:Nat) (z:Sz) (E:List Ent) (B:List Int->Nat),vs=[.ref d,.ref b,.ref q]/\H d=some (.dT (E.map Ent.kv))/\DB H aa z E/\KB B E/\B ns<=40000/\j<=7900/\z.v<=4000/\z.n<=1000/\H b=some (.tup (ns.map V.int))/\ns.length=aa/\(∀n∈ns,0<=n)/\ns.sum<=z.D/\
 At2 H q o u/\0<u/\u.natAbs<=2^j/\o.natAbs<=2^z.v*u.natAbs/\∀(E':List Ent) (H':Hp),But d H H'->H' d=some (.dT (E'.map Ent.kv))->DB H' aa ⟨z.D,z.v+1,z.S+j,z.n+1⟩ E'->KB (λm=>B m+if m=ns then j else 0) E'->
  (∀m,cf (pl E') m=cf (pl E) m+if ns=m then(o:Rat)/(u:Rat)else 0)->Q .non H'
theorem LD{t b:Int}{v S:Nat}(ht:t.natAbs<=2^v*b.natAbs)(hb:b.natAbs<=2^S)(h:v+S<50000):t.natAbs<2^50000:=by
 have h1:=nY ht (Nat.mul_le_mul_left _ hb);rw[<-tP]at h1;exact hU h1 (gW (by decide) (by omega))
theorem FZ{b:Int}{S n:Nat}(hb:b.natAbs<=2^S)(h:S<n):b.natAbs<2^n:=hU hb (gW (by decide) h)
theorem scPut:FnScope ["found","powers","number","some"] ["found","powers","number"] (jL VN):=⟨rfl,rfl,rfl,by decide +kernel,rfl,by decide +kernel,by decide +kernel⟩
theorem ok_put{fP:Addr}{fdP:FuncData}(F:Fun K "_law_put" "_law_put" VN f fd)(DP:Df K mg "_law_plus" LR ["one","other"] fP fdP):FnOk P w K mg base CX0 2 f fd ["found","powers","number"] spPut:=by
 have GP:FnOk P w K mg base CX0 1 fP fdP ["one","other"] spPlus:=MC DP.F;refine F.ok scPut (λvs H Q E h=>?_) (λcdv A outer s H vs Q E hr h=>?_)
 ·obtain⟨d,b,q,ns,o,u,aa,j,z,E',B,rfl,_⟩:=h
  rfl
 ·obtain⟨d,b,q,ns,o,u,aa,j,z,EE,BB,rfl,hd,hD,kB,hS,hj,hv,hn,hb,hl,hns,hsum,hq,pu,su,so,go⟩:=h;have hu:_+1<cLine:=hU (Nat.add_le_add_left (by decide:1<=64) _) hr.units;refine⟨_,jB (jM (i:=3) scPut.nd rfl (Or.inl rfl) (jG GP hr rfl DP.m DP.F.kp DP.b .nil jR (jA (RU hu (pv 0) (pv 1) (jV (jA jD (jA jD jC))) ⟨rfl,rfl,rfl,rfl⟩) (jA (pv 2) jC))))
   (jE (kU (jT HR (jQ kI (pv 3) jD (λ_ _=>rfl)) jD (jY _)) (jE (FD hu (pv 0) (pv 1) (pv 3) rfl))
    (jE (kU (wF (ZR hu (pv 1) (pv 0))) (jE (xM (LwD.RT hu (pv 0) (pv 1) ⟨rfl,rfl,rfl,rfl⟩))) kC)))), ?_⟩
  have hb':H b=some (.tup ((LwD.ik ns).map kV)):=by rw[LwD.wK];exact hb
  have few:=hD.few;have kz:(EE.map Ent.kv).length<sizeLine:=by rw[mY];exact hU (nY few hn) (by decide)
  refine⟨_,rfl,d,rfl,.inr ⟨_,.inl hd⟩,_,rfl,uY,λz1 H1 n1 s1 e1=>⟨xC (EE.map Ent.kv) (LwD.ik ns),DGet.t (s1 _ _ hd) (s1 _ _ hb'),_,rfl, ?_⟩⟩;have uf:u.natAbs<2^8000:=FZ su (by omega);have of:o.natAbs<2^50000:=LD so su (by omega);have fin:∀(t b0 t' b':Int) (r:Addr) (H2:Hp),Same H H2->At2 H2 r t' b'->H1 r=none->0<b'->0<b0->t'*(b0*u)=(t*u+o*b0)*b'->t.natAbs<=2^z.v*b0.natAbs->
    (t':Rat)/(b':Rat)=(t:Rat)/(b0:Rat)+(o:Rat)/(u:Rat)/\t'.natAbs<=2^(z.v+1)*b'.natAbs/\r≠d:=λt b0 t' b' r H2 s2 e2 n2 pb pb0 eq ht=>
   ⟨PL pb0 pu pb eq,OI pb0 pu eq ht so,λzz=>by rw[zz,s1 _ _ hd]at n2;cases n2⟩
  by_cases hin:ns∈EE.map Ent.ns
  ·obtain⟨e,he,en⟩:=tD.mp hin;obtain⟨L,R,eE⟩:=List.append_of_mem he;have hE:=hD.each e he;have nd:=hD.nd;rw[eE,mZ,nO]at nd;have nL:ns∉L.map Ent.ns:=λy=>by
    rw[<-en]at y;exact(mN.mp nd).2.2 _ y _ (mF ..) rfl
   have nR:ns∉R.map Ent.ns:=λy=>by
    rw[<-en]at y;exact(List.nodup_cons.mp (mN.mp nd).2.1).1 y
   have km:EE.map Ent.kv=L.map Ent.kv++(LwD.ik ns,V.ref e.c)::R.map Ent.kv:=by
    rw[eE,mZ,nO,<-en]
    rfl
   have ev:xC (EE.map Ent.kv) (LwD.ik ns)=some (.ref e.c):=by rw[km];exact LB (yO nL)
   rw[ev];have ke:e.k<=BB ns:=en▸kB e he;have ks:(L.map Ent.k).sum+(e.k+(R.map Ent.k).sum)<=z.S:=by
    have:=hD.sum
    rwa [eE,mZ,nO,List.sum_append,nU]at this
   have kf:L.length+(R.length+1)<=z.n:=by
    have:=few
    rwa [eE,hV,mT]at this
   refine⟨e.c,q,e.t,e.b,o,u,rfl,s1 _ _ hE.at',s1 _ _ hq,hE.pos,pu,LD hE.st hE.sb (by omega),FZ hE.sb (by omega),of,uf,λr t' b' H2 n2 s2 e2 pb lb eq=>?_⟩;have s12:Same H H2:=s1.trans s2;obtain⟨ex,rt,rd⟩:=fin e.t e.b t' b' r H2 s12 e2 n2 pb hE.pos eq hE.st;have hd2:H2 d=some (.dT (EE.map Ent.kv)):=s12 _ _ hd;have hb2:H2 b=some (.tup ((LwD.ik ns).map kV)):=s12 _ _ hb';have bd:∀o,But d H (upd H2 d o):=λo x y hx hn=>by
    rw[jH hn];exact s12 _ _ hx
   have tu:∀o:HO,Kp H (upd H2 d o):=λo=>(Kp.of s12).trans (Kp.upd hd2 trivial);have cE:∀m,cf (pl EE) m=(if ns=m then(e.t:Rat)/(e.b:Rat)else 0)+(cf (pl L) m+cf (pl R) m):=λm=>by
    rw[eE,pl,mZ,nO,CC,zT];show cf (pl L) m+((if e.ns=m then(e.t:Rat)/(e.b:Rat)else 0)+cf (pl R) m)=_;rw[en]
    grind
   refine⟨_,rfl,r,_,_,_,rfl,rfl,SqT.of e2,rfl,rfl,_,rfl, ?_⟩;refine AG (λnz=>?_) (λnz=>?_)
   ·refine⟨_,rfl,_,rfl,_,rfl,d,_,rfl,DPut.t (k:=LwD.ik ns) hd2 hb2 kz, ?_⟩;have tz:t'≠0:=λy=>by rw[y]at nz;simp at nz
    refine go (L++⟨ns,r,t',b',e.k+j⟩::R) _ (bd _) ?_ ⟨?_,λx hx=>?_, ?_, ?_⟩ (λx hx=>?_) λm=>?_
    ·rw[jF,km,VT (yO nL) (yO nR),mZ,nO]
     rfl
    ·rw[mZ,nO];rw[en]at nd;exact nd
    ·rcases nB.mp hx with hx | hx
     ·exact((hD.each x (by rw[eE];exact List.mem_append_left _ hx)).kp (tu _)).up (Nat.le_succ _)
     ·rcases nP.mp hx with rfl | hx
      ·refine⟨hl,hns,hsum,by show At2 _ r t' b';rw[At2,jH rd];exact e2,pb,tz, ?_,rt⟩;refine nY lb ?_;rw[tP];exact nJ hE.sb su
      ·exact((hD.each x (by rw[eE];exact gN _ (gT _ hx))).kp (tu _)).up (Nat.le_succ _)
    ·rw[mZ,nO,List.sum_append,nU];show(L.map Ent.k).sum+(e.k+j+(R.map Ent.k).sum)<=z.S+j;omega
    ·rw[hV,mT];show L.length+(R.length+1)<=z.n+1;omega
    ·rcases nB.mp hx with hx | hx
     ·exact nY (kB x (by rw[eE];exact List.mem_append_left _ hx)) (Nat.le_add_right ..)
     ·rcases nP.mp hx with rfl | hx
      ·show e.k+j<=BB ns+if ns=ns then j else 0
       rw[tW rfl];omega
      ·exact nY (kB x (by rw[eE];exact gN _ (gT _ hx))) (Nat.le_add_right ..)
    ·rw[cE,pl,mZ,nO,CC,zT];show cf (pl L) m+((if ns=m then(t':Rat)/(b':Rat)else 0)+cf (pl R) m)=_;rw[ex];split<;>grind
   ·refine⟨_,rfl,_,rfl,d,_,rfl,DGet.t (k:=LwD.ik ns) hd2 hb2,_,rfl, ?_⟩;rw[ev];refine FP ⟨_,rfl,d,rfl,.inr ⟨_,.inl hd2⟩,_,rfl,_,LwD.ik ns,_,b,hd2,rfl,hb2,ev, ?_⟩;have tz:t'=0:=by
     by_cases y:t'=0
     ·exact y
     ·exact absurd (by simp [y]) nz
    refine go (L++R) _ (bd _) ?_ ⟨?_,λx hx=>?_, ?_, ?_⟩ (λx hx=>nY (kB x ?_) (Nat.le_add_right ..)) λm=>?_
    ·rw[jF,km,UJ (yO nL) (yO nR),mZ]
    ·rw[mZ];rw[mN]at nd ⊢;exact⟨nd.1,(List.nodup_cons.mp nd.2.1).2,λa ha b hb=>nd.2.2 a ha b (gT _ hb)⟩
    ·refine((hD.each x ?_).kp (tu _)).up (Nat.le_succ _);rw[eE];rcases nB.mp hx with hx | hx
     ·exact List.mem_append_left _ hx
     ·exact gN _ (gT _ hx)
    ·rw[mZ,List.sum_append];show _<=z.S+j;omega
    ·rw[hV];show _<=z.n+1;omega
    ·rw[eE];rcases nB.mp hx with hx | hx
     ·exact List.mem_append_left _ hx
     ·exact gN _ (gT _ hx)
    ·rw[cE,pl,mZ,CC];show cf (pl L) m+cf (pl R) m=_;rw[tz]at ex;have:(e.t:Rat)/(e.b:Rat)+(o:Rat)/(u:Rat)=0:=by rw[<-ex];show((0:Int):Rat)/_=0;grind
     split<;>grind
  ·have ev:xC (EE.map Ent.kv) (LwD.ik ns)=none:=VF (yO hin);rw[ev];refine⟨z1,q,0,1,o,u,rfl,e1,s1 _ _ hq,by decide,pu,by show 0<_;exact Nat.pow_pos (by decide),by show 1<_;exact Nat.one_lt_pow (by decide) (by decide),of,uf,λr t' b' H2 n2 s2 e2 pb lb eq=>?_⟩;have s12:Same H H2:=s1.trans s2;obtain⟨ex,rt,rd⟩:=fin 0 1 t' b' r H2 s12 e2 n2 pb (by decide) eq (tM _);have hd2:H2 d=some (.dT (EE.map Ent.kv)):=s12 _ _ hd;have hb2:H2 b=some (.tup ((LwD.ik ns).map kV)):=s12 _ _ hb';have bd:∀o,But d H (upd H2 d o):=λo x y hx hn=>by
    rw[jH hn];exact s12 _ _ hx
   have tu:∀o:HO,Kp H (upd H2 d o):=λo=>(Kp.of s12).trans (Kp.upd hd2 trivial);have ex':(t':Rat)/(b':Rat)=(o:Rat)/(u:Rat):=by rw[ex];show((0:Int):Rat)/_+_=_;grind
   refine⟨_,rfl,r,_,_,_,rfl,rfl,SqT.of e2,rfl,rfl,_,rfl, ?_⟩;refine AG (λnz=>?_) (λnz=>?_)
   ·refine⟨_,rfl,_,rfl,_,rfl,d,_,rfl,DPut.t (k:=LwD.ik ns) hd2 hb2 kz, ?_⟩;have tz:t'≠0:=λy=>by rw[y]at nz;simp at nz
    refine go (EE++[⟨ns,r,t',b',j⟩]) _ (bd _) ?_ ⟨?_,λx hx=>?_, ?_, ?_⟩ (λx hx=>?_) λm=>?_
    ·rw[jF,FC (yO hin),mZ]
     rfl
    ·rw[mZ,mN];refine⟨hD.nd,by simp,λa ha b hb=>?_⟩;have:b=ns:=by simpa using hb
     rintro rfl;rw[this]at ha;exact hin ha
    ·rcases nB.mp hx with hx | hx
     ·exact((hD.each x hx).kp (tu _)).up (Nat.le_succ _)
     ·rw[mC]at hx;subst hx;refine⟨hl,hns,hsum,by show At2 _ r t' b';rw[At2,jH rd];exact e2,pb,tz, ?_,rt⟩;refine nY lb ?_;rw[Int.natAbs_one,Nat.one_mul];exact su
    ·rw[mZ,List.sum_append];have:=hD.sum;show(EE.map Ent.k).sum+(j+0)<=z.S+j;omega
    ·rw[hV];show EE.length+1<=z.n+1;omega
    ·rcases nB.mp hx with hx | hx
     ·exact nY (kB x hx) (Nat.le_add_right ..)
     ·rw[mC]at hx;subst hx;show j<=BB ns+if ns=ns then j else 0
      rw[tW rfl];omega
    ·rw[pl,mZ,CC];show cf (pl EE) m+((if ns=m then(t':Rat)/(b':Rat)else 0)+0)=_;rw[ex'];split<;>grind
   ·refine⟨_,rfl,_,rfl,d,_,rfl,DGet.t (k:=LwD.ik ns) hd2 hb2,_,rfl, ?_⟩;rw[ev];have tz:t'=0:=by
     by_cases y:t'=0
     ·exact y
     ·exact absurd (by simp [y]) nz
    have o0:(o:Rat)/(u:Rat)=0:=by rw[<-ex',tz];show((0:Int):Rat)/_=0;grind
    refine AF ?_;refine go EE H2 (But.of s12) hd2 ((hD.kp (Kp.of s12)).up uV (Nat.le_succ _) (Nat.le_add_right ..) (Nat.le_succ _)) (kB.up λm=>Nat.le_add_right ..) λm=>?_;rw[o0];split<;>grind
theorem YX{E:List Ent}(nd:(E.map Ent.ns).Nodup){e:Ent}(he:e∈E):xC (E.map Ent.kv) (LwD.ik e.ns)=some (.ref e.c):=by
 obtain⟨L,R,rfl⟩:=List.append_of_mem he;rw[mZ,nO]at nd ⊢;refine LB (yO λy=>?_);exact(mN.mp nd).2.2 _ y _ (mF ..) rfl
theorem ZH{H:Hp}{d b:Addr}{E:List Ent}(h:Rd H d (.dT (E.map Ent.kv)))(nd:(E.map Ent.ns).Nodup){e:Ent}(he:e∈E)(hb:H b=some (.tup (e.ns.map V.int))):DGet H d (.ref b) (some (.ref e.c)):=
 .inr ⟨_,LwD.ik e.ns,b,h,rfl,by rw[LwD.wK];exact hb,(YX nd he).symm⟩
theorem DB.keyS{H:Hp}{aa:Nat}{z:Sz}{E:List Ent}(h:DB H aa z E)(hD:z.D<=8):∀p∈E.map Ent.kv,LwD.KeyS aa p.1:=λp hp=>by
 obtain⟨e,he,rfl⟩:=tD.mp hp;have k:=h.each e he;exact⟨e.ns,rfl,k.len,k.nn,by have:=k.deg;omega⟩
theorem kQ{H H':Hp}{l:Addr}{o:HO}(s:Same H H')(n:H l=none):Same H (upd H' l o):=λc u h=>by
 rw[jH (jX h n)];exact s c u h
structure CmI(F:Nat->List V)(q:Addr)(H1:Hp)(i:Nat)(ys:List V)(H2:Hp):Prop where
 s:Same H1 H2
 e:H2 q=some (.lst ys)
 y:ys=F i
theorem vR(a b:Int):decide (V.int a=V.int b)=decide (a=b):=by
 by_cases h:a=b
 ·rw[h];simp
 ·rw[nA h,nA];intro z;injection z with z
  exact h z
theorem XJ{t b o u:Int}(hb:0<b)(hu:0<u):t*u=o*b↔(t:Rat)/(b:Rat)=(o:Rat)/(u:Rat):=by
 have h1:(b:Rat)≠0:=by simpa using (show b≠0 by omega)
 have h2:(u:Rat)≠0:=by simpa using (show u≠0 by omega)
 constructor
 ·intro h;have e:(t:Rat)*u=o*b:=by exact_mod_cast h
  grind
 ·intro h;have e:(t:Rat)*u=o*b:=by grind
  exact_mod_cast e
section
variable{X:Cx}
def rTupZ(K:tX):List V->Hp->VK->Prop:=λxs H Q=>∃p ys,xs=[.ref p]/\SqL K H p ys/\∀(l:Addr) (o:Obj),H l=none->o.dict=none->Q (.ref l) (upd H l (.frz o (.tup ys)))
theorem IW:CallR X (.type "tuple") (rTupZ X.K):=by
 intro ac s σ H xs us Q I r h;obtain⟨p,ys,rfl,hq,q⟩:=h;obtain⟨u,rfl,rx⟩:=xK r;cases rx;obtain⟨its,r',pl,hz⟩:=I.list hq;have hlen:=r'.length;refine call_tuple_list pl.isList (λh' kp=>?_) (by simp only[mI]<;>omega);have I1:Inv X ac σ H { s with heap:=h' } :=I.kept (t':=s.toks) kp;have I2:Inv X ac σ (upd H h'.objs.size (.frz { cls:=.type "tuple",data:=.seq its.toArray } (.tup ys))) { s with heap:=h'.push { cls:=.type "tuple",data:=.seq its.toArray } } :=
  I1.laid (t':=s.toks) (λb o e=>gK _ e) uV (show ObjOk X.prog X.w _ _ _ (.frz _ (.tup ys))from⟨gZ _ rfl,hz,its,r',IsTup.new _ _,.of (gZ _ rfl) rfl⟩)
 exact⟨.ref h'.objs.size,_,I2,rfl,q _ _ (I1.hok.fresh uV) rfl⟩
end
theorem OL{α β:Type}{f:α->β}{zs l:List β}(p:zs.Perm l):∀E:List α,l=E.map f->∃E':List α,E'.Perm E/\zs=E'.map f:=by
 induction p with
 | nil=>
  intro E h;have:E=[]:=by simpa using h.symm
  exact⟨[],by rw[this],rfl⟩
 | @cons x l1 l2 _ ih=>
  intro E h
  match E,h with
  | e::E2,h=>
   rw[nO]at h;injection h with h1 h2
   obtain⟨E',p',rfl⟩:=ih E2 h2;exact⟨e::E',p'.cons e,by rw[nO,h1]⟩
 | @swap x y l=>
  intro E h
  match E,h with
  | e1::e2::E2,h=>
   rw[nO,nO]at h;injection h with h1 h2
   injection h2 with h2 h3
   exact⟨e2::e1::E2,List.Perm.swap ..,by rw[nO,nO,h1,h2,h3]⟩
 | @trans l1 l2 l3 _ _ ih1 ih2=>
  intro E h;obtain⟨E2,p2,e2⟩:=ih2 E h;obtain⟨E1,p1,e1⟩:=ih1 E2 e2;exact⟨E1,p1.trans p2,e1⟩
theorem Rd.same{H H':Hp}{d:Addr}{o:HO}(h:Rd H d o)(s:Same H H'):Rd H' d o:=by
 rcases h with h | ⟨u,h⟩
 ·exact .inl (s _ _ h)
 ·exact .inr ⟨u,s _ _ h⟩
structure Trm where
 ns:List Int
 t:Int
 b:Int
 k:Nat
def Trm.pr(x:Trm):List Int×Rat:=(x.ns,(x.t:Rat)/(x.b:Rat))
def tl(ts:List Trm):Pl:=ts.map Trm.pr
structure TmOk(aa D v:Nat)(x:Trm):Prop where
 len:x.ns.length=aa
 nn:∀n∈x.ns,0<=n
 deg:x.ns.sum<=D
 pos:0<x.b
 nz:x.t≠0
 low:Int.gcd x.t x.b=1
 sb:x.b.natAbs<=2^x.k
 st:x.t.natAbs<=2^v*x.b.natAbs
structure TrmV(H:Hp)(v:V)(x:Trm):Prop where
 ex:∃r b c:Addr,v=.ref r/\H r=some (.tup [.ref b,.ref c])/\H b=some (.tup (x.ns.map V.int))/\At2 H c x.t x.b
theorem TrmV.kp{H H':Hp}{v:V}{x:Trm}(h:TrmV H v x)(k:Kp H H'):TrmV H' v x:=by
 obtain⟨r,b,c,e1,e2,e3,e4⟩:=h.ex;exact⟨r,b,c,e1,k.tup _ _ e2,k.tup _ _ e3,k.tup _ _ e4⟩
theorem Paired.to{α β:Type}{F G:α->β->Prop}(f:∀a b,F a b->G a b):∀{l₁:List α} {l₂:List β},Paired F l₁ l₂->Paired G l₁ l₂
 | _,_,.nil=>.nil
 | _,_,.cons h t=>.cons (f _ _ h) (Paired.to f t)
theorem Paired.app{α β:Type}{F:α->β->Prop} :∀{a b:List α} {c d:List β},Paired F a c->Paired F b d->Paired F (a++b) (c++d)
 | _,_,_,_,.nil,h=>h
 | _,_,_,_,.cons h t,k=>.cons h (Paired.app t k)
theorem Paired.at{α β:Type}{F:α->β->Prop} :∀{l₁:List α} {l₂:List β} {i:Nat} {x:α},Paired F l₁ l₂->l₁[i]? = some x->∃y,l₂[i]? = some y/\F x y
 | _,_,_,_,.nil,h=>by simp at h
 | _,_,0,_,.cons h t,e=>by
  cases (Option.some.inj e);exact⟨_,rfl,h⟩
 | _,_,i+1,_,.cons h t,e=>Paired.at t (i:=i) e
structure Poly(H:Hp)(p:Addr)(aa:Nat)(z:Sz)(ts:List Trm):Prop where
 ex:∃(q:Addr) (o:Obj) (xs:List V),H p=some (.tup [.int aa,.ref q])/\H q=some (.frz o (.tup xs))/\o.dict=none/\Paired (TrmV H) xs ts
 nd:(ts.map Trm.ns).Nodup
 each:∀x∈ts,TmOk aa z.D z.v x
 sum:(ts.map Trm.k).sum<=z.S
 few:ts.length<=z.n
theorem Poly.kp{H H':Hp}{p:Addr}{aa:Nat}{z:Sz}{ts:List Trm}(h:Poly H p aa z ts)(k:Kp H H'):Poly H' p aa z ts:=by
 obtain⟨q,o,xs,e1,e2,e3,e4⟩:=h.ex;exact⟨⟨q,o,xs,k.tup _ _ e1,k.frz _ _ _ e2,e3,Paired.to (λ_ _ h=>h.kp k) e4⟩,h.nd,h.each,h.sum,h.few⟩
theorem XB{t b:Int}{v k:Nat}(hb:0<b)(nz:t≠0)(sb:b.natAbs<=2^k)(st:t.natAbs<=2^v*b.natAbs):0<xH t b/\xG t b≠0/\Int.gcd (xG t b) (xH t b)=1/\(xH t b).natAbs<=2^k/\(xG t b).natAbs<=2^v*(xH t b).natAbs:=by
 have g1:=LwM.qR t b hb;have gp:0<Int.gcd t b:=by omega
 rw[qV hb,vN hb];have d1:(Int.gcd t b:Int)∣t:=mV ..;have d2:(Int.gcd t b:Int)∣b:=mO ..;have hp:0<b/(Int.gcd t b:Int):=Int.ediv_pos_of_pos_of_dvd hb (by omega) d2;have e1:t/(Int.gcd t b:Int)*(Int.gcd t b:Int)=t:=Int.ediv_mul_cancel d1;have e2:b/(Int.gcd t b:Int)*(Int.gcd t b:Int)=b:=Int.ediv_mul_cancel d2;refine⟨hp,λz=>nz ?_,Int.gcd_ediv_gcd_ediv_gcd gp,nY (LwM.BZ b _ g1) sb, ?_⟩
 ·rw[<-e1,z,Int.zero_mul]
 ·have st:(t/(Int.gcd t b:Int)*(Int.gcd t b:Int)).natAbs<=2^v*(b/(Int.gcd t b:Int)*(Int.gcd t b:Int)).natAbs:=by rw[e1,e2];exact st
  rw[nH,nH]at st;generalize t/(Int.gcd t b:Int)=t' at st;generalize b/(Int.gcd t b:Int)=b' at st;refine Nat.le_of_mul_le_mul_right (c:=(Int.gcd t b:Int).natAbs) ?_ (by omega);rw[Nat.mul_assoc];exact st
theorem XA{t b:Int}(hb:0<b):((xG t b:Int):Rat)/((xH t b:Int):Rat)=(t:Rat)/(b:Rat):=by
 have g1:=LwM.qR t b hb;rw[qV hb,vN hb];have d1:(Int.gcd t b:Int)∣t:=mV ..;have d2:(Int.gcd t b:Int)∣b:=mO ..;have hp:0<b/(Int.gcd t b:Int):=Int.ediv_pos_of_pos_of_dvd hb (by omega) d2;have e1:t/(Int.gcd t b:Int)*(Int.gcd t b:Int)=t:=Int.ediv_mul_cancel d1;have e2:b/(Int.gcd t b:Int)*(Int.gcd t b:Int)=b:=Int.ediv_mul_cancel d2;refine(XJ hp hb).mp ?_;generalize t/(Int.gcd t b:Int)=t' at *;generalize b/(Int.gcd t b:Int)=b' at *;generalize (Int.gcd t b:Int)=g at *;rw[<-e1,<-e2]
 grind
def Ent.tm(e:Ent):Trm:=⟨e.ns,xG e.t e.b,xH e.t e.b,e.k⟩
def spLSum:Sp:=λvs H Q _=>∃(d:Addr) (aa:Nat) (z:Sz) (E:List Ent),vs=[.int aa,.ref d]/\Rd H d (.dT (E.map Ent.kv))/\DB H aa z E/\1<=aa/\z.n<=63/\z.S<=7900/\
 ∀(p:Addr) (ts:List Trm) (H':Hp),H p=none->Same H H'->Poly H' p aa z ts->(tl ts).Perm (pl E)->Q (.ref p) H'
inductive LsI(H H2:Hp)(d l sl:Addr)(aa:Nat)(ys:List V)(E0:List Ent)(i:Nat):L2.St->Hp->Prop where
 | mk {u v:Option V} {H':Hp} {xs:List V} (s:Same H H') (k:Kp H2 H') (es:H' sl=some (.lst ys)) (e:H' l=some (.lst xs)) (h:Paired (TrmV H') xs ((E0.take i).map Ent.tm)):LsI H H2 d l sl aa ys E0 i [some (.int aa),some (.ref d),some (.ref l),u,v] H'
theorem scLSum:FnScope ["many","one","terms","powers","number"] ["many","one"] (jL LV):=⟨rfl,rfl,rfl,by decide +kernel,rfl,by decide +kernel,by decide +kernel⟩
theorem WH{fL:Addr}{fdL:FuncData}(F:Fun K "_law_sum" "_law_sum" LV f fd)(T:Txt mg)(DL:Df K mg "_law_low" RB ["top","bottom"] fL fdL)(GL:FnOk P w K mg base CX0 1 fL fdL ["top","bottom"] spLow):FnOk P w K mg base CX0 2 f fd ["many","one"] spLSum:=by
 refine F.ok scLSum (λvs H Q E h=>?_) (λcdv A outer s H vs Q E hr h=>?_)
 ·obtain⟨d,aa,z,E',rfl,_⟩:=h
  rfl
 ·obtain⟨d,aa,z,EE,rfl,hR,hD,m1,n63,S7,go⟩:=h;have hu:_+1<cLine:=hU (Nat.add_le_add_left (by decide:1<=64) _) hr.units;refine⟨_,jB (jM (i:=2) scLSum.nd rfl (Or.inl rfl) (kM jC)) (jB (qZ PassesOwn.never rfl (kX (qC (LwD.KW rfl) (by rfl) T.sorted boot_sorted (jA (pv 1) jC))) (jI (i:=3) scLSum.nd rfl (Or.inl rfl)) (jE (kU (jT HR (jQ kI (FG hu (pv 1) (pv 3) (λ_ _=>rfl)) jD (λ_ _=>rfl)) jD (jY _)) (jB (jM (i:=4) scLSum.nd rfl (Or.inl rfl) (jG GL hr rfl DL.m DL.F.kp DL.b .nil jR (jA (jQ kI (FG hu (pv 1) (pv 3) (λ_ _=>rfl)) jD (λ_ _=>rfl)) (jA (jQ kI (FG hu (pv 1) (pv 3) (λ_ _=>rfl)) jD (λ_ _=>rfl)) jC)))) (jE (xM (RZ PySem.F.plainAttrs_list PySem.F.slot_list_append PySem.F.type_list_append vC (pv 2) (jA (jV (jA (pv 3) (jA (pv 4) jC))) jC))))) kC))) (jE (jP (jV (jA (pv 0) (jA (qN IW (by rfl) T.tup boot_tuple (jA (pv 2) jC)) jC)))))), ?_⟩;try dsimp only[cxK]
  refine⟨(by show 0<=sizeLine;decide),λl H1 n1 s1 e1=>?_⟩;refine⟨_,rfl,d,_,rfl,Rd.same hR s1,by rw[mY];exact hU (nY hD.few n63) (by decide),λp hp=>?_,λys zs pz ky pw sl H2 n2 s2 e2=>⟨sl,rfl,⟨ys,SqL.of e2⟩, ?_⟩⟩
  ·obtain⟨e,he,rfl⟩:=tD.mp hp;exact⟨e.ns,rfl,λz=>by have:=(hD.each e he).len;rw[z]at this;simp at this;omega⟩
  obtain⟨E0,pE,rfl⟩:=OL pz EE rfl;have s12:Same H H2:=s1.trans s2;have ls:sl≠l:=λz=>by rw[z,e1]at n2;cases n2
  have yl:ys.length=E0.length:=by rw[ky.1,mY]
  have l63:E0.length<=63:=by rw[pE.length_eq];exact nY hD.few n63
  refine vP (K:=K) (a:=sl) (xs:=ys) (LsI H H2 d l sl aa ys E0) (.mk s12 (Kp.of (Same.refl _)) e2 (s2 _ _ e1) .nil) (λi σ H3 _ h=>?_) (λi y σ H3 hyi h=>?_) (fun σ H3 h=>?_)
  ·obtain⟨_,_,es,_,_⟩:=h;exact SqL.of es
  ·obtain⟨s3,k3,es,el,hx⟩:=h;have hiy:i<ys.length:=(gE.mp hyi).1;have hie:i<E0.length:=by omega
   obtain⟨e,he⟩:∃e,E0[i]? = some e:=⟨E0[i],by simp [hie]⟩;obtain⟨b,ns,rfl,hb1,hk⟩:=ky.2 i y e.kv hyi (by rw[mH,he];rfl);have ens:e.ns=ns:=KP hk;subst ens;have eE:e∈EE:=pE.mem_iff.mp (gS he);have hE:=(hD.kp (Kp.of s3)).each e eE;have hb3:H3 b=some (.tup (e.ns.map V.int)):=k3.tup _ _ (s2 _ _ hb1);have g3:=ZH (Rd.same hR s3) hD.nd eE hb3;have c3:=SqT.of (K:=K) hE.at';have ke:=hD.k eE;refine⟨_,rfl,_,rfl,d,_,rfl,g3,e.c,_,_,_,rfl,rfl,c3,rfl,rfl,_,rfl, ?_⟩;rw[vR];refine vS (by rw[nA hE.nz];rfl) ?_;refine⟨_,rfl,_,rfl,d,_,rfl,g3,e.c,_,_,_,rfl,rfl,c3,rfl,_,rfl,_,rfl,d,_,rfl,g3,e.c,_,_,_,rfl,rfl,c3,rfl,e.t,e.b,rfl, ?_,.inl (FZ hE.sb (by omega)),λr H4 n4 s4 e4=>?_⟩
   ·have:=hE.pos;omega
   refine⟨_,rfl,.inl ⟨rfl,_,SqL.of (s4 _ _ el)⟩,_,rfl,_,rfl,uY,λq H5 n5 s5 e5=>?_⟩;have s45:=s4.trans s5;have el5:=s45 _ _ el;have lx:=Paired.length hx;rw[mY,mQ]at lx;refine⟨l,_,_,rfl,rfl,el5,hU (show _<=63 by omega) (by decide), ?_⟩;have ku:∀o:HO,Kp H5 (upd H5 l o):=λo=>Kp.upd el5 trivial;refine .mk (kQ (s3.trans s45) n1) ((k3.trans (Kp.of s45)).trans (ku _)) ?_ jF ?_
   ·rw[jH ls];exact s45 _ _ es
   ·rw[mJ,he,mZ];refine Paired.app (Paired.to (λ_ _ h=>h.kp ((Kp.of s45).trans (ku _))) hx) (.cons ⟨q,b,r,rfl,(ku _).tup _ _ e5,(ku _).tup _ _ (s45 _ _ hb3),(ku _).tup _ _ (s5 _ _ e4)⟩ .nil)
  ·obtain⟨s3,k3,es,el,hx⟩:=h;rename_i xs3;rw[yl,mS]at hx;refine⟨_,rfl,_,rfl,l,_,rfl,SqL.of el,λq oq nq dq=>⟨uY,λp H5 n5 s5 e5=>?_⟩⟩;have s4:Same H3 (upd H3 q (.frz oq (.tup xs3))):=kF _ nq;refine go p (E0.map Ent.tm) H5 ((s3.trans s4).free n5) (s3.trans (s4.trans s5)) ⟨⟨q,oq,_,e5,s5 _ _ jF,dq,Paired.to (λ_ _ h=>h.kp (Kp.of (s4.trans s5))) hx⟩, ?_,λx hx=>?_, ?_, ?_⟩ ?_
   ·rw[tJ];exact(pE.map Ent.ns).nodup_iff.mpr hD.nd
   ·obtain⟨e,he,rfl⟩:=tD.mp hx;have k:=hD.each e (pE.mem_iff.mp he);obtain⟨a1,a2,a3,a4,a5⟩:=XB k.pos k.nz k.sb k.st;exact⟨k.len,k.nn,k.deg,a1,a2,a3,a4,a5⟩
   ·rw[tJ];have:(E0.map (Trm.k ∘ Ent.tm)).sum=(EE.map Ent.k).sum:=(pE.map Ent.k).sum_nat;rw[this];exact hD.sum
   ·rw[mY,pE.length_eq];exact hD.few
   ·have:tl (E0.map Ent.tm)=pl E0:=by
     unfold tl pl;rw[tJ];refine List.map_congr_left λe he=>?_;have k:=hD.each e (pE.mem_iff.mp he);show(e.ns,_)=(e.ns,_)
     congr 1
     exact XA k.pos
    rw[this];exact pE.map _
end Lw
namespace LwQ
def fv(t b:Int):Rat:=(t:Rat)/(b:Rat)
theorem cne{b:Int}(h:0<b):(b:Rat)≠0:=by
 intro z;have:b=0:=Rat.intCast_inj.mp (by rw[z];rfl);omega
theorem YS{t b o u:Int}(hb:0<b)(hu:0<u)(h:t*u=o*b):fv t b=fv o u:=by
 have h1:=cne hb;have h2:=cne hu;have h3:(t:Rat)*(u:Rat)=(o:Rat)*(b:Rat):=by rw[<-nC,<-nC,h]
 unfold fv
 grind
theorem TY{t b o u:Int}(hb:0<b)(hu:0<u)(h:fv t b=fv o u):t*u=o*b:=by
 have h1:=cne hb;have h2:=cne hu;unfold fv at h;have h3:(t:Rat)*(u:Rat)=(o:Rat)*(b:Rat):=by grind
 rw[<-nC,<-nC]at h3;exact Rat.intCast_inj.mp h3
theorem fv_add{t b o u:Int}(hb:0<b)(hu:0<u):fv (t*u+o*b) (b*u)=fv t b+fv o u:=by
 have h1:=cne hb;have h2:=cne hu;unfold fv;rw[Rat.intCast_add,nC,nC,nC]
 grind
theorem fv_mul{t b o u:Int}(hb:0<b)(hu:0<u):fv (t*o) (b*u)=fv t b*fv o u:=by
 have h1:=cne hb;have h2:=cne hu;unfold fv;rw[nC,nC]
 grind
theorem AW{b t u:Int}(g:Int.gcd t b=1)(h:b∣t*u):b∣u:=by
 have h:=Int.natAbs_dvd_natAbs.mpr h;rw[nH]at h;have c:Nat.Coprime b.natAbs t.natAbs:=by
  have:Nat.gcd t.natAbs b.natAbs=1:=g;rw[Nat.gcd_comm]at this;exact this
 exact Int.natAbs_dvd_natAbs.mp (c.dvd_of_dvd_mul_left h)
theorem TD{t b o u:Int}(hb:0<b)(hu:0<u)(g1:Int.gcd t b=1)(g2:Int.gcd o u=1)(h:t*u=o*b):t=o/\b=u:=by
 have d1:b∣u:=by
  have:b∣t*u:=⟨o,by rw[h,tK]⟩;exact AW g1 this
 have d2:u∣b:=by
  have:u∣o*b:=⟨t,by rw[<-h,tK]⟩;exact AW g2 this
 have e:b=u:=Int.dvd_antisymm (by omega) (by omega) d1 d2;subst e;exact⟨Int.eq_of_mul_eq_mul_right (by omega) h,rfl⟩
theorem xR(x:Rat):fv x.num x.den=x:=by
 unfold fv;have:=Rat.num_divInt_den x;rw[Rat.divInt_eq_div]at this;exact this
theorem qI(x:Rat):0<(x.den:Int)/\Int.gcd x.num x.den=1:=⟨by have:=x.den_pos;omega,x.reduced⟩
theorem SL{t b:Int}(hb:0<b)(g:Int.gcd t b=1):(fv t b).num=t/\((fv t b).den:Int)=b:=by
 have n:=qI (fv t b);have e:=TY n.1 hb (xR (fv t b));exact TD n.1 hb n.2 g e
def Wh(D:Int)(x:Rat):Prop:=∃z:Int,x*(D:Rat)=(z:Rat)
theorem Wh.dvd{D t b:Int}(hb:0<b)(g:Int.gcd t b=1)(h:Wh D (fv t b)):b∣D:=by
 obtain⟨z,hz⟩:=h;have h1:=cne hb;have e:(t:Rat)*(D:Rat)=(z:Rat)*(b:Rat):=by unfold fv at hz;grind
 rw[<-nC,<-nC]at e;have e:=Rat.intCast_inj.mp e;have:b∣t*D:=⟨z,by rw[e,tK]⟩;exact AW g this
theorem Wh.of{t b:Int}(hb:0<b):Wh b (fv t b):=⟨t,by have h1:=cne hb;unfold fv;grind⟩
end LwQ
namespace Lw
open PySem PySem.Spec PyProof.Rows L2 LwQ
theorem OZ{n d:Int}(hd:0<d):xG n d*d=n*xH n d:=by
 rw[qV hd,vN hd];obtain⟨a,ha⟩:=mV (a:=n) (b:=d);obtain⟨b,hb⟩:=mO (a:=n) (b:=d);have g1:=LwM.qR n d hd;generalize (Int.gcd n d:Int)=g at ha hb g1;subst ha hb;rw[Int.mul_ediv_cancel_left _ (by omega),Int.mul_ediv_cancel_left _ (by omega)]
 grind
theorem HZ{n d:Int}(hd:0<d):0<xH n d:=by
 have g1:=LwM.qR n d hd;rw[vN hd];exact Int.ediv_pos_of_pos_of_dvd hd (by omega) (mO ..)
theorem MM{n d:Int}(hd:0<d):Int.gcd (xG n d) (xH n d)=1:=by
 have g1:=LwM.qR n d hd;rw[qV hd,vN hd];exact Int.gcd_ediv_gcd_ediv_gcd (by omega)
theorem XC{n d:Int}(hd:0<d):(xG n d).natAbs<=n.natAbs:=by
 rw[qV hd];exact LwM.BZ _ _ (LwM.qR n d hd)
theorem fv_low{n d:Int}(hd:0<d):fv (xG n d) (xH n d)=fv n d:=YS (HZ hd) hd (OZ hd)
theorem cross{x:Rat}{t b:Int}(hb:0<b)(h:x=fv t b):x.num*b=t*x.den:=by
 have n:=qI x;exact TY n.1 hb (by rw[xR,h])
def SzR(n:Nat)(x:Rat):Prop:=x.num.natAbs<2^n/\x.den<2^n
theorem SzR.fr{n:Nat}{x:Rat}(h:SzR n x)(k:n<=7900):FrOk 7900 x.num x.den:=
 ⟨(qI x).1,(qI x).2,kH h.1 k,kH (by rw[mD];exact h.2) k⟩
theorem GE{H:Hp}{r:Addr}{N D:Int}{z:Rat}(h:At2 H r (xG N D) (xH N D))(hD:0<D)(e:fv N D=z):At2 H r z.num z.den:=by
 have nm:=SL (HZ (n:=N) hD) (MM hD);rw[fv_low hD,e]at nm;unfold At2;rw[nm.1,nm.2];exact h
theorem XZ{H:Hp}{r:Addr}{N D:Int}{z:Rat}(h:At2 H r (xG N D) (xH N D))(hD:D≠0)(e:fv N D=z):At2 H r z.num z.den:=by
 by_cases p:0<D
 ·exact GE h p e
 ·have q:D<0:=by omega
  rw[<-(AT q).1,<-(AT q).2]at h;refine GE h (by omega) ?_;rw[<-e];unfold fv;rw[nF,nF];have:(D:Rat)≠0:=λz=>hD (Rat.intCast_inj.mp (by rw[z];rfl))
  grind
theorem XS{x:Rat}{t b:Int}(hb:0<b)(h:x=fv t b):(x.den:Int)∣b/\x.num.natAbs<=t.natAbs:=by
 have n:=qI x;have d:(x.den:Int)∣b:=Wh.dvd n.1 n.2 (by rw[xR,h];exact Wh.of hb);refine⟨d, ?_⟩;obtain⟨k,hk⟩:=d;have c:=cross hb h;have k0:k≠0:=λz=>by rw[z,Int.mul_zero]at hk;omega
 have:x.num*k=t:=by
  have e:x.den*(x.num*k)=x.den*t:=by rw[hk]at c;grind
  exact Int.eq_of_mul_eq_mul_left (by omega) e
 rw[<-this,nH];exact Nat.le_mul_of_pos_right _ (by omega)
structure Ov(D:Int)(n:Nat)(x:Rat):Prop where
 ex:∃z:Int,x=fv z D/\z.natAbs<=2^n
theorem Ov.sz{D:Int}{n d k:Nat}{x:Rat}(h:Ov D n x)(hD:0<D)(hd:D.natAbs<=2^d)(h1:n<k)(h2:d<k):SzR k x:=by
 obtain⟨z,e,hz⟩:=h.ex;have q:=XS hD e;have l:x.den<=D.natAbs:=by
  have:=Int.natAbs_dvd_natAbs.mpr q.1;rw[mD]at this;exact Nat.le_of_dvd (by omega) this
 exact⟨hU (nY q.2 hz) (gW (by decide) h1),hU (nY l hd) (gW (by decide) h2)⟩
theorem Ov.up{D:Int}{n m:Nat}{x:Rat}(h:Ov D n x)(k:n<=m):Ov D m x:=let ⟨z,e,hz⟩:=h.ex;⟨z,e,nY hz (gU (by decide) k)⟩
theorem Ov.zero(D:Int)(n:Nat):Ov D n 0:=⟨0,by unfold fv;rw[show((0:Int):Rat)=0 from rfl,tO,tH],tM _⟩
theorem Ov.scale{D c:Int}{n b:Nat}{x:Rat}(h:Ov D n x)(hD:0<D)(hc:0<c)(hb:c.natAbs<=2^b):Ov (D*c) (n+b) x:=by
 obtain⟨z,e,hz⟩:=h.ex;refine⟨z*c, ?_, ?_⟩
 ·rw[e];exact YS hD (tN hD hc) (by grind)
 ·rw[nH,tP];exact nJ hz hb
theorem XI{z y D:Int}(hD:0<D):fv z D+fv y D=fv (z+y) D:=by
 have h1:=cne hD;unfold fv;rw[Rat.intCast_add]
 grind
theorem Ov.add{D:Int}{n:Nat}{x y:Rat}(h:Ov D n x)(k:Ov D n y)(hD:0<D):Ov D (n+1) (x+y):=by
 obtain⟨z,e,hz⟩:=h.ex;obtain⟨z',e',hz'⟩:=k.ex;refine⟨z+z',by rw[e,e',XI hD], ?_⟩;rw[Nat.pow_succ];omega
theorem Ov.imul{D i:Int}{n b:Nat}{x:Rat}(h:Ov D n x)(hi:i.natAbs<=2^b):Ov D (n+b) ((i:Rat)*x):=by
 obtain⟨z,e,hz⟩:=h.ex;refine⟨i*z, ?_, ?_⟩
 ·rw[e];unfold fv;rw[nC,tO,tO,Rat.mul_assoc]
 ·rw[nH,Nat.add_comm,tP];exact nJ hi hz
theorem Ov.div{D c:Int}{n:Nat}{x:Rat}(h:Ov D n x)(hD:0<D)(hc:c≠0):Ov (D*(c.natAbs:Int)) n (x/((c:Int):Rat)):=by
 obtain⟨z,e,hz⟩:=h.ex;have h1:=cne hD;have h2:(c:Rat)≠0:=λy=>hc (Rat.intCast_inj.mp (by rw[y];rfl));by_cases p:0<c
 ·refine⟨z, ?_,hz⟩;rw[show(c.natAbs:Int)=c by omega,e];unfold fv;rw[nC]
  grind
 ·refine⟨-z, ?_,by rw[nK];exact hz⟩;rw[show(c.natAbs:Int) = -c by omega,e];unfold fv;rw[nC,nF,nF]
  grind
theorem FQ(i:Int):((i:Int):Rat).num=i/\(((i:Int):Rat).den:Int)=1:=⟨Rat.num_intCast i,by rw[Rat.den_intCast];rfl⟩
theorem BV{i:Int}{n:Nat}(h:i.natAbs<2^n)(hn:0<n):SzR n ((i:Int):Rat):=⟨by rw[(FQ i).1];exact h,by rw[Rat.den_intCast];exact Nat.one_lt_two_pow (by omega)⟩
def NumK(K:tX)(H:Hp)(v:V)(x:Rat):Prop:=∃p,v=.ref p/\SqT K H p [.int x.num,.int x.den]
theorem NumK.same{K:tX}{H H':Hp}{v:V}{x:Rat}(h:NumK K H v x)(s:Same H H'):NumK K H' v x:=let ⟨p,e,q⟩:=h;⟨p,e,vE s q⟩
theorem NumK.of{K:tX}{H:Hp}{p:Addr}{x:Rat}(h:At2 H p x.num x.den):NumK K H (.ref p) x:=⟨p,rfl,SqT.of h⟩
theorem wB{K:tX}{H:Hp}{p:Addr}{i:Int}(h:SqT K H p [.int i,.int 1]):SqT K H p [.int ((i:Int):Rat).num,.int ((i:Int):Rat).den]:=by rw[(FQ i).1,(FQ i).2];exact h
theorem YV{H:Hp}{r:Addr}{x y:Rat}(e:At2 H r (xG (x.num*y.den+y.num*x.den) (x.den*y.den)) (xH (x.num*y.den+y.num*x.den) (x.den*y.den))):At2 H r (x+y).num (x+y).den:=
 GE e (tN (qI x).1 (qI y).1) (by rw[fv_add (qI x).1 (qI y).1,xR,xR])
theorem YQ{H:Hp}{r:Addr}{x y:Rat}(e:At2 H r (xG (x.num*y.num) (x.den*y.den)) (xH (x.num*y.num) (x.den*y.den))):At2 H r (x*y).num (x*y).den:=
 GE e (tN (qI x).1 (qI y).1) (by rw[fv_mul (qI x).1 (qI y).1,xR,xR])
theorem FI{y:Rat}(ny:y≠0):y.num≠0:=λz=>ny (by rw[<-xR y,z];unfold fv;rw[show((0:Int):Rat)=0 from rfl,tO,tH])
theorem UN{H:Hp}{r:Addr}{x y:Rat}(ny:y≠0)(e:At2 H r (xG (x.num*y.den) (x.den*y.num)) (xH (x.num*y.den) (x.den*y.num))):At2 H r (x/y).num (x/y).den:=by
 have yn:=FI ny;refine XZ e (Int.mul_ne_zero (by have:=(qI x).1;omega) yn) ?_;have h1:=cne (qI x).1;have h2:=cne (qI y).1;have h3:((y.num:Int):Rat)≠0:=λz=>yn (Rat.intCast_inj.mp (by rw[z];rfl))
 conv=>rhs;rw[<-xR x,<-xR y]
 unfold fv;rw[nC,nC]
 grind
open LwF
def Ngt(K:tX)(mg:Str->Option Value):Prop:=∃a,mg "NOUGHT" = some (.ref a)/\∀H,SqT K H a (([0,1]:List Int).map V.int)
def One1(K:tX)(mg:Str->Option Value):Prop:=∃a,mg "ONE" = some (.ref a)/\∀H,SqT K H a (([1,1]:List Int).map V.int)
theorem EY:∀{ns:List Int} {ks:List Rat} {i:Nat} {n:Int} {k:Rat},ns[i]? = some n->ks[i]? = some k->rw' (ns.take (i+1)) (ks.take (i+1))=rw' (ns.take i) (ks.take i)+(n:Rat)*k
 | [],_,_,_,_,h,_=>by simp at h
 | _::_,[],_,_,_,_,h=>by simp at h
 | a::ns,b::ks,0,n,k,h1,h2=>by
  cases (Option.some.inj h1);cases (Option.some.inj h2);show(a:Rat)*b+rw' (ns.take 0) (ks.take 0)=0+(a:Rat)*b;rw[List.take_zero,List.take_zero];show(a:Rat)*b+0=_
  grind
 | a::ns,b::ks,i+1,n,k,h1,h2=>by
  show(a:Rat)*b+rw' (ns.take (i+1)) (ks.take (i+1))=((a:Rat)*b+rw' (ns.take i) (ks.take i))+(n:Rat)*k;rw[EY (i:=i) h1 h2]
  grind
theorem LX:∀{ns:List Int} {ks:List Rat},rw' (ns.take ks.length) ks=rw' ns ks
 | _,[]=>by rw[vL,vL]
 | [],_::_=>rfl
 | a::ns,b::ks=>by
  show(a:Rat)*b+rw' (ns.take ks.length) ks=(a:Rat)*b+rw' ns ks;rw[LX]
structure KnP(K:tX)(H:Hp)(b:Addr)(us:List V)(ks:List Rat)(D:Int)(n d:Nat):Prop where
 at':H b=some (.lst us)
 pr:Paired (NumK K H) us ks
 pos:0<D
 sd:D.natAbs<=2^d
 ov:∀k∈ks,Ov D n k
theorem KnP.same{K:tX}{H H':Hp}{b:Addr}{us:List V}{ks:List Rat}{D:Int}{n d:Nat}(h:KnP K H b us ks D n d)(s:Same H H'):KnP K H' b us ks D n d:=
 ⟨s _ _ h.at',Paired.to (λ_ _ k=>k.same s) h.pr,h.pos,h.sd,h.ov⟩
def spRW(K:tX):Sp:=λvs H Q _=>∃(a b:Addr) (ns:List Int) (us:List V) (ks:List Rat) (D:Int) (n d bt:Nat),vs=[.ref a,.ref b]/\H a=some (.lst (ns.map V.int))/\KnP K H b us ks D n d/\ks.length<=ns.length/\ks.length<=5/\(∀i∈ns,i.natAbs<=2^bt)/\n+bt<7890/\d<7900/\
 ∀(v:V) (H':Hp),Same H H'->NumK K H' v (rw' ns ks)->Ov D (n+bt+5) (rw' ns ks)->Q v H'
inductive RwI(K:tX)(H:Hp)(a b:Addr)(ns:List Int)(ks:List Rat)(D:Int)(N i:Nat):L2.St->Hp->Prop where
 | mk {H':Hp} {tv:V} {u3 u4:Option V} (s:Same H H') (t:NumK K H' tv (rw' (ns.take i) (ks.take i))) (o:Ov D (N+i) (rw' (ns.take i) (ks.take i))):RwI K H a b ns ks D N i [some (.ref a),some (.ref b),some tv,u3,u4] H'
variable{P:Program}{w:World}{K:tX}{mg:Str->Option Value}{base:Heap}{f fd:_}
theorem yW{K:tX}{H:Hp}{p:Addr}(h:SqT K H p (([0,1]:List Int).map V.int)):NumK K H (.ref p) 0:=⟨p,rfl,h⟩
theorem WA{K:tX}{H:Hp}{p:Addr}(h:SqT K H p (([1,1]:List Int).map V.int)):NumK K H (.ref p) 1:=⟨p,rfl,h⟩
theorem scRW:FnScope ["numbers","known","total","number","fraction"] ["numbers","known"] (jL AN):=⟨rfl,rfl,rfl,by decide +kernel,rfl,by decide +kernel,by decide +kernel⟩
theorem ok_rw{fA fM:Addr}{fdA fdM:FuncData}(F:Fun K "row_worth" "row_worth" AN f fd)(T:Txt mg)(N:Ngt K mg)(DA:Df K mg "added" HI ["one","other"] fA fdA)(GA:FnOk P w K mg base CX0 2 fA fdA ["one","other"] (JM K))(DM:Df K mg "multiplied" OA ["one","other"] fM fdM)(GM:FnOk P w K mg base CX0 2 fM fdM ["one","other"] (LM K)):FnOk P w K mg base CX0 3 f fd ["numbers","known"] (spRW K):=by
 obtain⟨na,hN,hna⟩:=N;refine F.ok scRW (λvs H Q E h=>?_) (λcdv A outer s H vs Q E hr h=>?_)
 ·obtain⟨a,b,ns,us,ks,D,n,d,bt,rfl,_⟩:=h
  rfl
 ·obtain⟨a,b,ns,us,ks,D,n,d,bt,rfl,ha,kp,hl,h5,hb,hn,hd,go⟩:=h;refine⟨_,jB (jM (i:=2) scRW.nd rfl (Or.inl rfl) (qB (v:=.ref na) (by rfl) hN rfl)) (jB (qZ PassesOwn.never rfl (LZ (by rfl) T.zip (jA (pv 0) (jA (pv 1) jC))) (qW rfl (jO (jI (i:=3) scRW.nd rfl (Or.inl rfl)) (jO (jI (i:=4) scRW.nd rfl (Or.inl rfl)) kS))) (jE (jM (i:=2) scRW.nd rfl (Or.inl rfl) (jG GA hr rfl DA.m DA.F.kp DA.b .nil jR (jA (pv 2) (jA (jG GM hr rfl DM.m DM.F.kp DM.b .nil jR (jA (jV (jA (pv 3) (jA jD jC))) (jA (pv 4) jC))) jC)))))) (jE (jP (pv 2)))), ?_⟩;try dsimp only[cxK]
  have lu:us.length=ks.length:=Paired.length kp.pr;refine⟨_,rfl,_,rfl,a,b,rfl,⟨_,SqL.of ha⟩,⟨_,SqL.of kp.at'⟩, ?_⟩;refine UA (K:=K) (xs:=ns.map V.int) (ys:=us) (RwI K H a b ns ks D (n+bt)) (by rw[mY,lu];exact hl) (.mk (Same.refl _) (yW (hna H)) (Ov.zero _ _)) (λi σ H2 _ h=>?_) (λi x y p σ H2 hx hy hp h=>?_) (fun σ H2 h=>?_)
  ·obtain⟨s2,_,_⟩:=h;exact⟨SqL.of (s2 _ _ ha),SqL.of (s2 _ _ kp.at')⟩
  ·obtain⟨s2,t2,o2⟩:=h;rename_i tv u3 u4;rw[mH]at hx;obtain⟨nn,hnn,rfl⟩:=Option.map_eq_some_iff.mp hx;obtain⟨k,hk,nk⟩:=Paired.at kp.pr hy;have km:=gS hk;have ik:i<ks.length:=(gE.mp hk).1;have s3:Same H2 (upd H2 p (.tup [.int nn,y])):=kF _ hp;have e3:(upd H2 p (.tup [.int nn,y])) p=some (.tup [.int nn,y]):=jF;generalize upd H2 p (.tup [.int nn,y])=H3 at s3 e3;obtain⟨pt,rfl,qt⟩:=t2.same s3;obtain⟨pk,rfl,qk⟩:=nk.same (s2.trans s3);refine⟨p,_,rfl,SqT.of e3,rfl,_,_,rfl,_,_,rfl,rfl, ?_⟩;have nb:=hb nn (gS hnn);have ot:Ov D (n+bt) ((nn:Rat)*k):=(kp.ov k km).imul nb;refine⟨_,rfl,_,rfl,uY,λr4 H4 n4 s4 e4=>⟨_,rfl, ?_⟩⟩;refine⟨r4,pk,_,_,_,_,rfl,wB (SqT.of e4),vE s4 qk,(BV (hU nb (gW (by decide) (by omega))) (by decide)).fr uV,((kp.ov k km).sz kp.pos kp.sd (by omega) hd).fr uV,λr5 H5 n5 s5 e5=>?_⟩;have e5:=YQ e5;refine⟨pt,r5,_,_,_,_,rfl,vE (s4.trans s5) qt,SqT.of e5,(o2.sz kp.pos kp.sd (by omega) hd).fr uV,(ot.sz kp.pos kp.sd (by omega) hd).fr uV,λr6 H6 n6 s6 e6=>?_⟩;have e6:=YV e6;refine .mk (s2.trans (s3.trans (s4.trans (s5.trans s6)))) ?_ ?_
   ·rw[EY hnn hk];exact NumK.of e6
   ·rw[EY hnn hk];exact o2.add (ot.up (by omega)) kp.pos
  ·obtain⟨s2,t2,o2⟩:=h;rename_i tv u3 u4;rw[lu,mS,LX]at t2 o2;exact⟨_,rfl,go tv H2 s2 t2 (o2.up (by omega))⟩
structure RwsP(H:Hp)(a:Addr)(xs:List V)(af:List Rw):Prop where
 at':H a=some (.lst xs)
 pr:Paired (λv r=>∃p,v=.ref p/\H p=some (.lst (r.map V.int))) xs af
theorem RwsP.same{H H':Hp}{a:Addr}{xs:List V}{af:List Rw}(h:RwsP H a xs af)(s:Same H H'):RwsP H' a xs af:=⟨s _ _ h.at',Paired.to (λ_ _ ⟨p,e,q⟩=>⟨p,e,s _ _ q⟩) h.pr⟩
def OvC(D:Int)(n bt:Nat)(x:Rat):Prop:=∃c:Int,0<c/\c.natAbs<=2^bt/\Ov (D*c) n x
def spNr(K:tX):Sp:=λvs H Q _=>∃(a b:Addr) (l:Nat) (xs:List V) (af:List Rw) (us:List V) (ks:List Rat) (D:Int) (n d bt:Nat),vs=[.ref a,.int l,.ref b]/\RwsP H a xs af/\KnP K H b us ks D n d/\ks.length<=5/\(∀r∈af,l+1+ks.length<=r.length)/\(∀r∈af,∀i∈r,i.natAbs<=2^bt)/\Bears l ks af/\n+2*bt<7880/\d+bt<7890/\l<2^20/\
 ∀(v:V) (H':Hp),Same H H'->NumK K H' v (MG l ks af)->OvC D (n+bt+5) bt (MG l ks af)->Q v H'
inductive NrI(K:tX)(H:Hp)(a b:Addr)(l:Nat)(ks:List Rat)(af:List Rw)(D:Int)(N bt i:Nat):L2.St->Hp->Prop where
 | mk {H':Hp} {tv:V} {u4 u5:Option V} (s:Same H H') (t:NumK K H' tv ((af.take i).foldl (vT l ks) 0)) (o:OvC D N bt ((af.take i).foldl (vT l ks) 0)):NrI K H a b l ks af D N bt i [some (.ref a),some (.int l),some (.ref b),some tv,u4,u5] H'
theorem OvC.sz{D:Int}{n d bt k:Nat}{x:Rat}(h:OvC D n bt x)(hD:0<D)(hd:D.natAbs<=2^d)(h1:n<k)(h2:d+bt<k):SzR k x:=by
 obtain⟨c,c0,c1,o⟩:=h;refine o.sz (tN hD c0) (d:=d+bt) ?_ h1 h2;rw[nH,tP];exact nJ hd c1
theorem vM{r:Rw}{l:Nat}(h:l<r.length):atI (r.map V.int) (l:Int)=some (.int (r.getD l 0)):=by
 refine yS ?_;rw[mH,gG h,gA,gG h]
 rfl
theorem zL(xs:List V)(k:Nat):xJ xs (some (k:Int)) none=xs.drop k:=by
 unfold xJ;rw[HT.sIx_nat,HT.sIx_none];by_cases h:k<=xs.length
 ·rw[Nat.min_eq_left h];exact gL (by rw[List.length_drop];exact tL _)
 ·rw[Nat.min_eq_right (by omega),gM uV,gM (by omega),List.take_nil]
theorem MF{x:Rat} :decide (x.num<0)=decide (x<0):=by
 have k:x.num<0↔x<0:=by
  have:=Rat.num_nonneg (q:=x);constructor
  ·intro h;refine gD λz=>?_;have:=this.mpr (by grind);omega
  ·intro h;refine gD λz=>?_;have:=this.mp (by omega);grind
 by_cases h:x<0
 ·rw[nG h,nG (k.mpr h)]
 ·rw[nA h,nA λz=>h (k.mp z)]
theorem scNr:FnScope ["rows","letter","known","value","row","rest"] ["rows","letter","known"] (jL LT):=⟨rfl,rfl,rfl,by decide +kernel,rfl,by decide +kernel,by decide +kernel⟩
theorem ok_nr{fA fM fD fW:Addr}{fdA fdM fdD fdW:FuncData}(F:Fun K "nearest" "nearest" LT f fd)(T:Txt mg)(N:Ngt K mg)(DA:Df K mg "added" HI ["one","other"] fA fdA)(GA:FnOk P w K mg base CX0 2 fA fdA ["one","other"] (JM K))(DM:Df K mg "multiplied" OA ["one","other"] fM fdM)(GM:FnOk P w K mg base CX0 2 fM fdM ["one","other"] (LM K))
  (DD:Df K mg "divided" JP ["one","other"] fD fdD) (GD:FnOk P w K mg base CX0 3 fD fdD ["one","other"] (BF K)) (DW:Df K mg "row_worth" AN ["numbers","known"] fW fdW) (GW:FnOk P w K mg base CX0 3 fW fdW ["numbers","known"] (spRW K)):FnOk P w K mg base CX0 4 f fd ["rows","letter","known"] (spNr K):=by
 obtain⟨na,hN,hna⟩:=N;refine F.ok scNr (λvs H Q E h=>?_) (λcdv A outer s H vs Q E hr h=>?_)
 ·obtain⟨a,b,l,xs,af,us,ks,D,n,d,bt,rfl,_⟩:=h
  rfl
 ·obtain⟨a,b,l,xs,af,us,ks,D,n,d,bt,rfl,rp,kp,h5,hlen,hbt,B,hn,hd,hl20,go⟩:=h;have hr2:Room 2 _:=hr.mono (by decide);refine⟨_,jB (jM (i:=3) scNr.nd rfl (Or.inl rfl) (qB (v:=.ref na) (by rfl) hN rfl)) (jB (qZ PassesOwn.never rfl (kX (pv 0)) (jI (i:=4) scNr.nd rfl (Or.inl rfl)) (jB (jM (i:=5) scNr.nd rfl (Or.inl rfl) (jG GW hr rfl DW.m DW.F.kp DW.b .nil jR (jA (qM qK (pv 4) (qG (jK kJ (pv 1) jD)) vW) (jA (pv 2) jC)))) (jE (kU (jT zX (jQ kI (jG GA hr2 rfl DA.m DA.F.kp DA.b .nil jR (jA (jG GM hr2 rfl DM.m DM.F.kp DM.b .nil jR (jA (jV (jA (jQ jW (pv 4) (pv 1) (λ_ _=>rfl)) (jA jD jC))) (jA (pv 3) jC))) (jA (pv 5) jC))) jD (λ_ _=>rfl)) jD (jY _)) (jE (jM (i:=3) scNr.nd rfl (Or.inl rfl) (jG GD hr rfl DD.m DD.F.kp DD.b .nil jR (jA (pv 5) (jA (jV (jA (vI qJ (jQ jW (pv 4) (pv 1) (λ_ _=>rfl))) (jA jD jC))) jC))))) kC)))) (jE (jP (pv 3)))), ?_⟩;try dsimp only[cxK]
  have lx:xs.length=af.length:=Paired.length rp.pr;refine⟨_,rfl,a,rfl,⟨_,SqL.of rp.at'⟩, ?_⟩;refine vP (K:=K) (a:=a) (xs:=xs) (NrI K H a b l ks af D (n+bt+5) bt) (.mk (Same.refl _) (yW (hna H)) ⟨1,by decide,mE,Ov.zero _ _⟩) (λi σ H2 _ h=>?_) (λi x σ H2 hx h=>?_) (fun σ H2 h=>?_)
  ·obtain⟨s2,_,_⟩:=h;exact SqL.of (s2 _ _ rp.at')
  ·obtain⟨s2,t2,o2⟩:=h;rename_i tv u4 u5;obtain⟨r,hr',p,rfl,er⟩:=Paired.at rp.pr hx;have rm:=gS hr';have er2:=s2 _ _ er;have hL:=hlen r rm;have ll:l<r.length:=by omega
   have rl:(r.getD l 0).natAbs<=2^bt:=by
    rw[gA,gG ll];exact hbt r rm _ (mU ll)
   refine⟨_,rfl,_,rfl,_,_,rfl,rfl,_,rfl,p,_,rfl,SqL.of er2,λq3 H3 n3 s3 e3=>⟨_,rfl, ?_⟩⟩;have cd:xJ (r.map V.int) (some ((l:Int)+1)) none=(r.drop (l+1)).map V.int:=by
    rw[show((l:Int)+1)=((l+1:Nat):Int) by omega,zL,List.map_drop]
   rw[cd]at e3;have kp3:=kp.same (s2.trans s3);refine⟨q3,b,r.drop (l+1),us,ks,D,n,d,bt,rfl,e3,kp3,by rw[List.length_drop];omega,h5,λi hi=>hbt r rm i (List.mem_of_mem_drop hi),by omega,by omega,λrv H4 s4 nv ov=>?_⟩;have nv:NumK K H4 rv (rest l ks r):=nv;have ov:Ov D (n+bt+5) (rest l ks r):=ov;have er4:=(s3.trans s4) _ _ er2;obtain⟨pr,rfl,qr⟩:=nv;obtain⟨pt,rfl,qt⟩:=t2.same (s3.trans s4);dsimp only[kR];refine⟨_,rfl,_,rfl,p,_,_,_,rfl,rfl,SqL.of er4,vM ll,uY,λr5 H5 n5 s5 e5=>⟨_,rfl, ?_⟩⟩;have sv:SzR 7900 ((af.take i).foldl (vT l ks) 0):=o2.sz kp.pos kp.sd (by omega) (by omega);have si:SzR 7900 (((r.getD l 0:Int)):Rat):=BV (hU rl (gW (by decide) (by omega))) (by decide);have op:SzR 7900 (((r.getD l 0:Int):Rat)*(af.take i).foldl (vT l ks) 0):=by
    obtain⟨c,c0,c1,o⟩:=o2;refine(o.imul rl).sz (d:=d+bt) (tN kp.pos c0) ?_ (by omega) (by omega);rw[nH,tP];exact nJ kp.sd c1
   refine⟨r5,pt,_,_,_,_,rfl,wB (SqT.of e5),vE s5 qt,si.fr uV,sv.fr uV,λr6 H6 n6 s6 e6=>⟨_,rfl, ?_⟩⟩;have e6:=YQ e6;refine⟨r6,pr,_,_,_,_,rfl,SqT.of e6,vE (s5.trans s6) qr,op.fr uV,(ov.sz kp.pos kp.sd (by omega) (by omega)).fr uV,λr7 H7 n7 s7 e7=>?_⟩;have e7:=YV e7;refine⟨r7,_,_,_,rfl,rfl,SqT.of e7,rfl,_,_,rfl,rfl,_,rfl, ?_⟩;have s27:=s3.trans (s4.trans (s5.trans (s6.trans s7)));have tk:(af.take (i+1)).foldl (vT l ks) 0=vT l ks ((af.take i).foldl (vT l ks) 0) r:=by
    rw[mJ,hr'];simp
   rw[MF];refine AG (λc=>?_) (λc=>?_)
   ·have c:=mL c;have rz:=WU B hr' c;refine⟨_,rfl,_,rfl,_,rfl,p,_,_,_,rfl,rfl,SqL.of ((s5.trans (s6.trans s7)) _ _ er4),vM ll,_,rfl,uY,λr8 H8 n8 s8 e8=>?_⟩;have e8:H8 r8=some (.tup [.int (-(r.getD l 0)),.int 1]):=e8;have nz:(((-(r.getD l 0):Int)):Rat)≠0:=λz=>rz (by have:(-(r.getD l 0):Int)=0:=Rat.intCast_inj.mp (by rw[z];rfl);omega);refine⟨pr,r8,_,_,_,_,rfl,vE (s5.trans (s6.trans (s7.trans s8))) qr,wB (SqT.of e8),(ov.sz kp.pos kp.sd (by omega) (by omega)).fr uV,(BV (by rw[nK];exact hU rl (gW (by decide) (by omega))) (by decide)).fr uV,FI nz,λr9 H9 n9 s9 e9=>?_⟩;have e9:=UN nz e9;have ee:vT l ks ((af.take i).foldl (vT l ks) 0) r=rest l ks r/((-(r.getD l 0):Int):Rat):=tW c;refine .mk (s2.trans (s27.trans (s8.trans s9))) (by rw[tk,ee];exact NumK.of e9) ?_;rw[tk,ee];refine⟨((-(r.getD l 0)).natAbs:Int),by omega,by rw[mD,nK];exact rl,ov.div kp.pos (by omega)⟩
   ·have c:=λz=>c (nG z);have ee:vT l ks ((af.take i).foldl (vT l ks) 0) r=(af.take i).foldl (vT l ks) 0:=tV c;exact .mk (s2.trans s27) (by rw[tk,ee];exact t2.same s27) (by rw[tk,ee];exact o2)
  ·obtain⟨s2,t2,o2⟩:=h;rename_i tv u4 u5;rw[lx,mS]at t2 o2;exact⟨_,rfl,go tv H2 s2 t2 o2⟩
theorem UB{n:Nat}{g:TG}{tb:TS}{D:Ends}{σ:L2.St}{H:Hp}(Pv:Nat->L2.St->Hp->Prop)(h0:Pv 0 σ H)
  (hs:∀i σ H,i<n->Pv i σ H->g (.int ((n:Int)-1-i)) σ H fun σ2 H2=>tb { D with nx:=Pv (i+1),ct:=Pv (i+1),bk:=D.nx } σ2 H2) (hd:∀σ H,Pv n σ H->D.nx σ H) :
  ∃W:Nat->Nat->L2.St->Hp->Prop,(∃m,W 0 m σ H)/\∀i m σ H,W i m σ H->
   ((Itd n).stop i H/\D.nx σ H)∨((Itd n).go i H/\∃N:L2.St->Hp->Prop,(∀σ' H',N σ' H'->∃m',m'<m/\W (i+1) m' σ' H')/\∀x H',(Itd n).yld i H x H'->g x σ H' fun σ2 H2=>tb { D with nx:=N,ct:=N,bk:=D.nx } σ2 H2):=by
 refine⟨λi m σ H=>m=n-i/\i<=n/\Pv i σ H,⟨n,by simp,tM _,h0⟩, ?_⟩;rintro i m σ H ⟨rfl,hi,p⟩;by_cases hlt:i<n
 ·refine .inr ⟨hlt,Pv (i+1),fun σ' H' p'=>⟨n-(i+1),by omega,rfl,hlt,p'⟩,λx H' y=>?_⟩;obtain⟨e,y⟩:=y;subst e y;exact hs i σ _ hlt p
 ·have e:i=n:=by omega
  subst e;exact .inl ⟨tL _,hd σ H p⟩
def gB:Nat->Nat
 | 0=>650
 | 1=>851
 | e+2=>2*gB (e+1)+1
def nS(m:Nat):Nat->Nat
 | 0=>gB m
 | k+1=>nS m k+gB (m-1-k)+5
theorem nS_ok{m k:Nat}(h:m<=3)(hk:k<m):nS m k+2*gB (m-1-k)<7880:=by
 have:m=1∨m=2∨m=3:=by omega
 rcases this with rfl | rfl | rfl
 ·obtain rfl:k=0:=by omega
  decide
 ·have:k=0∨k=1:=by omega
  rcases this with rfl | rfl<;>decide
 ·have:k=0∨k=1∨k=2:=by omega
  rcases this with rfl | rfl | rfl<;>decide
theorem nS_end{m:Nat}(h:m<=3):nS m m<6630:=by
 have:m=0∨m=1∨m=2∨m=3:=by omega
 rcases this with rfl | rfl | rfl | rfl<;>decide
structure StP(H:Hp)(a:Addr)(m:Nat)(st:Nat->List Rw):Prop where
 ex:∃fs,H a=some (.lst fs)/\fs.length=m+1/\∀e,e<=m->∃pa xs,fs[e]? = some (.ref pa)/\RwsP H pa xs (st e)
theorem StP.same{H H':Hp}{a:Addr}{m:Nat}{st:Nat->List Rw}(h:StP H a m st)(s:Same H H'):StP H' a m st:=by
 obtain⟨fs,e1,e2,e3⟩:=h.ex;exact⟨fs,s _ _ e1,e2,λe he=>by obtain⟨pa,xs,q1,q2⟩:=e3 e he;exact⟨pa,xs,q1,q2.same s⟩⟩
def ES(K:tX):Sp:=λvs H Q _=>∃(a:Addr) (lv:V) (m:Nat) (st:Nat->List Rw) (T:Rat) (D:Int),vs=[.ref a,.int m,lv]/\StP H a m st/\NumK K H lv T/\m<=3/\(∀j,j<m->Bears (m-1-j) (qF m st T j) (st (m-1-j)))/\(∀e,e<m->∀r∈st e,m+2<=r.length/\∀i∈r,i.natAbs<=2^gB e)/\0<D/\D.natAbs<=2^gB m/\Ov D (gB m) T/\
 ∀(p:Addr) (ys:List V) (H':Hp),H p=none->Same H H'->H' p=some (.tup ys)->Paired (NumK K H') ys ((qF m st T m).take m)->(∀k∈(qF m st T m).take m,SzR 6630 k)->Q (.ref p) H'
inductive SpI(K:tX)(H:Hp)(a:Addr)(lv:V)(m:Nat)(st:Nat->List Rw)(T:Rat)(k:Nat):L2.St->Hp->Prop where
 | mk {H':Hp} {b:Addr} {us:List V} {D:Int} {u:Option V} (s:Same H H') (kp:KnP K H' b us (qF m st T k) D (nS m k) (nS m k)):SpI K H a lv m st T k [some (.ref a),some (.int m),some lv,some (.ref b),u] H'
theorem IN(xs:List V)(k:Nat):xJ xs none (some (k:Int))=xs.take k:=by
 unfold xJ;rw[HT.sIx_nat,HT.sIx_none,List.drop_zero,Nat.sub_zero];by_cases h:k<=xs.length
 ·rw[Nat.min_eq_left h]
 ·rw[Nat.min_eq_right (by omega),mS,gL (by omega)]
theorem zG{α β:Type}{F:α->β->Prop} :∀{l:List α} {k:List β} (n:Nat),Paired F l k->Paired F (l.take n) (k.take n)
 | _,_,0,_=>by rw[List.take_zero,List.take_zero];exact .nil
 | _,_,n+1,.nil=>.nil
 | _,_,n+1,.cons h t=>.cons h (zG n t)
theorem scSp:FnScope ["found","many","level","known","letter"] ["found","many","level"] (jL CV):=⟨rfl,rfl,rfl,by decide +kernel,rfl,by decide +kernel,by decide +kernel⟩
theorem WD{fN:Addr}{fdN:FuncData}(F:Fun K "spot_of" "spot_of" CV f fd)(T:Txt mg)(O:One1 K mg)(DN:Df K mg "nearest" LT ["rows","letter","known"] fN fdN)(GN:FnOk P w K mg base CX0 4 fN fdN ["rows","letter","known"] (spNr K)):FnOk P w K mg base CX0 5 f fd ["found","many","level"] (ES K):=by
 obtain⟨oa,hO,hoa⟩:=O;refine F.ok scSp (λvs H Q E h=>?_) (λcdv A outer s H vs Q E hr h=>?_)
 ·obtain⟨a,lv,m,st,T,D,rfl,_⟩:=h
  rfl
 ·obtain⟨a,lv,m,st,TT,D,rfl,sp,nl,m3,B,hb,D0,D1,oT,go⟩:=h;refine⟨_,jB (jM (i:=3) scSp.nd rfl (Or.inl rfl) (kM (jA (pv 2) (jA (qB (v:=.ref oa) (by rfl) hO rfl) jC)))) (jB (qZ PassesOwn.never rfl (ZN (by rfl) T.rev (jA (qN KY (by rfl) T.rng boot_range (jA (pv 1) jC)) jC)) (jI (i:=4) scSp.nd rfl (Or.inl rfl)) (jE (jM (i:=3) scSp.nd rfl (Or.inl rfl) (jK qY (kM (jA (jG GN hr rfl DN.m DN.F.kp DN.b .nil jR (jA (jQ jW (pv 0) (pv 4) (λ_ _=>rfl)) (jA (pv 4) (jA (pv 3) jC)))) jC)) (pv 3))))) (jE (jP (qN vY (by rfl) T.tup boot_tuple (jA (qM qK (pv 3) vW (qG (pv 1))) jC))))), ?_⟩;try dsimp only[cxK]
  refine⟨_,rfl,uY,λb1 H1 n1 s1 e1=>?_⟩;have o1:Ov D (gB m) 1:=⟨D,by unfold fv;rw[tO,Rat.mul_inv_cancel _ (cne D0)],D1⟩;refine⟨_,rfl,_,rfl,λpr npr=>?_⟩;have s2:Same H1 (upd H1 pr (.rng 0 m)):=kF _ npr;have e2:(upd H1 pr (.rng 0 m)) pr=some (.rng 0 m):=jF;generalize upd H1 pr (.rng 0 m)=H2 at s2 e2;refine⟨pr,m,rfl,e2,hU m3 (by decide), ?_⟩;refine UB (n:=m) (SpI K H a lv m st TT) (.mk (us:=[lv,.ref oa]) (D:=D) (s1.trans s2) ⟨s2 _ _ e1,.cons (nl.same (s1.trans s2)) (.cons (WA (hoa H2)) .nil),D0,D1,λk hk=>by
    rcases nP.mp hk with rfl | hk
    ·exact oT
    ·rw[mC.mp hk];exact o1⟩) (λk σ H3 hk h=>?_) (fun σ H3 h=>?_)
  ·obtain⟨s3,kp⟩:=h;rename_i b us D' u;obtain⟨fs,f1,f2,f3⟩:=(sp.same s3).ex;have le:m-1-k<=m:=by omega
   obtain⟨pa,xs,q1,q2⟩:=f3 (m-1-k) le;have el:((m:Int)-1-(k:Int))=((m-1-k:Nat):Int):=by omega
   rw[el];refine⟨_,rfl,_,rfl,a,_,_,_,rfl,rfl,SqL.of f1,yS q1,_,rfl,_,rfl, ?_⟩;have nk:=nS_ok m3 hk;refine⟨pa,b,m-1-k,xs,_,us,_,D',_,_,gB (m-1-k),rfl,q2,kp,by rw[qU];omega,λr hr'=>?_,λr hr'=>(hb _ (by omega) r hr').2,B k hk,nk,by omega,by omega,λv H4 s4 nv ov=>?_⟩
   ·rw[qU];have:=(hb _ (by omega) r hr').1;omega
   obtain⟨c,c0,c1,oc⟩:=ov;have kp4:=kp.same s4;refine⟨uX,λb5 H5 n5 s5 e5=>⟨_,rfl,b5,b,_,us,rfl,rfl,e5,s5 _ _ kp4.at', ?_,λb6 H6 n6 s6 e6=>?_⟩⟩
   ·have:us.length=k+2:=by rw[Paired.length kp.pr,qU]
    rw[gR,this,sizeLine_eq];omega
   have s56:=s5.trans s6;have es:nS m (k+1)=nS m k+gB (m-1-k)+5:=rfl;refine .mk (s3.trans (s4.trans s56)) ⟨e6,.cons (nv.same s56) (Paired.to (λ_ _ h=>h.same s56) kp4.pr),tN kp.pos c0, ?_,λx hx=>?_⟩
   ·rw[nH];have:=nJ kp.sd c1;rw[<-tP]at this;exact nY this (gU (by decide) (by omega))
   ·rcases nP.mp hx with rfl | hx
    ·exact oc.up (by omega)
    ·exact((kp.ov x hx).scale kp.pos c0 c1).up (by omega)
  ·obtain⟨s3,kp⟩:=h;rename_i b us D' u;have ne:=nS_end m3;refine⟨_,rfl,_,rfl,_,rfl,b,us,rfl,SqL.of kp.at',λb4 H4 n4 s4 e4=>⟨b4,_,rfl,.inl ⟨SqL.of e4,λt nt=>?_⟩⟩⟩;rw[IN];have s5:Same H4 (upd H4 t (.tup (us.take m))):=kF _ nt;refine go t _ _ ((s3.trans s4).free nt) (s3.trans (s4.trans s5)) jF (Paired.to (λ_ _ h=>h.same (s4.trans s5)) (zG m kp.pr)) λx hx=>?_;exact(kp.ov x (gY hx)).sz kp.pos kp.sd (by omega) (by omega)
theorem EL{X:Cx}{scope:Scope}{own j0 j1:Nat}{N:List Str}{x0 x1:Str}(h0:N[own]? = some x0)(h1:N[own+1]? = some x1)(a:X.N[j0]? = some x0/\X.env.kindOf x0=some .cell/\(relabel scope X.env).names.lookup x0=some .cell/\X.env.scope.names.lookup x0=some .cell)
  (b:X.N[j1]? = some x1/\X.env.kindOf x1=some .cell/\(relabel scope X.env).names.lookup x1=some .cell/\X.env.scope.names.lookup x1=some .cell) :
  ∀(k j:Nat) (x:Str),[j0,j1][k]? = some j->N[own+k]? = some x->X.N[j]? = some x/\X.env.kindOf x=some .cell/\(relabel scope X.env).names.lookup x=some .cell/\X.env.scope.names.lookup x=some .cell:=by
 intro k j x e1 e2
 match k,e1,e2 with
 | 0,e1,e2=>
  cases e1;rw[Nat.add_zero,h0]at e2;cases e2;exact a
 | 1,e1,e2=>
  cases e1;rw[h1]at e2;cases e2;exact b
 | k+2,e1,_=>cases e1
def CW{α:Type}(xs:List α)(Pv:Nat->List V->Hp->Prop)(i m:Nat)(ys:List V)(H:Hp):Prop:=m=xs.length-i/\i<=xs.length/\Pv i ys H
theorem AX{α:Type}{xs:List α}{Pv:Nat->List V->Hp->Prop}{i m:Nat}{ys:List V}{H:Hp}{x:α}(h:xs[i]? = some x)(hm:m=xs.length-i)(q:Pv (i+1) ys H):∃m',m'<m/\CW xs Pv (i+1) m' ys H:=by
 have:=(gE.mp h).1;exact⟨_,by omega,rfl,this,q⟩
theorem IS{K:tX}{a:Addr}{xs:List V}{σ0:L2.St}{g:TG}{tt:TT}{te:TE}{Q:VK}{p:Addr}{H':Hp}(Pv:Nat->List V->Hp->Prop)(hz:xs.length<sizeLine)(h0:Pv 0 [] H')
  (hl:∀i ys H2,Pv i ys H2->SqL K H2 a xs/\H2 p=some (.lst ys)/\ys.length<=i)
  (hs:∀i m ys x H2,xs[i]? = some x->m=xs.length-i->Pv i ys H2->g x σ0 H2 fun σ4 H4=>Keep σ0 σ4/\tt σ4 H4 λb H5=>if b=true then te σ4 H5 λy H6=>H6 p=some (.lst ys)/\∃m',m'<m/\CW xs Pv (i+1) m' (ys++[y]) (upd H6 p (.lst (ys++[y])))else ∃m',m'<m/\CW xs Pv (i+1) m' ys H5)
  (hd:∀ys H2,Pv xs.length ys H2->Q (.ref p) H2):CompGoFI σ0 (Itl K a) g tt te Q p H':=by
 refine⟨CW xs Pv,⟨_,rfl,tM _,h0⟩, ?_⟩;rintro i m ys H2 ⟨hm,hi,hp⟩;obtain⟨q,e,hy⟩:=hl i ys H2 hp;refine⟨e,by omega, ?_⟩;by_cases hlt:i<xs.length
 ·refine .inr ⟨⟨xs,xs[i],q,by simp [hlt]⟩, ?_⟩;rintro x H3 ⟨rfl,y⟩;exact hs i m ys x _ (y xs q) hm hp
 ·obtain rfl:i=xs.length:=by omega
  exact .inl ⟨⟨xs,q,tL _⟩,hd ys H2 hp⟩
theorem IR{K:tX}{a:Addr}{xs:List V}{n:Nat}{g:TG}{tt:TT}{te:TE}{Q:VK}{p:Addr}{H':Hp}(Pv:Nat->List V->Hp->Prop)(hz:xs.length<sizeLine)(h0:Pv 0 [] H')
  (hl:∀i ys H2,Pv i ys H2->SqL K H2 a xs/\H2 p=some (.lst ys)/\ys.length<=i)
  (hs:∀i m ys x c H2,xs[i]? = some x->m=xs.length-i->Pv i ys H2->H2 c=none->g (.ref c) (List.replicate n none) (upd H2 c (.tup [.int i,x])) fun σ4 H4=>tt σ4 H4 λb H5=>if b=true then te σ4 H5 λy H6=>H6 p=some (.lst ys)/\∃m',m'<m/\CW xs Pv (i+1) m' (ys++[y]) (upd H6 p (.lst (ys++[y])))else ∃m',m'<m/\CW xs Pv (i+1) m' ys H5)
  (hd:∀ys H2,Pv xs.length ys H2->Q (.ref p) H2):CompGoI n (Itel K a) g tt te Q p H':=by
 refine⟨CW xs Pv,⟨_,rfl,tM _,h0⟩, ?_⟩;rintro i m ys H2 ⟨hm,hi,hp⟩;obtain⟨q,e,hy⟩:=hl i ys H2 hp;refine⟨e,by omega, ?_⟩;by_cases hlt:i<xs.length
 ·refine .inr ⟨⟨xs,xs[i],q,by simp [hlt]⟩, ?_⟩;rintro x H3 ⟨c,y,hc,rfl,rfl,h⟩;exact hs i m ys y c _ (h xs q) hm hp hc
 ·obtain rfl:i=xs.length:=by omega
  exact .inl ⟨⟨xs,q,tL _⟩,hd ys H2 hp⟩
def CW2{α:Type}(zs:List α)(Pj:Nat->List V->L2.St->Hp->Prop)(j m:Nat)(ys:List V)(σ:L2.St)(H:Hp):Prop:=m=zs.length-j/\j<=zs.length/\Pj j ys σ H
theorem UP{α:Type}{zs:List α}{Pj:Nat->List V->L2.St->Hp->Prop}{j m:Nat}{ys:List V}{σ:L2.St}{H:Hp}{x:α}(h:zs[j]? = some x)(hm:m=zs.length-j)(q:Pj (j+1) ys σ H):∃m',m'<m/\CW2 zs Pj (j+1) m' ys σ H:=by
 have:=(gE.mp h).1;exact⟨_,by omega,rfl,this,q⟩
theorem IT{K:tX}{a:Addr}{xs:List V}{σ0:L2.St}{g:TG}{wi2:TI}{g2:TG}{te:TE}{Q:VK}{p:Addr}{H':Hp}(Pv:Nat->Hp->Prop)(h0:Pv 0 H')(hl:∀i H2,Pv i H2->SqL K H2 a xs)
  (hs:∀i m x H2,xs[i]? = some x->m=xs.length-i->Pv i H2->g x σ0 H2 fun σ4 H4=>wi2 σ4 H4 λJ2 H5=>
   ∃W2:Nat->Nat->List V->L2.St->Hp->Prop,(∃m2 ys,W2 0 m2 ys σ4 H5)/\∀j m2 ys σ5 H6,W2 j m2 ys σ5 H6->H6 p=some (.lst ys)/\ys.length<sizeLine/\
    ((J2.stop j H6/\Keep σ0 σ5/\∃m',m'<m/\m'=xs.length-(i+1)/\i+1<=xs.length/\Pv (i+1) H6)∨(J2.go j H6/\∀y H7,J2.yld j H6 y H7->g2 y σ5 H7 fun σ8 H8=>te σ8 H8 λz H9=>H9 p=some (.lst ys)/\∃m2',m2'<m2/\W2 (j+1) m2' (ys++[z]) σ8 (upd H9 p (.lst (ys++[z]))))))
  (hd:∀H2,Pv xs.length H2->Q (.ref p) H2):CompGo2 σ0 (Itl K a) g wi2 g2 te Q p H':=by
 refine⟨λi m H=>m=xs.length-i/\i<=xs.length/\Pv i H,⟨_,rfl,tM _,h0⟩, ?_⟩;rintro i m H2 ⟨hm,hi,hp⟩;have q:=hl i H2 hp;by_cases hlt:i<xs.length
 ·refine .inr ⟨⟨xs,xs[i],q,by simp [hlt]⟩, ?_⟩;rintro x H3 ⟨rfl,y⟩;exact hs i m x _ (y xs q) hm hp
 ·obtain rfl:i=xs.length:=by omega
  exact .inl ⟨⟨xs,q,tL _⟩,hd H2 hp⟩
theorem KN{K:tX}{b:Addr}{zs:List V}{σ0:L2.St}{g2:TG}{te:TE}{p:Addr}{σ4:L2.St}{H5:Hp}{ys0:List V}{F:Hp->Prop}(Pj:Nat->List V->L2.St->Hp->Prop)(h0:Pj 0 ys0 σ4 H5)(hl:∀j ys σ H,Pj j ys σ H->SqL K H b zs/\H p=some (.lst ys)/\ys.length<sizeLine)
  (hs:∀j m ys z σ H,zs[j]? = some z->m=zs.length-j->Pj j ys σ H->g2 z σ H fun σ8 H8=>te σ8 H8 λy H9=>H9 p=some (.lst ys)/\∃m',m'<m/\CW2 zs Pj (j+1) m' (ys++[y]) σ8 (upd H9 p (.lst (ys++[y])))) (hd:∀ys σ H,Pj zs.length ys σ H->Keep σ0 σ/\F H) :
  ∃W2:Nat->Nat->List V->L2.St->Hp->Prop,(∃m2 ys,W2 0 m2 ys σ4 H5)/\∀j m2 ys σ5 H6,W2 j m2 ys σ5 H6->H6 p=some (.lst ys)/\ys.length<sizeLine/\
    (((Itl K b).stop j H6/\Keep σ0 σ5/\F H6)∨((Itl K b).go j H6/\∀y H7,(Itl K b).yld j H6 y H7->g2 y σ5 H7 fun σ8 H8=>te σ8 H8 λz H9=>H9 p=some (.lst ys)/\∃m2',m2'<m2/\W2 (j+1) m2' (ys++[z]) σ8 (upd H9 p (.lst (ys++[z]))))):=by
 refine⟨CW2 zs Pj,⟨_,ys0,rfl,tM _,h0⟩, ?_⟩;rintro j m ys σ H ⟨hm,hj,hp⟩;obtain⟨q,e,hy⟩:=hl j ys σ H hp;refine⟨e,hy, ?_⟩;by_cases hlt:j<zs.length
 ·refine .inr ⟨⟨zs,zs[j],q,by simp [hlt]⟩, ?_⟩;rintro x H3 ⟨rfl,y⟩;exact hs j m ys x σ _ (y zs q) hm hp
 ·obtain rfl:j=zs.length:=by omega
  exact .inl ⟨⟨zs,q,tL _⟩,hd ys σ H hp⟩
theorem PX{K:tX}{a b:Addr}{ts us:List V}{σ0:L2.St}{g:TG}{te:TE}{Q:VK}{p:Addr}{H':Hp}(Pv:Nat->List V->Hp->Prop)(hle:us.length=ts.length)(hz:us.length<sizeLine)(h0:Pv 0 [] H')
  (hl:∀i ys H2,Pv i ys H2->SqL K H2 a ts/\SqL K H2 b us/\H2 p=some (.lst ys))
  (hs:∀i m ys x y c H2,ts[i]? = some x->us[i]? = some y->m=us.length-i->ys.length=i->Pv i ys H2->H2 c=none->g (.ref c) σ0 (upd H2 c (.tup [x,y])) fun σ4 H4=>Keep σ0 σ4/\te σ4 H4 λy H5=>H5 p=some (.lst ys)/\∃m',m'<m/\CompW us Pv (i+1) m' (ys++[y]) (upd H5 p (.lst (ys++[y]))))
  (hd:∀ys H2,ys.length=us.length->Pv us.length ys H2->Q (.ref p) H2):CompGoF σ0 (ItzL K a b) g te Q p H':=by
 refine⟨CompW us Pv,⟨_,rfl,tM _,rfl,h0⟩, ?_⟩;rintro i m ys H2 ⟨hm,hi,hy,hp⟩;obtain⟨q1,q2,e⟩:=hl i ys H2 hp;refine⟨e,by omega, ?_⟩;by_cases hlt:i<us.length
 ·have h2:i<ts.length:=by omega
  refine .inr ⟨⟨ts,us,ts[i],us[i],q1,q2,by simp [h2],by simp [hlt]⟩, ?_⟩;rintro _ _ ⟨c,x,y,hc,rfl,rfl,h1,h2⟩;exact hs i m ys x y c H2 (h1 _ q1) (h2 _ q2) hm hy hp hc
 ·obtain rfl:i=us.length:=by omega
  exact .inl ⟨⟨ts,us,q1,q2,.inr uV⟩,hd ys H2 hy hp⟩
theorem NV{X:Cx}{scope:Scope}{own j0 j1 j2:Nat}{N:List Str}{x0 x1 x2:Str}(h0:N[own]? = some x0)(h1:N[own+1]? = some x1)(h2:N[own+2]? = some x2)(a:X.N[j0]? = some x0/\X.env.kindOf x0=some .cell/\(relabel scope X.env).names.lookup x0=some .cell/\X.env.scope.names.lookup x0=some .cell)
  (b:X.N[j1]? = some x1/\X.env.kindOf x1=some .cell/\(relabel scope X.env).names.lookup x1=some .cell/\X.env.scope.names.lookup x1=some .cell) (c:X.N[j2]? = some x2/\X.env.kindOf x2=some .cell/\(relabel scope X.env).names.lookup x2=some .cell/\X.env.scope.names.lookup x2=some .cell) :
  ∀(k j:Nat) (x:Str),[j0,j1,j2][k]? = some j->N[own+k]? = some x->X.N[j]? = some x/\X.env.kindOf x=some .cell/\(relabel scope X.env).names.lookup x=some .cell/\X.env.scope.names.lookup x=some .cell:=by
 intro k j x e1 e2
 match k,e1,e2 with
 | 0,e1,e2=>cases e1;rw[Nat.add_zero,h0]at e2;cases e2;exact a
 | 1,e1,e2=>cases e1;rw[h1]at e2;cases e2;exact b
 | 2,e1,e2=>cases e1;rw[h2]at e2;cases e2;exact c
 | k+3,e1,_=>cases e1
theorem vV{cl cells:List (Str×Addr)}(h:∀y∈cl,cells.lookup y.1=some y.2):∀x c,cl.lookup x=some c->cells.lookup x=some c:=λx c e=>h (x,c) (PySem.mem_of_lookup e)
theorem OM{X:Cx}{N:List Str}{elt target iter c:Expr}{scope:Scope}{pos:Pos}{wi:TI}{g:TG}{tt:TT}{te:TE}(hc:X.calm=true)
  (hk:scope.kind=.function) (hfree:∀x∈scope.names,x.2≠.free) (hcell:∀x∈scope.names,x.2≠.cell) (hnames:∀x∈scope.names,x.2=.local->scope.names.lookup x.1=some .local)
  (hi:PI X target iter wi) (hg:∀C fp s2 H2,PG (kO X N scope C fp s2 H2) target g) (ht:∀C fp s2 H2,PT (kO X N scope C fp s2 H2) c tt) (he:∀C fp s2 H2,PE (kO X N scope C fp s2 H2) elt te)
  (hs:∀x,foldedSetIterable iter X.env x=pure x:=by intro _;rfl):PE X (.ListComp elt [⟨target,iter,[c],0⟩] scope pos) (QP N.length wi g tt te):=
 RW hc hk (λx=>⟨λz=>hcell _ (PySem.mem_of_lookup z) rfl,λz=>hfree _ (PySem.mem_of_lookup z) rfl⟩) hfree hcell hnames hi hg ht he hs
def spComb:Sp:=λvs H Q _=>∃(a b:Addr) (u d:Rw) (l:Nat),vs=[.ref a,.ref b,.int l]/\H a=some (.lst (u.map V.int))/\H b=some (.lst (d.map V.int))/\u.length=d.length/\l<u.length/\u.length<=1000/\(∀i∈u,i.natAbs<2^50000)/\(∀i∈d,i.natAbs<2^50000)/\
 ∀(p:Addr) (H':Hp),H p=none->Same H H'->H' p=some (.lst ((yL u d l).map V.int))->Q (.ref p) H'
theorem vA{r:Rw}{l:Nat}(h:l<r.length):r.getD l 0∈r:=by
 rw[gA,gG h];exact mU h
theorem scCb:FnScope ["up","down","letter"] ["up","down","letter"] (jL LW):=⟨rfl,rfl,rfl,by decide +kernel,rfl,by decide +kernel,by decide +kernel⟩
theorem WN(F:Fun K "combined" "combined" LW f fd)(T:Txt mg):FnOk P w K mg base CX0 1 f fd ["up","down","letter"] spComb:=by
 refine F.ok scCb (λvs H Q E h=>?_) (λcdv A outer s H vs Q E hr h=>?_)
 ·obtain⟨a,b,u,d,l,rfl,_⟩:=h
  rfl
 ·obtain⟨a,b,u,d,l,rfl,ha,hb,hl,hll,h1000,bu,bd,go⟩:=h;refine⟨_,jE (jP (yF (own:=2) (idx:=[0,1,2]) (N:=["first","second","up","down","letter"]) rfl rfl rfl (by decide +kernel) (by decide +kernel) (vV (by intro y hy;simp only[nP,mR,or_false]at hy;rcases hy with rfl | rfl | rfl<;>rfl)) (vO rfl) rfl (NV rfl rfl rfl ⟨rfl,rfl,rfl,rfl⟩ ⟨rfl,rfl,rfl,rfl⟩ ⟨rfl,rfl,rfl,rfl⟩) (LZ (by rfl) T.zip (jA (pv 0) (jA (pv 1) jC))) (λC fp s2 H2=>show PG (jJ _ ["first","second","up","down","letter"] _ _ C fp s2 H2) _ (KQ K 2 (yI (kR 0) (yI (kR 1) gNil)))from qW (X:=jJ _ ["first","second","up","down","letter"] _ _ C fp s2 H2) rfl (jO (jI (i:=0) (show List.Nodup (["first","second","up","down","letter"]:List Str) by decide +kernel) rfl (Or.inl rfl) (Or.inr rfl)) (jO (jI (i:=1) (show List.Nodup (["first","second","up","down","letter"]:List Str) by decide +kernel) rfl (Or.inl rfl) (Or.inr rfl)) kS))) (λC fp s2 H2=>jK kJ (jK qH (pv 0) (vI qJ (jQ (show IxR (jJ _ ["first","second","up","down","letter"] _ _ C fp s2 H2) (AE K)from jW) (pv 3) (pv 4) (λ_ _=>rfl)))) (jK qH (pv 1) (jQ (show IxR (jJ _ ["first","second","up","down","letter"] _ _ C fp s2 H2) (AE K)from jW) (pv 2) (pv 4) (λ_ _=>rfl)))))), ?_⟩;try dsimp only[cxK]
  have up5:∀{i:Int},i.natAbs<2^50000->i.natAbs<2^100000:=λh=>kH h (by decide);have lz:l<d.length:=by omega
  refine⟨_,rfl,_,rfl,a,b,rfl,⟨_,SqL.of ha⟩,⟨_,SqL.of hb⟩,λp H1 n1 s1 e1=>?_⟩;refine PX (ts:=u.map V.int) (us:=d.map V.int) (CmI (λk=>((yL u d l).take k).map V.int) p H) (by simp [hl]) (by rw[mY,<-hl];exact hU h1000 (by decide)) ⟨s1,e1,rfl⟩ (λi ys H2 h=>⟨SqL.of (h.s _ _ ha),SqL.of (h.s _ _ hb),h.e⟩) ?_ ?_
  ·rintro k m ys x y c H2 hx hy hm hyl ⟨s2,h2,ey⟩ hc;rw[mH]at hx hy;obtain⟨x',hx',rfl⟩:=Option.map_eq_some_iff.mp hx;obtain⟨y',hy',rfl⟩:=Option.map_eq_some_iff.mp hy;have s3:Same H2 (upd H2 c (.tup [.int x',.int y'])):=kF _ hc;have e3:(upd H2 c (.tup [.int x',.int y'])) c=some (.tup [.int x',.int y']):=jF;generalize upd H2 c (.tup [.int x',.int y'])=H3 at s3 e3;have s23:=s2.trans s3;have dl:=bd _ (vA lz);have ul:=bu _ (vA hll);refine⟨c,_,rfl,SqT.of e3,rfl,_,_,rfl,_,_,rfl,rfl,MR, ?_⟩;refine⟨_,rfl,_,rfl,_,rfl,b,_,_,_,rfl,rfl,SqL.of (s23 _ _ hb),vM lz,_,rfl,_,_,rfl,rfl,⟨up5 (bu _ (gS hx')),up5 (by rw[nK];exact dl)⟩, ?_⟩;refine⟨_,rfl,_,rfl,_,rfl,a,_,_,_,rfl,rfl,SqL.of (s23 _ _ ha),vM hll,_,_,rfl,rfl,⟨up5 (bd _ (gS hy')),up5 ul⟩,_,_,rfl,rfl, ?_⟩;refine qA (by rw[mH,hy'];rfl) hm hyl (s3 _ _ h2) ⟨kQ s23 n1,jF, ?_⟩;rw[ey,mJ,mZ]
   congr 1
   have:(yL u d l)[k]? = some (x' * -(d.getD l 0)+y'*u.getD l 0):=by unfold yL;rw[List.getElem?_zipWith,hx',hy']
   rw[this]
   rfl
  ·rintro ys H2 hyl ⟨s2,h2,ey⟩;have el:(yL u d l).length=(d.map V.int).length:=by rw[wX hl,mY,hl]
   rw[<-el,mS]at ey;exact go p H2 n1 s2 (by rw[h2,ey])
def RR(H:Hp)(v:V)(r:Rw):Prop:=∃p,v=.ref p/\H p=some (.lst (r.map V.int))
theorem RR.same{H H':Hp}{v:V}{r:Rw}(h:RR H v r)(s:Same H H'):RR H' v r:=let ⟨p,e,q⟩:=h;⟨p,e,s _ _ q⟩
structure FlI(H1:Hp)(q:Addr)(af:List Rw)(pr:Rw->Bool)(i:Nat)(ys:List V)(H2:Hp):Prop where
 s:Same H1 H2
 e:H2 q=some (.lst ys)
 n:ys.length<=i
 pr:Paired (RR H1) ys ((af.take i).filter pr)
theorem dFlt{K:tX}{a:Addr}{xs:List V}{af:List Rw}{H1:Hp}{σ:L2.St}{l:Nat}{tt:TT}{pr:Rw->Bool}{Q:VK}(e0:σ[0]? = some (some (.ref a)))(e1:σ[1]? = some (some (.int l)))(rp:RwsP H1 a xs af)(hl:∀r∈af,l<r.length)(hz:af.length<=3200)
  (ht:∀(p:Addr) (r:Rw) (H2:Hp) (F:Bool->Hp->Prop),H2 p=some (.lst (r.map V.int))->l<r.length->F (pr r) H2->tt [some (.ref p),some (.int l)] H2 F) (go:∀(q:Addr) (ys:List V) (H':Hp),H1 q=none->Same H1 H'->RwsP H' q ys (af.filter pr)->Q (.ref q) H'):EO 1 [1] (TM K (kK 0)) (kR 0) tt (kK 0) σ H1 Q:=by
 have lx:xs.length=af.length:=Paired.length rp.pr;refine⟨_,e0,a,rfl,⟨_,SqL.of rp.at'⟩,λq H2 n2 s2 e2=>?_⟩;have es:(List.replicate 1 none++[1].map λj=>(σ[j]?).getD none:L2.St)=[none,some (.int l)]:=by
  show none::[(σ[1]?).getD none]=_;rw[e1];rfl
 rw[es];refine IS (K:=K) (a:=a) (xs:=xs) (FlI H1 q af pr) (by rw[lx];exact hU hz (by decide)) ⟨s2,e2,tL _,.nil⟩ (λi ys H3 h=>⟨SqL.of (h.s _ _ rp.at'),h.e,h.n⟩) ?_ ?_
 ·intro i m ys x H3 hx hm h;obtain⟨r,hr,p,rfl,er⟩:=Paired.at rp.pr hx;have rm:=gS hr;refine⟨uT,ht p r H3 _ (h.s _ _ er) (hl r rm) ?_⟩;have tk:(af.take (i+1)).filter pr=(af.take i).filter pr++[r].filter pr:=by rw[mJ,hr,List.filter_append];rfl
  cases hp:pr r with
  | true=>
   refine FP ⟨_,rfl,h.e,AX hx hm ⟨kQ h.s n2,jF,by rw[hV,gR];have:=h.n;omega, ?_⟩⟩;rw[tk,List.filter_cons_of_pos hp,List.filter_nil];exact Paired.app h.pr (.cons ⟨p,rfl,er⟩ .nil)
  | false=>
   refine AF (AX hx hm ⟨h.s,h.e,by have:=h.n;omega, ?_⟩);rw[tk,List.filter_cons_of_neg (by rw[hp];decide),List.filter_nil,List.append_nil];exact h.pr
 ·intro ys H3 h;have:=h.pr;rw[lx,mS]at this;exact go q ys H3 n2 h.s ⟨h.e,Paired.to (λ_ _ k=>k.same h.s) this⟩
def wJ(m l:Nat)(F:List (List Nat×Rw))(r:Rw):List (List Nat×Rw):=if (vK m r).length<=l+2/\vK m r∉F.map (·.1)then F++[(vK m r,r)]else F
theorem wI(m l:Nat):∀(rs:List Rw) (F:List (List Nat×Rw)),zY m l F rs=rs.foldl (wJ m l) F
 | [],_=>rfl
 | r::rs,F=>by
  show(if _ then _ else _)=rs.foldl (wJ m l) (wJ m l F r);unfold wJ;split
  ·exact wI m l rs _
  ·exact wI m l rs _
def ikN(b:List Nat):List Key:=LwD.ik (b.map λ(i:Nat)=>((i:Nat):Int))
theorem MT{b c:List Nat}(h:ikN b=ikN c):b=c:=by
 have:=KP h;exact(List.map_inj_right (f:=λ(i:Nat)=>((i:Nat):Int)) (λ_ _ e=>by omega)).mp this
def KeptD(H:Hp)(ag:List (List Key×V))(F:List (List Nat×Rw)):Prop:=Paired (λkv x=>kv.1=ikN x.1/\RR H kv.2 x.2) ag F
theorem kd_val{H:Hp} :∀{ag:List (List Key×V)} {F:List (List Nat×Rw)},KeptD H ag F->∀(b:List Nat),((xC ag (ikN b))=none↔b∉F.map (·.1)):=by
 intro ag F h b;induction h with
 | nil=>exact⟨(λ_ z=>nomatch z),λ_=>rfl⟩
 | @cons kv x ag F k t ih=>
  unfold xC at ih ⊢;rw[List.find?_cons];by_cases e:kv.1=ikN b
  ·have xb:x.1=b:=MT (k.1.symm.trans e);simp [e,xb]
  ·have xb:x.1≠b:=λz=>e (by rw[k.1,z]);simp only[nA e];rw[ih];simp [Ne.symm xb]
theorem kd_put{H:Hp}{ag:List (List Key×V)}{F:List (List Nat×Rw)}{b:List Nat}{r:Rw}{v:V}(h:KeptD H ag F)(n:b∉F.map (·.1))(hv:RR H v r):KeptD H (yV ag (ikN b) v) (F++[(b,r)]):=by
 rw[FC]
 ·exact Paired.app h (.cons ⟨rfl,hv⟩ .nil)
 ·intro p hp z;obtain⟨i,hi⟩:=gQ.mp hp;obtain⟨x,hx,k,_⟩:=Paired.at h hi;exact n (tD.mpr ⟨x,gS hx,MT (k.symm.trans z)⟩)
structure BeI(H:Hp)(q:Addr)(r:Rw)(m i:Nat)(ys:List V)(H2:Hp):Prop where
 s:Same H H2
 e:H2 q=some (.lst ys)
 y:ys=(((List.range i).filter λj=>decide (r.getD (m+2+j) 0≠0)).map λ(j:Nat)=>V.int (j:Int))
structure PrI(H1:Hp)(q:Addr)(us ds:List Rw)(l i:Nat)(H2:Hp):Prop where
 s:Same H1 H2
 ex:∃ys,H2 q=some (.lst ys)/\Paired (RR H2) ys (zW l (us.take i) ds)
structure PjI(H1:Hp)(q:Addr)(pu dl:Addr)(us ds:List Rw)(u:Rw)(l i j:Nat)(ys:List V)(σ:L2.St)(H2:Hp):Prop where
 s:Same H1 H2
 e:H2 q=some (.lst ys)
 pr:Paired (RR H2) ys (zW l (us.take i) ds++(ds.take j).map λd=>yL u d l)
 st:∃x,σ=[some (.ref pu),x,some (.int l),some (.ref dl)]
theorem CZ(l:Nat)(us ds:List Rw):(zW l us ds).length=us.length*ds.length:=by
 unfold zW;induction us with
 | nil=>simp
 | cons u us ih=>rw[List.flatMap_cons,hV,ih,mY,mT,Nat.succ_mul,Nat.add_comm]
theorem KC{l i:Nat}{us ds:List Rw}{u:Rw}(h:us[i]? = some u):zW l (us.take (i+1)) ds=zW l (us.take i) ds++ds.map λd=>yL u d l:=by
 unfold zW;rw[mJ,h,List.flatMap_append];simp
theorem BJ{H:Hp}{q:Addr}{ys:List V}{o:HO}{zs:List V}{R:List Rw}(hq:H q=some (.lst ys))(ne:∀v∈zs,v≠.ref q)(h:Paired (RR H) zs R):Paired (RR (upd H q o)) zs R:=by
 induction h with
 | nil=>exact .nil
 | cons k t ih=>
  refine .cons ?_ (ih λv hv=>ne v (gT _ hv));obtain⟨p,rfl,e⟩:=k;exact⟨p,rfl,by rw[jH λz=>ne _ (mF ..) (by rw[z])];exact e⟩
theorem RE{H:Hp}{q:Addr}{ys:List V}{R:List Rw}(hq:H q=some (.lst ys))(h:Paired (RR H) ys R):∀v∈ys,v≠.ref q:=λv hv z=>by
 obtain⟨i,hi⟩:=gQ.mp hv;obtain⟨r,_,p,e,q'⟩:=Paired.at h hi;rw[z]at e;cases e;rw[hq]at q';have:ys=r.map V.int:=by injection (Option.some.inj q')
 rw[this]at hv;obtain⟨n,_,y⟩:=tD.mp hv;rw[z]at y;cases y
inductive TkI(K:tX)(H:Hp)(a dn cn:Addr)(ycs:List V)(l m:Nat)(R:List Rw)(d:Addr)(i:Nat):L2.St->Hp->Prop where
 | mk {H':Hp} {ag:List (List Key×V)} {F:List (List Nat×Rw)} {u3 u5 u7 u8:Option V} (s:Same H H') (ed:H' d=some (.dT ag)) (kd:KeptD H' ag F) (ec:H' cn=some (.lst ycs)) (pc:Paired (RR H') ycs R) (eF:F=(R.take i).foldl (wJ m l) []) (nl:F.length<=i):TkI K H a dn cn ycs l m R d i [some (.ref a),some (.int l),some (.int m),u3,some (.ref dn),u5,some (.ref d),u7,u8] H'
def spTk:Sp:=λvs H Q _=>∃(a:Addr) (l m S:Nat) (xs:List V) (af:List Rw),vs=[.ref a,.int l,.int m]/\RwsP H a xs af/\(∀r∈af,r.length=m+2+S)/\l<m/\m<=4/\S<=20/\af.length<=3200/\(∀r∈af,∀i∈r,i.natAbs<2^50000)/\
 ∀(p:Addr) (ys:List V) (H':Hp),H p=none->Same H H'->RwsP H' p ys (yX m l af)->Q (.ref p) H'
theorem scTk:FnScope ["rows","letter","many","ups","downs","others","found","row","bearers"] ["rows","letter","many"] (jL EW):=⟨rfl,rfl,rfl,by decide +kernel,rfl,by decide +kernel,by decide +kernel⟩
theorem ok_tk{fC:Addr}{fdC:FuncData}(F:Fun K "taken_away" "taken_away" EW f fd)(T:Txt mg)(DC:Df K mg "combined" LW ["up","down","letter"] fC fdC)(GC:FnOk P w K mg base CX0 1 fC fdC ["up","down","letter"] spComb):FnOk P w K mg base CX0 2 f fd ["rows","letter","many"] spTk:=by
 refine F.ok scTk (λvs H Q E h=>?_) (λcdv A outer s H vs Q E hr h=>?_)
 ·obtain⟨a,l,m,S,xs,af,rfl,_⟩:=h
  rfl
 ·obtain⟨a,l,m,S,xs,af,rfl,rp,hlen,hlm,m4,S20,hR,hb,go⟩:=h;have hu:_+1<cLine:=hU (Nat.add_le_add_left (by decide:1<=64) _) hr.units;refine⟨_,jB (uN (i:=3) scTk.nd rfl (Or.inl rfl) (own:=1) (idx:=[1]) (N:=["row","letter"]) rfl rfl rfl (by decide +kernel) (by decide +kernel) (vV (by intro y hy;simp only[nP,mR,or_false]at hy;rcases hy with rfl;rfl)) (vO rfl) rfl (xN rfl ⟨rfl,rfl,rfl,rfl⟩) (kX (pv 0)) (λC fp s2 H2=>(jI (i:=0) (show List.Nodup (["row","letter"]:List Str) by decide +kernel) rfl (Or.inl rfl) (Or.inr rfl))) (λC fp s2 H2=>jT uP (jQ (show IxR (jJ _ ["row","letter"] _ _ C fp s2 H2) (AE K)from jW) (pv 0) (pv 1) (λ_ _=>rfl)) jD (jY _)) (λC fp s2 H2=>pv 0)) (jB (jM (i:=4) scTk.nd rfl (Or.inr rfl) (ON (own:=1) (idx:=[1]) (N:=["row","letter"]) rfl rfl rfl (by decide +kernel) (by decide +kernel) (vV (by intro y hy;simp only[nP,mR,or_false]at hy;rcases hy with rfl;rfl)) (vO rfl) rfl (xN rfl ⟨rfl,rfl,rfl,rfl⟩) (kX (pv 0)) (λC fp s2 H2=>(jI (i:=0) (show List.Nodup (["row","letter"]:List Str) by decide +kernel) rfl (Or.inl rfl) (Or.inr rfl))) (λC fp s2 H2=>jT zX (jQ (show IxR (jJ _ ["row","letter"] _ _ C fp s2 H2) (AE K)from jW) (pv 0) (pv 1) (λ_ _=>rfl)) jD (jY _)) (λC fp s2 H2=>pv 0))) (jB (uN (i:=5) scTk.nd rfl (Or.inl rfl) (own:=1) (idx:=[1]) (N:=["row","letter"]) rfl rfl rfl (by decide +kernel) (by decide +kernel) (vV (by intro y hy;simp only[nP,mR,or_false]at hy;rcases hy with rfl;rfl)) (vO rfl) rfl (xN rfl ⟨rfl,rfl,rfl,rfl⟩) (kX (pv 0)) (λC fp s2 H2=>(jI (i:=0) (show List.Nodup (["row","letter"]:List Str) by decide +kernel) rfl (Or.inl rfl) (Or.inr rfl))) (λC fp s2 H2=>jT xX (jQ (show IxR (jJ _ ["row","letter"] _ _ C fp s2 H2) (AE K)from jW) (pv 0) (pv 1) (λ_ _=>rfl)) jD (jY _)) (λC fp s2 H2=>pv 0)) (jB (jM (i:=6) scTk.nd rfl (Or.inl rfl) (HQ)) (jB (qZ PassesOwn.never rfl (kX (jK qY (pv 5) (OO (own:=2) (idx:=[1,4]) (N:=["up","down","letter","downs"]) rfl rfl rfl (by decide +kernel) (by decide +kernel) (vV (by intro y hy;simp only[nP,mR,or_false]at hy;rcases hy with rfl | rfl<;>rfl)) (vO rfl) rfl (EL rfl rfl ⟨rfl,rfl,rfl,rfl⟩ ⟨rfl,rfl,rfl,rfl⟩) (kX (pv 3)) (λC fp s2 H2=>(jI (i:=0) (show List.Nodup (["up","down","letter","downs"]:List Str) by decide +kernel) rfl (Or.inl rfl) (Or.inr rfl))) (λC fp s2 H2=>show PI (jJ _ ["up","down","letter","downs"] _ _ C fp s2 H2) _ _ (TM K (kK 3))from kX (pv 3)) (λC fp s2 H2=>(jI (i:=1) (show List.Nodup (["up","down","letter","downs"]:List Str) by decide +kernel) rfl (Or.inl rfl) (Or.inr rfl))) (λC fp s2 H2=>jG GC hr rfl DC.m DC.F.kp DC.b .nil jR (jA (pv 0) (jA (pv 1) (jA (pv 2) jC))))))) (jI (i:=7) scTk.nd rfl (Or.inl rfl)) (jB (jM (i:=8) scTk.nd rfl (Or.inl rfl) (qN vY (by rfl) T.tup boot_tuple (jA (OM (N:=["at","share"]) rfl rfl (by decide +kernel) (by decide +kernel) (by decide +kernel) (HN (by rfl) T.enum (jA (qM qK (pv 7) (qG (jK kJ (pv 2) jD)) vW) jC)) (λC fp s2 H2=>show PG (kO _ ["at","share"] _ C fp s2 H2) _ (KQ K 2 (yI (kR 0) (yI (kR 1) gNil)))from qW (X:=kO _ ["at","share"] _ C fp s2 H2) rfl (jO (jI (i:=0) (show List.Nodup (["at","share"]:List Str) by decide +kernel) rfl (Or.inl rfl) (Or.inl rfl)) (jO (jI (i:=1) (show List.Nodup (["at","share"]:List Str) by decide +kernel) rfl (Or.inl rfl) (Or.inl rfl)) kS))) (λC fp s2 H2=>jT HR (pv 1) jD (jY _)) (λC fp s2 H2=>pv 0)) jC))) (jE (kU (PW.pt (FB (jT op_le (qC qS (by rfl) T.len PySem.boot_len (jA (pv 8) jC)) (jK kJ (pv 1) jD) (jY _)) (AS (wF (OP hu (pv 8) (pv 6)))))) (jE (FD hu (pv 6) (pv 8) (pv 7) rfl)) kC)))) (jE (jP (LwD.RS rfl (by rfl) T.lst (pv 6)))))))), ?_⟩
  try dsimp only[cxK]
  have ll:∀r∈af,l<r.length:=λr hr'=>by rw[hlen r hr'];omega
  refine dFlt (pr:=λr=>decide (r.getD l 0>0)) rfl rfl rp ll hR (λp r H2 F e h k=>⟨_,rfl,_,rfl,p,_,_,_,rfl,rfl,SqL.of e,vM h,_,_,rfl,rfl,_,rfl,k⟩) λu1 y1 H1 n1 s1 p1=>?_;refine dFlt (pr:=λr=>decide (r.getD l 0<0)) rfl rfl (rp.same s1) ll hR (λp r H2 F e h k=>⟨_,rfl,_,rfl,p,_,_,_,rfl,rfl,SqL.of e,vM h,_,_,rfl,rfl,_,rfl,k⟩) λu2 y2 H2 n2 s2 p2=>?_;refine dFlt (pr:=λr=>decide (r.getD l 0=0)) rfl rfl (rp.same (s1.trans s2)) ll hR (λp r H2 F e h k=>⟨_,rfl,_,rfl,p,_,_,_,rfl,rfl,SqL.of e,vM h,rfl,_,rfl,by rw[vR];exact k⟩) λu3 y3 H3 n3 s3 p3=>?_;intro d nd;have s4:Same H3 (upd H3 d (.dT [])):=kF _ nd;have e4:(upd H3 d (.dT [])) d=some (.dT []):=jF;generalize upd H3 d (.dT [])=H4 at s4 e4;have sH4:Same H H4:=s1.trans (s2.trans (s3.trans s4));have q1:RwsP H4 u1 y1 (ups l af):=p1.same (s2.trans (s3.trans s4));have q2:RwsP H4 u2 y2 (zK l af):=p2.same (s3.trans s4);have q3:RwsP H4 u3 y3 (IJ l af):=p3.same s4;have ul:(ups l af).length<=af.length:=List.length_filter_le ..;have dl:(zK l af).length<=af.length:=List.length_filter_le ..;have fl:(IJ l af).length<=af.length:=List.length_filter_le ..;have umem:∀r∈ups l af,r∈af:=λr h=>(List.mem_filter.mp h).1;have dmem:∀r∈zK l af,r∈af:=λr h=>(List.mem_filter.mp h).1;have pl:∀i,(zW l ((ups l af).take i) (zK l af)).length<=10240000:=λi=>by
   rw[CZ];have:((ups l af).take i).length<=3200:=by rw[mQ];omega
   exact nY (nJ this (nY dl hR)) (by decide)
  refine⟨_,rfl,_,rfl,u1,rfl,⟨_,SqL.of q1.at'⟩,λq H5 n5 s5 e5=>?_⟩;refine IT (K:=K) (a:=u1) (xs:=y1) (PrI H4 q (ups l af) (zK l af) l) ⟨s5,_,e5,.nil⟩ (λi H6 h=>SqL.of (h.s _ _ q1.at')) ?_ ?_
  ·intro i m' x H6 hx hm h;obtain⟨u,hu',pu,rfl,eu⟩:=Paired.at q1.pr hx;obtain⟨ys6,e6,pr6⟩:=h.ex;refine⟨_,rfl,u2,rfl,⟨_,SqL.of (h.s _ _ q2.at')⟩, ?_⟩;refine KN (K:=K) (b:=u2) (zs:=y2) (ys0:=ys6) (PjI H4 q pu u2 (ups l af) (zK l af) u l i) ⟨h.s,e6,by rw[List.take_zero,List.map_nil,List.append_nil];exact pr6,_,rfl⟩ (λj ys σ H7 h2=>⟨SqL.of (h2.s _ _ q2.at'),h2.e, ?_⟩) ?_ ?_
   ·rw[Paired.length h2.pr,hV,mY,mQ,sizeLine_eq];have:=pl i;omega
   ·intro j m2 ys z σ H7 hz hm2 h2;obtain⟨dr,hd',pd,rfl,ed⟩:=Paired.at q2.pr hz;obtain⟨xx,rfl⟩:=h2.st;have um:=umem u (gS hu');have dm:=dmem dr (gS hd');have lu:=hlen u um;have ld:=hlen dr dm;refine⟨_,rfl,_,rfl,_,rfl,pu,pd,u,dr,l,rfl,h2.s _ _ eu,h2.s _ _ ed,lu.trans ld.symm,by omega,by omega,hb u um,hb dr dm,λp8 H8 n8 s8 e8=>⟨s8 _ _ h2.e,UP hz hm2 ⟨kQ (h2.s.trans s8) n5,jF, ?_,_,rfl⟩⟩⟩;have tk:(zK l af).take (j+1)=(zK l af).take j++[dr]:=by rw[mJ,hd'];rfl
    rw[tk,mZ,<-mK];refine Paired.app (BJ (s8 _ _ h2.e) (RE h2.e h2.pr) (Paired.to (λ_ _ k=>k.same s8) h2.pr)) (.cons ⟨p8,rfl, ?_⟩ .nil);rw[jH λz=>by rw[z,h2.e]at n8;cases n8];exact e8
   ·intro ys σ H7 h2;obtain⟨xx,rfl⟩:=h2.st;have ix:i<y1.length:=(gE.mp hx).1;refine⟨MR,_,by omega,rfl,ix,h2.s,ys,h2.e, ?_⟩;have:=h2.pr;rw[Paired.length q2.pr,mS]at this;rw[KC hu'];exact this
  intro H6 h;obtain⟨ys6,e6,pr6⟩:=h.ex;rw[Paired.length q1.pr,mS]at pr6;have l6:ys6.length<=10240000:=by rw[Paired.length pr6];have:=pl (ups l af).length;rw[mS]at this;exact this
  refine⟨u3,q,y3,ys6,rfl,rfl,h.s _ _ q3.at',e6, ?_,λcn H7 n7 s7 e7=>⟨cn,rfl,⟨_,SqL.of e7⟩, ?_⟩⟩
  ·rw[Paired.length q3.pr,sizeLine_eq];omega
  have s47:Same H4 H7:=h.s.trans s7;have pc7:Paired (RR H7) (y3++ys6) (zV l af):=Paired.app (Paired.to (λ_ _ k=>RR.same k s47) q3.pr) (Paired.to (λ_ _ k=>k.same s7) pr6);have cl:(y3++ys6).length=(zV l af).length:=Paired.length pc7;have cok:∀r∈zV l af,r.length=m+2+S:=λr hr'=>by
   rcases mem_cand.mp hr' with⟨h1,_⟩ | ⟨u,d',⟨h1,_⟩,⟨h2,_⟩,rfl⟩
   ·exact hlen r h1
   ·rw[wX ((hlen u h1).trans (hlen d' h2).symm)];exact hlen u h1
  refine vP (K:=K) (a:=cn) (xs:=y3++ys6) (TkI K H a u2 cn (y3++ys6) l m (zV l af) d) (.mk (F:=[]) (sH4.trans s47) (s47 _ _ e4) .nil e7 pc7 rfl uV) (λi σ H8 _ h=>?_) (λi x σ H8 hx h=>?_) (fun σ H8 h=>?_)
  ·obtain⟨_,_,_,ec,_,_,_⟩:=h;exact SqL.of ec
  ·obtain⟨s8,ed,kd,ec,pc,eF,nl⟩:=h;rename_i ag FF v3 v5 v7 v8;obtain⟨r,hr',p,rfl,er⟩:=Paired.at pc hx;have rm:=gS hr';have rL:=cok r rm;refine⟨_,rfl,_,rfl,_,_,rfl,rfl,_,rfl,p,_,rfl,SqL.of er,λq1' Ha na sa ea=>⟨q1',rfl,⟨_,SqL.of ea⟩,λq2' Hb nb sb eb=>?_⟩⟩;have cd:xJ (r.map V.int) (some ((m:Int)+2)) none=(r.drop (m+2)).map V.int:=by
    rw[show((m:Int)+2)=((m+2:Nat):Int) by omega,zL,List.map_drop]
   rw[cd]at ea;refine IR (K:=K) (a:=q1') (xs:=(r.drop (m+2)).map V.int) (BeI Ha q2' r m) (by rw[mY,List.length_drop,rL,sizeLine_eq];omega) ⟨sb,eb,rfl⟩ (λj ys H9 h=>⟨SqL.of (h.s _ _ ea),h.e, ?_⟩) ?_ ?_
   ·rw[h.y,mY];exact nY (List.length_filter_le ..) (by rw[mM];exact tL _)
   ·intro j m' ys x c H9 hx' hm h hc;rw[mH]at hx';obtain⟨sv,hsv,rfl⟩:=Option.map_eq_some_iff.mp hx';have gj:r.getD (m+2+j) 0=sv:=by rw[<-DU,gA,hsv];rfl
    have s10:Same H9 (upd H9 c (.tup [.int j,.int sv])):=kF _ hc;refine⟨c,_,rfl,SqT.of jF,rfl,_,_,rfl,_,_,rfl,rfl,_,rfl,rfl,_,rfl, ?_⟩;rw[vR];have tk:∀b:Bool,decide (r.getD (m+2+j) 0≠0)=b->(List.range (j+1)).filter (λj=>decide (r.getD (m+2+j) 0≠0))=(List.range j).filter (λj=>decide (r.getD (m+2+j) 0≠0))++(if b then [j]else []):=λb hb=>by
     rw[nE,List.filter_append,mX,hb,List.filter_nil]
    by_cases z:sv=0
    ·refine vF (by rw[nG z];rfl) (AX (by rw[mH,hsv];rfl) hm ⟨h.s.trans s10,s10 _ _ h.e, ?_⟩);rw[h.y,tk false (by rw[gj,z];rfl)];simp
    ·refine vS (by rw[nA z];rfl) ⟨_,rfl,s10 _ _ h.e,AX (by rw[mH,hsv];rfl) hm ⟨kQ (h.s.trans s10) nb,jF, ?_⟩⟩;rw[h.y,tk true (by rw[gj];exact nG z)];simp
   intro ys H9 hB;have yB:ys=(vK m r).map λ(j:Nat)=>V.int (j:Int):=by
    rw[hB.y,mY,List.length_drop]
    rfl
   refine⟨q2',ys,rfl,.inl ⟨SqL.of hB.e,λt nt=>?_⟩⟩;have s9t:Same H9 (upd H9 t (.tup ys)):=kF _ nt;have et:(upd H9 t (.tup ys)) t=some (.tup ys):=jF;generalize upd H9 t (.tup ys)=Ht at s9t et;have s8t:Same H8 Ht:=sa.trans (hB.s.trans s9t);dsimp only[kR];have yi:ys=((vK m r).map λ(j:Nat)=>((j:Nat):Int)).map V.int:=by rw[yB,tJ];rfl
   have yl:ys.length=(vK m r).length:=by rw[yB,mY]
   have tb:Ht t=some (.tup ((ikN (vK m r)).map kV)):=by rw[ikN,LwD.wK,<-yi];exact et
   have dg:DGet Ht d (.ref t) (xC ag (ikN (vK m r))):=.inr ⟨ag,ikN (vK m r),t,.inl (s8t _ _ ed),rfl,tb,rfl⟩;have vn:=kd_val kd (vK m r);have kd':KeptD Ht ag FF:=Paired.to (λ_ _ ⟨k1,k2⟩=>⟨k1,k2.same s8t⟩) kd;have tk:((zV l af).take (i+1)).foldl (wJ m l) []=wJ m l FF r:=by
    rw[mJ,hr',List.foldl_append,<-eF]
    rfl
   have stay:¬((vK m r).length<=l+2/\vK m r∉FF.map (·.1))->TkI K H a u2 cn (y3++ys6) l m (zV l af) d (i+1) [some (.ref a),some (.int l),some (.int m),v3,some (.ref u2),v5,some (.ref d),some (.ref p),some (.ref t)] Ht:=λnc=>
    .mk (s8.trans s8t) (s8t _ _ ed) kd' (s8t _ _ ec) (Paired.to (λ_ _ k=>RR.same k s8t) pc) (by rw[tk];exact(tV nc).symm) (by omega)
   refine⟨_,rfl,t,ys,rfl,.inr (SqT.of et),_,rfl,_,_,rfl,rfl,_,_,rfl,rfl,_,rfl, ?_⟩;by_cases c1:(vK m r).length<=l+2
   ·refine vS (nG (by rw[yl];omega)) ⟨_,rfl,_,rfl,d,_,rfl,dg,_,rfl, ?_⟩;cases hv:xC ag (ikN (vK m r))with
    | some w'=>
     refine AF (stay λc=>?_);rw[vn.mpr c.2]at hv;cases hv
    | none=>
     have nin:=vn.mp hv;have hd0:H d=none:=(s1.trans (s2.trans s3)).free nd;have kl:ag.length<sizeLine:=by rw[Paired.length kd,sizeLine_eq];have:=(gE.mp hx).1;rw[hV,Paired.length q3.pr]at this;omega
     have ru:∀{v:V} {x:Rw},RR Ht v x->RR (upd Ht d (.dT (yV ag (ikN (vK m r)) (.ref p)))) v x:=fun {v x} ⟨p',e',q'⟩=>⟨p',e',by rw[jH λz=>by rw[z,s8t _ _ ed]at q';cases q'];exact q'⟩;refine FP ⟨_,rfl,_,rfl,_,rfl,d,_,rfl,.inr ⟨ag,ikN (vK m r),t,s8t _ _ ed,rfl,tb,kl,rfl⟩, ?_⟩;refine .mk (kQ (s8.trans s8t) hd0) jF (Paired.to (λ_ _ ⟨k1,k2⟩=>⟨k1,ru k2⟩) (kd_put kd' nin ⟨p,rfl,s8t _ _ er⟩)) (by rw[jH λz=>by have:=s8t _ _ ec;rw[z,s8t _ _ ed]at this;cases this];exact s8t _ _ ec) (Paired.to (λ_ _ k=>ru (RR.same k s8t)) pc) (by rw[tk];exact(tW ⟨c1,nin⟩).symm) (by rw[hV,gR];omega)
   ·exact vF (nA (by rw[yl];omega)) (AF (stay λc=>c1 c.1))
  ·obtain⟨s8,ed,kd,ec,pc,eF,nl⟩:=h;rename_i ag FF v3 v5 v7 v8;rw[cl,mS]at eF;refine⟨_,rfl,d,ag,rfl,ed,λp9 H9 n9 s9 e9=>go p9 _ H9 (s8.free n9) (s8.trans s9) ⟨e9, ?_⟩⟩;unfold yX;rw[wI,<-eF];have:∀{ag:List (List Key×V)} {F:List (List Nat×Rw)},KeptD H8 ag F->Paired (λv r=>∃p,v=.ref p/\H9 p=some (.lst (r.map V.int))) (ag.map (·.2)) (F.map (·.2)):=λh=>by
    induction h with
    | nil=>exact .nil
    | cons k _ ih=>exact .cons (RR.same k.2 s9) ih
   exact this kd
theorem uK{u d:Rw}{l a b:Nat}(h:u.length=d.length)(hu:∀i∈u,i.natAbs<=2^a)(hd:∀i∈d,i.natAbs<=2^b):∀i∈yL u d l,i.natAbs<=2^(a+b+1):=λi hi=>by
 have g0:∀(r:Rw) (j n:Nat),(∀i∈r,i.natAbs<=2^n)->(r.getD j 0).natAbs<=2^n:=λr j n hr=>by
  by_cases hj:j<r.length
  ·exact hr _ (vA hj)
  ·rw[gA,gP (by omega)];exact tM _
 obtain⟨j,hj⟩:=gQ.mp hi;have e:=xV (l:=l) h j;rw[gA,hj,Option.getD_some]at e;rw[e];have h1:=nJ (g0 u j a hu) (g0 d l b hd);have h2:=nJ (g0 d j b hd) (g0 u l a hu);rw[<-tP,<-nH,Nat.add_comm b a]at h2;rw[<-tP,<-nK (d.getD l 0),<-nH]at h1;refine nY (Int.natAbs_add_le _ _) ?_;rw[Nat.pow_succ];omega
theorem FS{fs:List V}{i:Nat}{v:V}(h:fs.length=i+1)(hv:fs[i]? = some v):atI fs (-1)=some v:=by
 have:fs=fs.take i++[v]:=by
  have:=List.take_append_drop i fs;rw[List.drop_eq_getElem_cons (by omega),gM (by omega),(gE.mp hv).2]at this;exact this.symm
 rw[this];exact CG _ _
theorem uI(m l:Nat):∀(rs:List Rw) (F:List (List Nat×Rw)),(zY m l F rs).length<=F.length+rs.length
 | [],F=>tL _
 | r::rs,F=>by
  unfold zY;split
  ·have:=uI m l rs (F++[(vK m r,r)]);rw[hV,gR]at this;rw[mT];omega
  ·have:=uI m l rs F;rw[mT];omega
theorem CQ(m l:Nat)(af:List Rw):(yX m l af).length<=af.length+af.length*af.length:=by
 unfold yX;rw[mY];refine nY (uI m l _ []) ?_;unfold zV;rw[List.length_nil,Nat.zero_add,hV,CZ];have h1:(IJ l af).length<=af.length:=List.length_filter_le ..;have h2:(ups l af).length<=af.length:=List.length_filter_le ..;have h3:(zK l af).length<=af.length:=List.length_filter_le ..;have:=nJ h2 h3;omega
structure StB(m S:Nat)(e:Nat)(af:List Rw):Prop where
 len:∀r∈af,r.length=m+2+S
 bit:∀r∈af,∀i∈r,i.natAbs<=2^gB e
structure St0(m S:Nat)(af:List Rw):Prop where
 b:StB m S 0 af
 pr:∀u∈af,∀d∈af,0<u.getD 0 0->d.getD 0 0<0->(∀i∈u,i.natAbs<=2^200)∨∀i∈d,i.natAbs<=2^200
theorem gB_up(e:Nat):gB e<=gB (e+1):=by
 cases e with
 | zero=>decide
 | succ e=>show gB (e+1)<=2*gB (e+1)+1;omega
theorem StB.next{m S e:Nat}{af:List Rw}(h:StB m S e af)(hc:∀u∈af,∀d∈af,0<u.getD e 0->d.getD e 0<0->∀i∈yL u d e,i.natAbs<=2^gB (e+1)):StB m S (e+1) (yX m e af):=by
 refine⟨λr hr=>?_,λr hr i hi=>?_⟩
 ·rcases mem_cand.mp (uB hr)with⟨h1,_⟩ | ⟨u,d,⟨h1,_⟩,⟨h2,_⟩,rfl⟩
  ·exact h.len r h1
  ·rw[wX ((h.len u h1).trans (h.len d h2).symm)];exact h.len u h1
 ·rcases mem_cand.mp (uB hr)with⟨h1,_⟩ | ⟨u,d,⟨h1,p1⟩,⟨h2,p2⟩,rfl⟩
  ·exact nY (h.bit r h1 i hi) (gU (by decide) (gB_up e))
  ·exact hc u h1 d h2 p1 p2 i hi
theorem xL{m S:Nat}{af:List Rw}(h:St0 m S af):∀e,StB m S e (kD m af e)
 | 0=>h.b
 | 1=>h.b.next λu hu d hd p1 p2 i hi=>by
  have hl:=(h.b.len u hu).trans (h.b.len d hd).symm;rcases h.pr u hu d hd p1 p2 with k | k
  ·exact uK hl k (h.b.bit d hd) i hi
  ·exact uK hl (h.b.bit u hu) k i hi
 | e+2=>(xL h (e+1)).next λu hu d hd _ _ i hi=>by
  have hl:=((xL h (e+1)).len u hu).trans ((xL h (e+1)).len d hd).symm;refine nY (uK hl ((xL h (e+1)).bit u hu) ((xL h (e+1)).bit d hd) i hi) (gU (by decide) ?_);show gB (e+1)+gB (e+1)+1<=2*gB (e+1)+1;omega
theorem CU{m:Nat}{af:List Rw}(h:af.length<=7):(kD m af 1).length<=56/\(kD m af 2).length<=3192:=by
 have h1:=CQ m 0 af;have e1:(kD m af 1).length<=56:=by
  refine nY h1 ?_;have:=nJ h h;omega
 have h2:=CQ m 1 (kD m af 1);refine⟨e1,nY h2 ?_⟩;have:=nJ e1 e1;omega
theorem NX{m:Nat}{af:List Rw}(h:af.length<=7):∀e,e<=2->(kD m af e).length<=3200
 | 0,_=>by show af.length<=_;omega
 | 1,_=>by have:=(CU (m:=m) h).1;omega
 | 2,_=>by have:=(CU (m:=m) h).2;omega
 | e+3,h=>by omega
def spStg:Sp:=λvs H Q _=>∃(a:Addr) (m S:Nat) (xs:List V) (af:List Rw),vs=[.ref a,.int m]/\RwsP H a xs af/\St0 m S af/\m<=3/\S<=20/\af.length<=7/\
 ∀(p:Addr) (H':Hp),H p=none->Same H H'->StP H' p m (kD m af)->Q (.ref p) H'
inductive StI(H:Hp)(a p:Addr)(m:Nat)(af:List Rw)(i:Nat):L2.St->Hp->Prop where
 | mk {H':Hp} {u3:Option V} (s:Same H H') (st:∃fs,H' p=some (.lst fs)/\fs.length=i+1/\∀e,e<=i->∃pa xs,fs[e]? = some (.ref pa)/\RwsP H' pa xs (kD m af e)/\pa≠p/\∀v∈xs,v≠.ref p):StI H a p m af i [some (.ref a),some (.int m),some (.ref p),u3] H'
theorem TX{e:Nat}(h:e<=3):gB e<=3407:=by
 have:e=0∨e=1∨e=2∨e=3:=by omega
 rcases this with rfl | rfl | rfl | rfl<;>decide
theorem RwsP.put{H:Hp}{q:Addr}{ys:List V}{o:HO}{a:Addr}{xs:List V}{af:List Rw}(h:RwsP H a xs af)(hq:H q=some (.lst ys))(n1:a≠q)(n2:∀v∈xs,v≠.ref q):RwsP (upd H q o) a xs af:=
 ⟨by rw[jH n1];exact h.at',BJ hq n2 h.pr⟩
theorem scSt:FnScope ["rows","many","found","letter"] ["rows","many"] (jL zQ):=⟨rfl,rfl,rfl,by decide +kernel,rfl,by decide +kernel,by decide +kernel⟩
theorem ok_stg{fT:Addr}{fdT:FuncData}(F:Fun K "stages" "stages" zQ f fd)(T:Txt mg)(DT:Df K mg "taken_away" EW ["rows","letter","many"] fT fdT)(GT:FnOk P w K mg base CX0 2 fT fdT ["rows","letter","many"] spTk):FnOk P w K mg base CX0 3 f fd ["rows","many"] spStg:=by
 refine F.ok scSt (λvs H Q E h=>?_) (λcdv A outer s H vs Q E hr h=>?_)
 ·obtain⟨a,m,S,xs,af,rfl,_⟩:=h
  rfl
 ·obtain⟨a,m,S,xs,af,rfl,rp,sb,m3,S20,r7,go⟩:=h;refine⟨_,jB (jM (i:=2) scSt.nd rfl (Or.inl rfl) (kM (jA (pv 0) jC))) (jB (qZ PassesOwn.never rfl (vH (by rfl) T.rng (jA (pv 1) jC)) (jI (i:=3) scSt.nd rfl (Or.inl rfl)) (jE (xM (RZ PySem.F.plainAttrs_list PySem.F.slot_list_append PySem.F.type_list_append vC (pv 2) (jA (jG GT hr rfl DT.m DT.F.kp DT.b .nil jR (jA (jQ jW (pv 2) (vI qJ jD) (λ_ _=>rfl)) (jA (pv 3) (jA (pv 1) jC)))) jC))))) (jE (jP (pv 2)))), ?_⟩;try dsimp only[cxK]
  refine⟨_,rfl,uX,λp H1 n1 s1 e1=>?_⟩;refine⟨_,rfl,m,rfl,by omega,by omega, ?_⟩;refine yJ (n:=m) (StI H a p m af) (.mk s1 ⟨_,e1,rfl,λe he=>?_⟩) (λi σ H2 hi h=>?_) (fun σ H2 h=>?_)
  ·obtain rfl:e=0:=by omega
   refine⟨a,xs,rfl,rp.same s1,jX rp.at' n1,λv hv z=>?_⟩;obtain⟨k,hk⟩:=gQ.mp hv;obtain⟨r,_,p',e',q'⟩:=Paired.at rp.pr hk;rw[z]at e';cases e';rw[n1]at q';cases q'
  ·obtain⟨s2,st⟩:=h;rename_i u3;obtain⟨fs,f1,f2,f3⟩:=st;obtain⟨pa,ys,q1,q2,_,_⟩:=f3 i uV ;have sbi:=xL sb i;have last:=FS f2 q1;refine⟨_,rfl,.inl ⟨rfl,_,SqL.of f1⟩,_,rfl,_,rfl,p,_,_,_,rfl,rfl,SqL.of f1,last,_,rfl,_,rfl, ?_⟩;refine⟨pa,i,m,S,ys,_,by rw[Int.zero_add];rfl,q2,sbi.len,hi,by omega,S20,NX r7 i (by omega),λr hr' j hj=>hU (sbi.bit r hr' j hj) (gW (by decide) (by have:=TX (show i<=3 by omega);omega)),λp3 y3 H3 n3 s3 r3=>?_⟩;refine⟨p,_,_,rfl,rfl,s3 _ _ f1,by rw[f2,sizeLine_eq];omega, ?_⟩;have f1':=s3 _ _ f1;have fm:V.ref pa∈fs:=gS q1;have y3n:∀v∈y3,v≠.ref p:=λv hv z=>by
    obtain⟨k,hk⟩:=gQ.mp hv;obtain⟨r,_,p',e',q'⟩:=Paired.at r3.pr hk;rw[z]at e';cases e';rw[f1']at q';have:fs=r.map V.int:=by injection (Option.some.inj q')
    rw[this]at fm;obtain⟨n,_,y⟩:=tD.mp fm;cases y
   have p3n:p3≠p:=λz=>by rw[z,f1]at n3;cases n3
   refine .mk (kQ (s2.trans s3) n1) ⟨_,jF,by rw[hV,gR,f2],λe he=>?_⟩;by_cases h:e<=i
   ·obtain⟨pe,xe,g1,g2,g3,g4⟩:=f3 e h;exact⟨pe,xe,by rw[gF (by omega)];exact g1,(g2.same s3).put f1' g3 g4,g3,g4⟩
   ·obtain rfl:e=i+1:=by omega
    exact⟨p3,y3,by rw[gC (by omega),f2,Nat.sub_self];rfl,r3.put f1' p3n y3n,p3n,y3n⟩
  ·obtain⟨s2,fs,f1,f2,f3⟩:=h;exact⟨_,rfl,go p H2 n1 s2 ⟨fs,f1,f2,λe he=>by obtain⟨pa,xs,h1,h2,_⟩:=f3 e he;exact⟨pa,xs,h1,h2⟩⟩⟩
open LwV
def lvS(b:Int)(r:Rat):Int:=b*xG (r.den:Int) b
def lvD(rs:List Rat):Int:=rs.foldl lvS 1
def lvT(rs:List Rat):List Int:=rs.map λr=>r.num*(lvD rs/(r.den:Int))
theorem MJ{b:Int}(hb:0<b)(r:Rat):0<lvS b r:=by
 unfold lvS;rw[qV hb];have g:=LwM.qR (r.den:Int) b hb;have d:=r.den_pos;have:0<(r.den:Int)/(Int.gcd (r.den:Int) b:Int):=by
  have h1:(Int.gcd (r.den:Int) b:Int)∣(r.den:Int):=mV ..;obtain⟨k,hk⟩:=h1;generalize (Int.gcd (r.den:Int) b:Int)=G at *;rw[hk,Int.mul_ediv_cancel_left _ (by omega)];by_cases z:0<k
  ·exact z
  ·have:G*k<=0:=Int.mul_nonpos_of_nonneg_of_nonpos (by omega) (by omega);omega
 exact tN hb this
theorem WZ{b:Int}(hb:0<b)(r:Rat):b∣lvS b r/\(r.den:Int)∣lvS b r:=by
 unfold lvS;refine⟨Int.dvd_mul_right .., ?_⟩;rw[qV hb];have g:=LwM.qR (r.den:Int) b hb;obtain⟨k,hk⟩:(Int.gcd (r.den:Int) b:Int)∣(r.den:Int):=mV ..;obtain⟨m,hm⟩:(Int.gcd (r.den:Int) b:Int)∣b:=mO ..;generalize (Int.gcd (r.den:Int) b:Int)=G at *;refine⟨m, ?_⟩;have:(r.den:Int)/G=k:=by rw[hk,Int.mul_ediv_cancel_left _ (by omega)]
 rw[this,hk]
 conv=>lhs;rw[hm]
 grind
theorem lvF:∀(rs:List Rat) (b:Int),0<b->0<rs.foldl lvS b/\b∣rs.foldl lvS b/\∀r∈rs,(r.den:Int)∣rs.foldl lvS b
 | [],b,h=>⟨h,Int.dvd_refl _,λ_ z=>nomatch z⟩
 | r::rs,b,h=>by
  obtain⟨h1,h2,h3⟩:=lvF rs (lvS b r) (MJ h r);have d:=WZ h r;refine⟨h1,Int.dvd_trans d.1 h2,λq hq=>?_⟩;rcases nP.mp hq with rfl | hq
  ·exact Int.dvd_trans d.2 h2
  ·exact h3 q hq
theorem vD(rs:List Rat):0<lvD rs:=(lvF rs 1 (by decide)).1
theorem MK{rs:List Rat}{r:Rat}(h:r∈rs):(r.den:Int)∣lvD rs:=(lvF rs 1 (by decide)).2.2 r h
theorem lvS_of{b D:Int}(hb:0<b){r:Rat}(h:b∣D)(k:(r.den:Int)∣D):lvS b r∣D:=by
 unfold lvS;rw[qV hb];have g:=LwM.qR (r.den:Int) b hb;have lg:=MM (n:=(r.den:Int)) hb;rw[qV hb,vN hb]at lg;obtain⟨y,hy⟩:(Int.gcd (r.den:Int) b:Int)∣(r.den:Int):=mV ..;obtain⟨m,hm⟩:(Int.gcd (r.den:Int) b:Int)∣b:=mO ..;generalize (Int.gcd (r.den:Int) b:Int)=G at *;have e1:(r.den:Int)/G=y:=by rw[hy,Int.mul_ediv_cancel_left _ (by omega)]
 have e2:b/G=m:=by rw[hm,Int.mul_ediv_cancel_left _ (by omega)]
 rw[e1,e2]at lg;rw[e1];obtain⟨x,hx⟩:=h;obtain⟨z,hz⟩:=k;have:y∣m*x:=⟨z,by
  have:G*(m*x)=G*(y*z):=by rw[<-nT,<-hm,<-hx,hz,hy,nT]
  exact Int.eq_of_mul_eq_mul_left (by omega) this⟩
 have:y∣x:=AW (by rw[Int.gcd_comm];exact lg) this;obtain⟨q,hq⟩:=this;exact⟨q,by rw[hx,hq,nT]⟩
theorem SZ{D:Int} :∀(rs:List Rat) (b:Int),0<b->b∣D->(∀r∈rs,(r.den:Int)∣D)->rs.foldl lvS b∣D
 | [],_,_,h,_=>h
 | r::rs,b,h0,h,k=>SZ rs (lvS b r) (MJ h0 r) (lvS_of h0 h (k r (mF ..))) λq hq=>k q (gT _ hq)
theorem TC{D:Int}{rs:List Rat}(k:∀r∈rs,(r.den:Int)∣D):lvD rs∣D:=SZ rs 1 (by decide) ⟨D,by omega⟩ k
theorem FT{a D:Int}(h:a∣D)(h0:0<D):a.natAbs<=D.natAbs:=Nat.le_of_dvd (by omega) (Int.natAbs_dvd_natAbs.mpr h)
theorem TB(rs:List Rat)(r:Rat):lvD (rs++[r])=lvS (lvD rs) r:=by
 unfold lvD;rw[List.foldl_append]
 rfl
theorem lv_val{rs:List Rat}{r:Rat}(h:r∈rs):((r.num*(lvD rs/(r.den:Int)):Int):Rat)=r*(lvD rs:Rat):=by
 obtain⟨k,hk⟩:=MK h;have d:=r.den_pos;rw[hk,Int.mul_ediv_cancel_left _ (by omega),nC,nC];have h1:=xR r;unfold fv at h1;have h2:((r.den:Int):Rat)≠0:=cne (by omega);generalize ((r.den:Int):Rat)=D at *;generalize (r.num:Rat)=N at *;rw[<-h1]
 grind
theorem qQ(rs:List Rat):(lvT rs).length=rs.length:=by simp [lvT]
theorem TZ{t:Int}{n:Nat}(h:t.natAbs<2^n)(hn:0<n):FrOk n t 1:=⟨by decide,by simp,h,by
 show 1<2^n;exact Nat.one_lt_two_pow (by omega)⟩
def wY(aa:Nat)(ns:List Int):Nat:=if ns.sum=1 then ns.idxOf 1 else aa
def jN(aa:Nat)(ts:List Trm):List Rat:=ts.foldl (λL x=>L.set (wY aa x.ns) (fv x.t x.b)) (List.replicate (aa+1) 0)
theorem kY(aa:Nat)(ts:List Trm):(jN aa ts).length=aa+1:=by
 unfold jN;have:∀(ts:List Trm) (L:List Rat),(ts.foldl (λL x=>L.set (wY aa x.ns) (fv x.t x.b)) L).length=L.length:=λts=>by
  induction ts with
  | nil=>exact λ_=>rfl
  | cons x ts ih=>exact λL=>by rw[List.foldl_cons,ih,List.length_set]
 rw[this,gO]
theorem uG{aa:Nat}{ts:List Trm} :∀r∈jN aa ts,r=0∨∃x∈ts,r=fv x.t x.b:=by
 unfold jN;have:∀(ts:List Trm) (L:List Rat),∀r∈ts.foldl (λL x=>L.set (wY aa x.ns) (fv x.t x.b)) L,r∈L∨∃x∈ts,r=fv x.t x.b:=λts=>by
  induction ts with
  | nil=>exact λL r h=>.inl h
  | cons x ts ih=>
   intro L r h;rcases ih _ r h with h | ⟨y,hy,e⟩
   ·rcases List.mem_or_eq_of_mem_set h with h | h
    ·exact .inl h
    ·exact .inr ⟨x,by simp,h⟩
   ·exact .inr ⟨y,by simp [hy],e⟩
 intro r h;rcases this ts _ r h with h | h
 ·exact .inl (List.mem_replicate.mp h).2
 ·exact .inr h
theorem EQ:∀{ns:List Int},(∀n∈ns,0<=n)->ns.sum=1->(1:Int)∈ns
 | [],_,h=>by simp at h
 | a::ns,hn,h=>by
  have h0:=hn a (by simp);have nn:∀l:List Int,(∀n∈l,0<=n)->0<=l.sum:=λl hl=>by
   induction l with
   | nil=>decide
   | cons b l ih=>rw[nU];have:=hl b (by simp);have:=ih λn hn=>hl n (by simp [hn]);omega
  have h1:=nn ns λn hn'=>hn n (by simp [hn']);rw[nU]at h;by_cases e:a=1
  ·rw[e];simp
  ·exact gT _ (EQ (λn hn'=>hn n (by simp [hn'])) (by omega))
theorem FN:∀{ns:List Int} {n:Int},(∀x∈ns,0<=x)->n∈ns->n<=ns.sum
 | a::r,n,h,hn=>by
  have h1:=h a (mF ..);have hr:∀x∈r,0<=x:=λx hx=>h x (gT _ hx);have nn:∀l:List Int,(∀n∈l,0<=n)->0<=l.sum:=λl hl=>by
   induction l with
   | nil=>decide
   | cons b l ih=>rw[nU];have:=hl b (by simp);have:=ih λn hn=>hl n (by simp [hn]);omega
  have:=nn r hr;rw[nU];rcases nP.mp hn with rfl | hn
  ·omega
  ·have:=FN hr hn;omega
theorem col_lt{aa:Nat}{ns:List Int}(hl:ns.length=aa)(hn:∀n∈ns,0<=n):wY aa ns<aa+1:=by
 unfold wY;split
 ·rename_i h;have:=List.idxOf_lt_length_of_mem (EQ hn h);omega
 ·omega
def uO(ts:List Trm):Int:=(ts.map Trm.b).foldr (· * ·) 1
theorem wR:∀{ts:List Trm},(∀x∈ts,0<x.b/\x.b.natAbs<=2^x.k)->0<uO ts/\(uO ts).natAbs<=2^(ts.map Trm.k).sum/\∀x∈ts,x.b∣uO ts
 | [],_=>⟨by decide,by decide,λ_ h=>nomatch h⟩
 | x::ts,h=>by
  obtain⟨h1,h2,h3⟩:=wR (ts:=ts) λy hy=>h y (by simp [hy]);have hx:=h x (by simp);have e:uO (x::ts)=x.b*uO ts:=rfl;rw[e];refine⟨tN hx.1 h1, ?_,λy hy=>?_⟩
  ·rw[nH,nO,nU,tP];exact nJ hx.2 h2
  ·rcases nP.mp hy with rfl | hy
   ·exact Int.dvd_mul_right ..
   ·exact Int.dvd_trans (h3 y hy) (Int.dvd_mul_left ..)
structure NumsB(aa:Nat)(ts:List Trm)(b:Nat):Prop where
 D:(lvD (jN aa ts)).natAbs<=2^b
 T:∀z∈lvT (jN aa ts),z.natAbs<=2^b
theorem BO{x:Trm}{aa D v:Nat}(h:TmOk aa D v x):(fv x.t x.b).num=x.t/\((fv x.t x.b).den:Int)=x.b:=SL h.pos h.low
theorem HU{H:Hp}{p:Addr}{aa:Nat}{z:Sz}{ts:List Trm}(h:Poly H p aa z ts):∀r∈jN aa ts,(r.den:Int)∣uO ts:=λr hr=>by
 have pb:=wR λx hx=>⟨(h.each x hx).pos,(h.each x hx).sb⟩;rcases uG r hr with rfl | ⟨x,hx,rfl⟩
 ·exact Int.one_dvd _
 ·rw[(BO (h.each x hx)).2];exact pb.2.2 x hx
theorem WQ{H:Hp}{p:Addr}{aa:Nat}{z:Sz}{ts:List Trm}{d b:Nat}(h:Poly H p aa z ts)(D:(lvD (jN aa ts)).natAbs<=2^d)(hb:z.v+d<=b):NumsB aa ts b:=by
 refine⟨nY D (gU (by decide) (by omega)),λw hw=>?_⟩;unfold lvT at hw;obtain⟨r,hr,rfl⟩:=tD.mp hw;obtain⟨k,hk⟩:=MK hr;have dp:=r.den_pos;rw[hk,Int.mul_ediv_cancel_left _ (by omega),nH];have hD:r.den*k.natAbs<=2^d:=by have:=D;rw[hk,nH,mD]at this;exact this
 have hn:r.num.natAbs<=2^z.v*r.den:=by
  rcases uG r hr with rfl | ⟨x,hx,rfl⟩
  ·exact tM _
  ·have nf:=BO (h.each x hx);have:=(h.each x hx).st;rw[nf.1];rw[<-nf.2,mD]at this;exact this
 calc r.num.natAbs*k.natAbs<=2^z.v*r.den*k.natAbs:=gX _ hn
  _=2^z.v*(r.den*k.natAbs):=Nat.mul_assoc ..
  _<=2^z.v*2^d:=Nat.mul_le_mul_left _ hD
  _=2^(z.v+d):=(tP ..).symm
  _<=2^b:=gU (by decide) hb
def ER(K:tX):Sp:=λvs H Q _=>∃(p:Addr) (aa:Nat) (z:Sz) (ts:List Trm),vs=[.ref p]/\Poly H p aa z ts/\z.D<=1/\1<=aa/\aa<=4/\z.v+z.S<=2200/\z.n<=1000/\
 ∀(r l:Addr) (H':Hp),H r=none->Same H H'->H' r=some (.tup [.ref l,.int (lvD (jN aa ts))])->H' l=some (.lst ((lvT (jN aa ts)).map V.int))->Q (.ref r) H'
theorem NumK.upd{K:tX}{H:Hp}{v:V}{x:Rat}{l:Addr}{ys:List V}{o:HO}(h:NumK K H v x)(e:H l=some (.lst ys)):NumK K (upd H l o) v x:=by
 obtain⟨p,rfl,q⟩:=h;refine⟨p,rfl, ?_⟩;rcases q with(q | ⟨u,q⟩) | q
 ·exact .inl (.inl (by rw[jH λz=>by rw[z,e]at q;cases q];exact q))
 ·exact .inl (.inr ⟨u,by rw[jH λz=>by rw[z,e]at q;cases q];exact q⟩)
 ·exact .inr q
theorem BL{α β:Type}{F:α->β->Prop}{x:α}{y:β}(h:F x y):∀{a:List α} {b:List β} (j:Nat),Paired F a b->Paired F (a.set j x) (b.set j y)
 | _,_,_,.nil=>.nil
 | _,_,0,.cons _ t=>.cons h t
 | _,_,j+1,.cons k t=>.cons k (BL h j t)
inductive WnI(K:tX)(H:Hp)(p q l:Addr)(aa:Nat)(ts:List Trm)(i:Nat):L2.St->Hp->Prop where
 | mk {H':Hp} {us:List V} {u4 u5 u6 u7 u8:Option V} (s:Same H H') (e:H' l=some (.lst us)) (pr:Paired (NumK K H') us (jN aa (ts.take i))):WnI K H p q l aa ts i [some (.ref p),some (.int aa),some (.ref q),some (.ref l),u4,u5,u6,u7,u8] H'
inductive WbI(H1:Hp)(p q l:Addr)(aa:Nat)(rs:List Rat)(i:Nat):L2.St->Hp->Prop where
 | mk {H':Hp} {u4 u5 u7 u8:Option V} (s:Same H1 H'):WbI H1 p q l aa rs i [some (.ref p),some (.int aa),some (.ref q),some (.ref l),u4,u5,some (.int (lvD (rs.take i))),u7,u8] H'
theorem eq_int(a b:Int):eqV (.int a) (.int b)=decide (a=b):=by
 show(a==b)=_
 rfl
theorem scWh:FnScope ["one","many","terms","numbers","powers","number","bottom","top","under"] ["one"] (jL BG):=⟨rfl,rfl,rfl,by decide +kernel,rfl,by decide +kernel,by decide +kernel⟩
theorem SC{fD:Addr}{fdD:FuncData}(F:Fun K "whole_numbers" "whole_numbers" BG f fd)(T:Txt mg)(N:Ngt K mg)(DD:Df K mg "divided" JP ["one","other"] fD fdD)(GD:FnOk P w K mg base CX0 3 fD fdD ["one","other"] (BF K)):FnOk P w K mg base CX0 4 f fd ["one"] (ER K):=by
 obtain⟨na,hN,hna⟩:=N;refine F.ok scWh (λvs H Q E h=>?_) (λcdv A outer s H vs Q E hr h=>?_)
 ·obtain⟨p,aa,z,ts,rfl,_⟩:=h
  rfl
 ·obtain⟨p,aa,z,ts,rfl,hP,zD,m1,m4,zb,zn,go⟩:=h;refine⟨_,jB (qL (pv 0) (qW rfl (jO (jI (i:=1) scWh.nd rfl (Or.inl rfl)) (jO (jI (i:=2) scWh.nd rfl (Or.inl rfl)) kS)))) (jB (jM (i:=3) scWh.nd rfl (Or.inl rfl) (jK KD (kM (jA (qB (v:=.ref na) (by rfl) hN rfl) jC)) (jK kJ (pv 1) jD))) (jB (qZ PassesOwn.never rfl (RQ (pv 2)) (qW rfl (jO (jI (i:=4) scWh.nd rfl (Or.inl rfl)) (jO (jI (i:=5) scWh.nd rfl (Or.inl rfl)) kS))) (jE (qL (pv 5) (zF (pv 3) (HP (jT xX (qC (EB rfl) (by rfl) T.sum boot_sum (jA (pv 4) jC)) jD (jY _)) (RZ PySem.F.plainAttrs_tuple PySem.F.slot_tuple_index PySem.F.type_tuple_index SU (pv 4) (jA jD jC)) (pv 1)) vZ)))) (jB (jM (i:=6) scWh.nd rfl (Or.inr rfl) (jD)) (jB (qZ PassesOwn.never rfl (kX (pv 3)) (qW rfl (jO (jI (i:=7) scWh.nd rfl (Or.inl rfl)) (jO (jI (i:=8) scWh.nd rfl (Or.inl rfl)) kS))) (jE (jM (i:=6) scWh.nd rfl (Or.inr rfl) (jK qH (pv 6) (jQ kI (jG GD hr rfl DD.m DD.F.kp DD.b .nil jR (jA (jV (jA (pv 8) (jA jD jC))) (jA (jV (jA (pv 6) (jA jD jC))) jC))) jD (λ_ _=>rfl)))))) (jE (jP (jV (jA (yF (own:=2) (idx:=[6]) (N:=["top","under","bottom"]) rfl rfl rfl (by decide +kernel) (by decide +kernel) (vV (by intro y hy;simp only[nP,mR,or_false]at hy;rcases hy with rfl;rfl)) (vO rfl) rfl (xN rfl ⟨rfl,rfl,rfl,rfl⟩) (kX (pv 3)) (λC fp s2 H2=>show PG (jJ _ ["top","under","bottom"] _ _ C fp s2 H2) _ (KQ K 2 (yI (kR 0) (yI (kR 1) gNil)))from qW (X:=jJ _ ["top","under","bottom"] _ _ C fp s2 H2) rfl (jO (jI (i:=0) (show List.Nodup (["top","under","bottom"]:List Str) by decide +kernel) rfl (Or.inl rfl) (Or.inr rfl)) (jO (jI (i:=1) (show List.Nodup (["top","under","bottom"]:List Str) by decide +kernel) rfl (Or.inl rfl) (Or.inr rfl)) kS))) (λC fp s2 H2=>jK qH (pv 0) (jK qO (pv 2) (pv 1)))) (jA (pv 6) jC))))))))), ?_⟩
  try dsimp only[cxK]
  obtain⟨q,o,xs,e1,e2,eo,pr⟩:=hP.ex;refine⟨_,rfl,p,_,rfl,SqT.of e1,rfl,_,_,rfl,_,_,rfl,rfl, ?_⟩;refine⟨uX,λl0 H1 n1 s1 e1'=>⟨_,rfl,_,_,rfl,rfl,l0,_,_,rfl,rfl,e1',by omega,by omega,by rw[sizeLine_eq];show 1*((aa:Int)+1).toNat<=_;omega,λl nl=>?_⟩⟩;have er:(List.replicate ((aa:Int)+1).toNat [V.ref na]).flatten=List.replicate (aa+1) (V.ref na):=by
   rw[show((aa:Int)+1).toNat=aa+1 by omega,List.flatten_replicate_singleton]
  rw[er];have s2:Same H1 (upd H1 l (.lst (List.replicate (aa+1) (V.ref na)))):=kF _ nl;have e3:(upd H1 l (.lst (List.replicate (aa+1) (V.ref na)))) l=some (.lst (List.replicate (aa+1) (V.ref na))):=jF;generalize upd H1 l (.lst (List.replicate (aa+1) (V.ref na)))=H2 at s2 e3;have s02:=s1.trans s2;have hl0:H l=none:=s1.free nl;have lx:xs.length=ts.length:=Paired.length pr;have sq:∀{H':Hp},Same H H'->SqT K H' q xs:=λs=>.inl (.inr ⟨o,s _ _ e2⟩);refine⟨_,rfl,q,rfl,⟨xs,sq s02⟩, ?_⟩;refine XM (K:=K) (a:=q) (xs:=xs) (WnI K H p q l aa ts) (.mk s02 e3 ?_) (λi σ H3 _ h=>?_) (λi x σ H3 hx h=>?_) (fun σ H3 h=>?_)
  ·show Paired _ (List.replicate (aa+1) (V.ref na)) (List.replicate (aa+1) (0:Rat));have:∀n,Paired (NumK K H2) (List.replicate n (V.ref na)) (List.replicate n (0:Rat)):=λn=>by
    induction n with
    | zero=>exact .nil
    | succ n ih=>rw[List.replicate_succ,List.replicate_succ];exact .cons (yW (hna H2)) ih
   exact this _
  ·obtain⟨s3,_,_⟩:=h;exact sq s3
  ·obtain⟨s3,e,pn⟩:=h;rename_i us u4 u5 u6 u7 u8;obtain⟨x',hx',tv⟩:=Paired.at pr hx;obtain⟨r,b,c,rfl,r1,r2,r3⟩:=tv.ex;have tm:=hP.each x' (gS hx');have r2':=s3 _ _ r2;have dg:=tm.deg;have le1:x'.ns.sum<=1:=by omega
   have b40:∀n∈x'.ns,0<=n/\n<=2^40:=λn hn=>⟨tm.nn n hn,by have:=FN tm.nn hn;omega⟩;have col:=col_lt tm.len tm.nn;have lus:us.length=aa+1:=by rw[Paired.length pn,kY]
   have nx:NumK K H3 (.ref c) (fv x'.t x'.b):=by
    have:=s3 _ _ r3;exact NumK.of (by unfold At2;rw[(BO tm).1,(BO tm).2];exact this)
   have tk:jN aa (ts.take (i+1))=(jN aa (ts.take i)).set (wY aa x'.ns) (fv x'.t x'.b):=by
    unfold jN;rw[mJ,hx',List.foldl_append]
    rfl
   have fin:∀(j:Nat),j=wY aa x'.ns->WnI K H p q l aa ts (i+1) [some (.ref p),some (.int aa),some (.ref q),some (.ref l),some (.ref b),some (.ref c),u6,u7,u8] (upd H3 l (.lst (us.set j (.ref c)))):=λj hj=>by
    subst hj;refine .mk (kQ s3 hl0) jF ?_;rw[tk];exact Paired.to (λ_ _ h=>h.upd e) (BL nx _ pn)
   refine⟨r,_,rfl,SqT.of (s3 _ _ r1),rfl,_,_,rfl,_,_,rfl,rfl, ?_⟩;refine⟨_,rfl,_,rfl,_,rfl,b,x'.ns,rfl,SqT.of r2',b40,by rw[tm.len];omega,rfl,_,rfl, ?_⟩;rw[vR];refine AG (λc1=>?_) (λc1=>?_)
   ·have c1:=mL c1;have ix:=List.idxOf_lt_length_of_mem (EQ tm.nn c1);refine⟨_,rfl,.inr (.inr (.inr (.inr ⟨rfl,_,r2'⟩))),b,_,_,x'.ns.idxOf 1,rfl,rfl,SqT.of r2',rfl, ?_,by rw[mY];exact ix,λk y hk hy=>?_,λy hy=>?_,l,us,_,x'.ns.idxOf 1,rfl,rfl,e, ?_,fin _ (by unfold wY;rw[tW c1])⟩
    ·rw[List.all_map];exact List.all_eq_true.mpr λ_ _=>rfl
    ·rw[mH]at hy;obtain⟨n,hn,rfl⟩:=Option.map_eq_some_iff.mp hy;rw[eq_int];refine nA λz=>?_;have:=List.not_of_lt_findIdx hk;rw[(gE.mp hn).2,z]at this;simp at this
    ·rw[mH]at hy;obtain⟨n,hn,rfl⟩:=Option.map_eq_some_iff.mp hy;rw[eq_int];refine nG ?_;have:=List.getElem_idxOf ix;rw[(gE.mp hn).2]at this;exact this
    ·unfold ixN;rw[tW (by omega),tW (by rw[lus];have:=tm.len;omega),mP]
   ·have c1:=λz=>c1 (nG z);refine⟨_,rfl,l,us,_,aa,rfl,rfl,e, ?_,fin _ (by unfold wY;rw[tV c1])⟩;unfold ixN;rw[tW (by omega),tW (by rw[lus];omega),mP]
  ·obtain⟨s3,e,pn⟩:=h;rename_i us u4 u5 u6 u7 u8;rw[lx,mS]at pn;generalize hrs:jN aa ts=rs at pn;have lrs:rs.length=aa+1:=by rw[<-hrs,kY]
   have lus:us.length=rs.length:=Paired.length pn;have pb:=wR λx hx=>⟨(hP.each x hx).pos,(hP.each x hx).sb⟩;have dd:∀r∈rs,(r.den:Int)∣uO ts:=by rw[<-hrs];exact HU hP
   have dB:(uO ts).natAbs<=2^2200:=nY pb.2.1 (gU (by decide) (by have:=hP.sum;omega));have bdD:∀(ys:List Rat),(∀r∈ys,r∈rs)->(lvD ys).natAbs<=2^2200:=λys hy=>nY (FT (TC λr hr=>dd r (hy r hr)) pb.1) dB;have bn:∀r∈rs,r.num.natAbs<2^2201:=λr hr'=>by
    rw[<-hrs]at hr';rcases uG r hr' with rfl | ⟨x,hx,rfl⟩
    ·exact Nat.two_pow_pos _
    ·have tm:=hP.each x hx;rw[(BO tm).1];have h1:=nY tm.st (Nat.mul_le_mul_left _ tm.sb);rw[<-tP]at h1;have h2:=KH (List.mem_map_of_mem (f:=Trm.k) hx);exact hU h1 (gW (by decide) (by have:=hP.sum;omega))
   have bd':∀r∈rs,((r.den:Int)).natAbs<2^2201:=λr hr'=>hU (nY (FT (dd r hr') pb.1) dB) (gW (by decide) (by decide));refine⟨_,rfl,l,rfl,⟨us,SqL.of e⟩,vP (K:=K) (a:=l) (xs:=us) (WbI H3 p q l aa rs) (.mk (Same.refl _)) (λi σ H4 _ h=>?_) (λi x σ H4 hx h=>?_) (fun σ H4 h=>?_)⟩
   ·obtain⟨s4⟩:=h;exact SqL.of (s4 _ _ e)
   ·obtain⟨s4⟩:=h;rename_i v4 v5 v7 v8;obtain⟨r,hr',a,rfl,sa⟩:=Paired.at pn hx;have rm:=gS hr';have tk:rs.take (i+1)=rs.take i++[r]:=by rw[mJ,hr'];rfl
    have bi:=bdD (rs.take i) λq hq=>gY hq;have pi:=vD (rs.take i);have dp:=r.den_pos;have bi':(lvD (rs.take i)).natAbs<2^2201:=hU bi (gW (by decide) (by decide));have bdr:=bd' r rm;refine⟨a,_,rfl,vE s4 sa,rfl,_,_,rfl,_,_,rfl,rfl, ?_⟩;refine⟨_,rfl,_,rfl,uY,λz1 H5 n5 s5 e5=>⟨_,rfl,uY,λy1 H6 n6 s6 e6=>?_⟩⟩;refine⟨z1,y1,(r.den:Int),1,lvD (rs.take i),1,rfl,SqT.of (s6 _ _ e5),SqT.of e6,TZ (kH bdr (by decide)) (by decide),TZ (kH bi' (by decide)) (by decide),by omega,λq7 H7 n7 s7 e7=>?_⟩;rw[Int.mul_one,Int.one_mul]at e7;have lt:=XC (n:=(r.den:Int)) pi;refine⟨q7,_,_,_,rfl,rfl,SqT.of e7,rfl,_,_,rfl,rfl,⟨kH bi' (by decide),hU lt (kH bdr (by decide))⟩, ?_⟩;have fin:WbI H3 p q l aa rs (i+1) [some (.ref p),some (.int aa),some (.ref q),some (.ref l),v4,v5,some (.int (lvD (rs.take (i+1)))),some (.int r.num),some (.int r.den)] H7:=.mk (s4.trans (s5.trans (s6.trans s7)));rw[tk,TB]at fin;exact fin
   ·obtain⟨s4⟩:=h;rename_i v4 v5 v7 v8;rw[lus,mS];have bD':(lvD rs).natAbs<2^2201:=hU (bdD rs λ_ h=>h) (gW (by decide) (by decide));have pD:=vD rs;refine⟨_,rfl,l,rfl,⟨us,SqL.of (s4 _ _ e)⟩,λq5 H5 n5 s5 e5=>?_⟩;refine xU (K:=K) (a:=l) (xs:=us) (CmI (λk=>((lvT rs).take k).map V.int) q5 H4) (by rw[lus,lrs,sizeLine_eq];omega) ⟨s5,e5,rfl⟩ (λi ys H6 h=>⟨SqL.of ((s4.trans h.s) _ _ e),h.e⟩) ?_ ?_
    ·rintro i m' ys x H6 hx hm hy ⟨s6,e6,ey⟩;obtain⟨r,hr',a,rfl,sa⟩:=Paired.at pn hx;have rm:=gS hr';have dp:=r.den_pos;refine⟨a,_,rfl,vE (s4.trans s6) sa,rfl,_,_,rfl,_,_,rfl,rfl,MR, ?_⟩;have bq:(lvD rs/(r.den:Int)).natAbs<2^2201:=qT bD' (by omega);refine⟨_,rfl,_,rfl,_,rfl,_,_,rfl,rfl,⟨by omega,kH (bd' r rm) (by decide)⟩,_,_,rfl,rfl,⟨kH (bn r rm) (by decide),kH bq (by decide)⟩, ?_⟩;refine qA hx hm hy e6 ⟨kQ s6 n5,jF, ?_⟩;have:(lvT rs)[i]? = some (r.num*(lvD rs/(r.den:Int))):=by
      unfold lvT;rw[mH,hr']
      rfl
     rw[ey,mJ,this,mZ]
     rfl
    ·rintro ys H6 hy ⟨s6,e6,ey⟩;refine⟨_,rfl,uY,λt7 H7 n7 s7 e7=>?_⟩;rw[lus,<-qQ rs,mS]at ey;rw[ey]at e6;rw[hrs]at go;exact go t7 q5 H7 ((s3.trans (s4.trans s6)).free n7) (s3.trans (s4.trans (s6.trans s7))) e7 (s7 _ _ e6)
theorem UR{K:tX}{a:Addr}{xs:List V}{n:Nat}{g:TG}{te:TE}{Q:VK}{p:Addr}{H':Hp}(Pv:Nat->List V->Hp->Prop)(hz:xs.length<sizeLine)(h0:Pv 0 [] H')
  (hl:∀i ys H2,Pv i ys H2->SqT K H2 a xs/\H2 p=some (.lst ys))
  (hs:∀i m ys x H2,xs[i]? = some x->m=xs.length-i->ys.length=i->Pv i ys H2->g x (List.replicate n none) H2 fun σ4 H4=>te σ4 H4 λy H5=>H5 p=some (.lst ys)/\∃m',m'<m/\CompW xs Pv (i+1) m' (ys++[y]) (upd H5 p (.lst (ys++[y]))))
  (hd:∀ys H2,ys.length=xs.length->Pv xs.length ys H2->Q (.ref p) H2):CompGo n (Itt K a) g te Q p H':=by
 refine⟨CompW xs Pv,⟨_,rfl,tM _,rfl,h0⟩, ?_⟩;rintro i m ys H2 ⟨hm,hi,hy,hp⟩;obtain⟨q,e⟩:=hl i ys H2 hp;refine⟨e,by omega, ?_⟩;by_cases hlt:i<xs.length
 ·refine .inr ⟨⟨xs,xs[i],q,by simp [hlt]⟩, ?_⟩;rintro x H3 ⟨rfl,y⟩;exact hs i m ys x _ (y xs q) hm hy hp
 ·obtain rfl:i=xs.length:=by omega
  exact .inl ⟨⟨xs,q,tL _⟩,hd ys H2 hy hp⟩
def EK(n:Nat):List V:=(List.range n).map λ(i:Nat)=>V.int (0+(i:Int))
theorem wL(n:Nat):(EK n).length=n:=by simp [EK]
theorem BA{n i:Nat}{x:V}(h:(EK n)[i]? = some x):x=.int (0+(i:Int))/\i<n:=by
 unfold EK at h;rw[mH]at h;cases e:(List.range n)[i]? with
 | none=>rw[e]at h;cases h
 | some j=>
  rw[e]at h;obtain⟨h1,h2⟩:=gE.mp e;rw[List.getElem_range]at h2;subst h2;rw[mM]at h1;exact⟨(Option.some.inj h).symm,h1⟩
theorem zM{n:Nat}{σ0:L2.St}{g:TG}{te:TE}{Q:VK}{p:Addr}{H':Hp}(Pv:Nat->List V->Hp->Prop)(hz:n<sizeLine)(h0:Pv 0 [] H')(hl:∀i ys H2,Pv i ys H2->H2 p=some (.lst ys))
  (hs:∀i m ys x H2,(EK n)[i]? = some x->m=(EK n).length-i->ys.length=i->Pv i ys H2->g (.int (0+(i:Int))) σ0 H2 fun σ4 H4=>Keep σ0 σ4/\te σ4 H4 λy H5=>H5 p=some (.lst ys)/\∃m',m'<m/\CompW (EK n) Pv (i+1) m' (ys++[y]) (upd H5 p (.lst (ys++[y]))))
  (hd:∀ys H2,ys.length=n->Pv n ys H2->Q (.ref p) H2):CompGoF σ0 (Itr 0 n) g te Q p H':=by
 refine NH (xs:=EK n) Pv (by rw[wL];exact hz) h0 (λi ys H2 _ hi=>?_) (λys H2 _=>by rw[wL];exact tL n) hl (λi m ys x H2 hx hm hy hp=>?_) (λys H2 hy hp=>?_)
 ·rw[wL]at hi;refine⟨hi, ?_⟩;rintro x H3 ⟨rfl,rfl⟩;exact⟨rfl,by unfold EK;rw[mH,hJ hi];rfl⟩
 ·obtain⟨e,_⟩:=BA hx;subst e;exact hs i m ys _ H2 hx hm hy hp
 ·rw[wL]at hy hp;exact hd ys H2 hy hp
theorem IQ{K:tX}{a:Addr}{xs:List V}{σ0:L2.St}{g:TG}{te:TE}{Q:VK}{p:Addr}{H':Hp}(Pv:Nat->List V->Hp->Prop)(hz:xs.length<sizeLine)(h0:Pv 0 [] H')
  (hl:∀i ys H2,Pv i ys H2->SqL K H2 a xs/\H2 p=some (.lst ys))
  (hs:∀i m ys x c H2,xs[i]? = some x->m=xs.length-i->ys.length=i->Pv i ys H2->H2 c=none->g (.ref c) σ0 (upd H2 c (.tup [.int i,x])) fun σ4 H4=>Keep σ0 σ4/\te σ4 H4 λy H5=>H5 p=some (.lst ys)/\∃m',m'<m/\CompW xs Pv (i+1) m' (ys++[y]) (upd H5 p (.lst (ys++[y]))))
  (hd:∀ys H2,ys.length=xs.length->Pv xs.length ys H2->Q (.ref p) H2):CompGoF σ0 (Itel K a) g te Q p H':=by
 refine⟨CompW xs Pv,⟨_,rfl,tM _,rfl,h0⟩, ?_⟩;rintro i m ys H2 ⟨hm,hi,hy,hp⟩;obtain⟨q1,e⟩:=hl i ys H2 hp;refine⟨e,by omega, ?_⟩;by_cases hlt:i<xs.length
 ·refine .inr ⟨⟨xs,xs[i],q1,by simp [hlt]⟩, ?_⟩;rintro _ _ ⟨c,x,hc,rfl,rfl,h1⟩;exact hs i m ys x c H2 (h1 _ q1) hm hy hp hc
 ·obtain rfl:i=xs.length:=by omega
  exact .inl ⟨⟨xs,q1,tL _⟩,hd ys H2 hy hp⟩
abbrev rLenS(K:tX):List V->Hp->VK->Prop:=λxs H Q=>∃p ys,xs=[V.ref p]/\(SqL K H p ys∨SqT K H p ys)/\Q (V.int ys.length) H
def kN(aa:Nat)(ts:List Trm)(i count:Nat):Rw:=(lvT (jN aa ts)).take aa++[0,(lvT (jN aa ts)).getD aa 0]++(List.range (count+1)).map λj=>if j=i then lvD (jN aa ts)else 0
def HC(K:tX):Sp:=λvs H Q _=>∃(p:Addr) (i count aa:Nat) (z:Sz) (ts:List Trm),vs=[.ref p,.int i,.int count]/\Poly H p aa z ts/\z.D<=1/\1<=aa/\aa<=4/\z.v+z.S<=2200/\z.n<=1000/\count<=10/\
 ∀(r:Addr) (H':Hp),H r=none->Same H H'->H' r=some (.lst ((kN aa ts i count).map V.int))->Q (.ref r) H'
theorem IO{xs:List V}{n:Nat}(h:xs.length=n+1):xJ xs none (some (-1))=xs.take n:=by
 unfold xJ;rw[HT.sIx_none,List.drop_zero,Nat.sub_zero];have:HT.sIx xs.length xs.length (some (-1))=n:=by
  show(if (-1:Int)<0 then((-1:Int)+(xs.length:Int)).toNat else min (-1:Int).toNat xs.length)=n;rw[tW (by decide)];omega
 rw[this]
theorem ID{ns:List Int}{n:Nat}(h:ns.length=n+1):atI (ns.map V.int) (-1)=some (.int (ns.getD n 0)):=by
 have e:ns=ns.take n++[ns.getD n 0]:=by
  have:=List.take_append_drop n ns;rw[xA (by omega),gM (by omega)]at this;exact this.symm
 rw[e,mZ];have:(List.take n ns++[ns.getD n 0]).getD n 0=ns.getD n 0:=by rw[<-e]
 rw[this];exact CG _ _
theorem scRr:FnScope ["rim","at","count","numbers","bottom","shares"] ["rim","at","count"] (jL AL):=⟨rfl,rfl,rfl,by decide +kernel,rfl,by decide +kernel,by decide +kernel⟩
theorem OQ{fW:Addr}{fdW:FuncData}(F:Fun K "rim_row" "rim_row" AL f fd)(T:Txt mg)(DW:Df K mg "whole_numbers" BG ["one"] fW fdW)(GW:FnOk P w K mg base CX0 4 fW fdW ["one"] (ER K)):FnOk P w K mg base CX0 5 f fd ["rim","at","count"] (HC K):=by
 refine F.ok scRr (λvs H Q E h=>?_) (λcdv A outer s H vs Q E hr h=>?_)
 ·obtain⟨p,i,count,aa,z,ts,rfl,_⟩:=h
  rfl
 ·obtain⟨p,i,count,aa,z,ts,rfl,hP,zD,m1,m4,zb,zn,c10,go⟩:=h;refine⟨_,jB (qL (jG GW hr rfl DW.m DW.F.kp DW.b .nil jR (jA (pv 0) jC)) (qW rfl (jO (jI (i:=3) scRr.nd rfl (Or.inl rfl)) (jO (jI (i:=4) scRr.nd rfl (Or.inr rfl)) kS)))) (jB (yN (i:=5) scRr.nd rfl (Or.inl rfl) (own:=1) (idx:=[4,1]) (N:=["place","bottom","at"]) rfl rfl rfl (by decide +kernel) (by decide +kernel) (vV (by intro y hy;simp only[nP,mR,or_false]at hy;rcases hy with rfl | rfl<;>rfl)) (vO rfl) rfl (EL rfl rfl ⟨rfl,rfl,rfl,rfl⟩ ⟨rfl,rfl,rfl,rfl⟩) (vH (by rfl) T.rng (jA (jK kJ (pv 2) jD) jC)) (λC fp s2 H2=>(jI (i:=0) (show List.Nodup (["place","bottom","at"]:List Str) by decide +kernel) rfl (Or.inl rfl) (Or.inr rfl))) (λC fp s2 H2=>HP (jT xX (pv 0) (pv 2) (jY _)) (pv 1) jD)) (jE (jP (jK qY (jK qY (qM qK (pv 3) vW (qG (vI qJ jD))) (kM (jA jD (jA (jQ jW (pv 3) (vI qJ jD) (λ_ _=>rfl)) jC)))) (pv 5))))), ?_⟩;try dsimp only[cxK]
  refine⟨_,rfl,p,aa,z,ts,rfl,hP,zD,m1,m4,zb,zn,λr l H1 n1 s1 e1 e2=>?_⟩;have ln:(lvT (jN aa ts)).length=aa+1:=by rw[qQ,kY]
  refine⟨r,_,rfl,SqT.of e1,rfl,_,_,rfl,_,_,rfl,rfl, ?_⟩;refine⟨_,rfl,_,_,rfl,rfl,count+1,by rfl,by omega,by omega,λq H2 n2 s2 e3=>?_⟩;refine zM (n:=count+1) (CmI (λk=>((List.range k).map λj=>if j=i then lvD (jN aa ts)else 0).map V.int) q H1) (by rw[sizeLine_eq];omega) ⟨s2,e3,rfl⟩ (λ_ _ _ h=>h.e) ?_ ?_
  ·rintro k m' ys x H3 hx hm hy ⟨s3,e4,ey⟩;refine⟨uT,_,rfl,_,rfl,rfl,_,rfl, ?_⟩;have nx:∀v:Int,v=(if k=i then lvD (jN aa ts)else 0)->CmI (λk=>((List.range k).map λj=>if j=i then lvD (jN aa ts)else 0).map V.int) q H1 (k+1) (ys++[.int v]) (upd H3 q (.lst (ys++[.int v]))):=λv hv=>⟨kQ s3 n2,jF,by
    rw[ey,nE,mZ,mZ,hv]
    rfl⟩
   rw[vR,Int.zero_add];by_cases c:k=i
   ·exact vS (nG (by omega)) ⟨_,rfl,qA hx hm hy e4 (nx _ (tW c).symm)⟩
   ·exact vF (nA (by omega)) (qA hx hm hy e4 (nx _ (tV c).symm))
  ·rintro ys H3 hy ⟨s3,e4,ey⟩;have s13:=s3;have e2':=s3 _ _ e2;dsimp only[kR];refine⟨_,rfl,_,rfl,_,rfl,l,_,rfl,SqL.of e2',λl4 H4 n4 s4 e5=>⟨_,rfl,_,rfl,l,_,_,_,rfl,rfl,SqL.of (s4 _ _ e2'),ID ln,uY,λl5 H5 n5 s5 e6=>?_⟩⟩;rw[IO (n:=aa) (by rw[mY];exact ln),<-nV]at e5;refine⟨l4,l5,_,_,rfl,rfl,s5 _ _ e5,e6,by rw[mY,mQ,sizeLine_eq];show min aa _+2<=_;omega,λl6 H6 n6 s6 e7=>⟨_,rfl,l6,q,_,ys,rfl,rfl,e7, ?_, ?_,λl7 H7 n7 s7 e8=>?_⟩⟩
   ·exact(s4.trans (s5.trans s6)) _ _ e4
   ·rw[hV,mY,mQ,hy,sizeLine_eq];show min aa _+2+(count+1)<=_;omega
   refine go l7 H7 ((s1.trans (s3.trans (s4.trans (s5.trans s6)))).free n7) (s1.trans (s3.trans (s4.trans (s5.trans (s6.trans s7))))) ?_;rw[e8,ey];unfold kN;rw[mZ,mZ]
   rfl
structure RimsP(H:Hp)(a:Addr)(xs:List V)(aa:Nat)(z:Sz)(ad:List (List Trm)):Prop where
 at':H a=some (.lst xs)
 pr:Paired (λv ts=>∃p,v=.ref p/\Poly H p aa z ts) xs ad
theorem RimsP.same{H H':Hp}{a:Addr}{xs:List V}{aa:Nat}{z:Sz}{ad:List (List Trm)}(h:RimsP H a xs aa z ad)(s:Same H H'):RimsP H' a xs aa z ad:=⟨s _ _ h.at',Paired.to (λ_ _ ⟨p,e,q⟩=>⟨p,e,q.kp (Kp.of s)⟩) h.pr⟩
def jU(aa:Nat)(ad:List (List Trm)):List Rw:=(List.range ad.length).map λi=>kN aa (ad.getD i []) i ad.length
def uD(K:tX):Sp:=λvs H Q _=>∃(a:Addr) (xs:List V) (aa:Nat) (z:Sz) (ad:List (List Trm)),vs=[.ref a]/\RimsP H a xs aa z ad/\z.D<=1/\1<=aa/\aa<=4/\z.v+z.S<=2200/\z.n<=1000/\ad.length<=10/\
 ∀(p:Addr) (ys:List V) (H':Hp),H p=none->Same H H'->RwsP H' p ys (jU aa ad)->Q (.ref p) H'
structure RsI(H1:Hp)(q:Addr)(aa:Nat)(ad:List (List Trm))(i:Nat)(ys:List V)(H2:Hp):Prop where
 s:Same H1 H2
 e:H2 q=some (.lst ys)
 pr:Paired (RR H2) ys ((jU aa ad).take i)
theorem scRs:FnScope ["rims"] ["rims"] (jL yZ):=⟨rfl,rfl,rfl,by decide +kernel,rfl,by decide +kernel,by decide +kernel⟩
theorem KE{fR:Addr}{fdR:FuncData}(F:Fun K "rim_rows" "rim_rows" yZ f fd)(T:Txt mg)(DR:Df K mg "rim_row" AL ["rim","at","count"] fR fdR)(GR:FnOk P w K mg base CX0 5 fR fdR ["rim","at","count"] (HC K)):FnOk P w K mg base CX0 6 f fd ["rims"] (uD K):=by
 refine F.ok scRs (λvs H Q E h=>?_) (λcdv A outer s H vs Q E hr h=>?_)
 ·obtain⟨a,xs,aa,z,ad,rfl,_⟩:=h
  rfl
 ·obtain⟨a,xs,aa,z,ad,rfl,hR,zD,m1,m4,zb,zn,t10,go⟩:=h;refine⟨_,jE (jP (yF (own:=2) (idx:=[0]) (N:=["at","rim","rims"]) rfl rfl rfl (by decide +kernel) (by decide +kernel) (vV (by intro y hy;simp only[nP,mR,or_false]at hy;rcases hy with rfl;rfl)) (vO rfl) rfl (xN rfl ⟨rfl,rfl,rfl,rfl⟩) (HN (by rfl) T.enum (jA (pv 0) jC)) (λC fp s2 H2=>show PG (jJ _ ["at","rim","rims"] _ _ C fp s2 H2) _ (KQ K 2 (yI (kR 0) (yI (kR 1) gNil)))from qW (X:=jJ _ ["at","rim","rims"] _ _ C fp s2 H2) rfl (jO (jI (i:=0) (show List.Nodup (["at","rim","rims"]:List Str) by decide +kernel) rfl (Or.inl rfl) (Or.inr rfl)) (jO (jI (i:=1) (show List.Nodup (["at","rim","rims"]:List Str) by decide +kernel) rfl (Or.inl rfl) (Or.inr rfl)) kS))) (λC fp s2 H2=>jG GR hr rfl DR.m DR.F.kp DR.b .nil jR (jA (pv 1) (jA (pv 0) (jA (qC (show CallR (jJ _ ["at","rim","rims"] _ _ C fp s2 H2) (.builtin "len") (rLenS K)from qS) (by rfl) T.len PySem.boot_len (jA (pv 2) jC)) jC)))))), ?_⟩;try dsimp only[cxK]
  have lx:xs.length=ad.length:=Paired.length hR.pr;have lr:(jU aa ad).length=ad.length:=by unfold jU;rw[mY,mM]
  refine⟨_,rfl,a,rfl,⟨_,SqL.of hR.at'⟩,λq H1 n1 s1 e1=>?_⟩;refine IQ (K:=K) (a:=a) (xs:=xs) (RsI H q aa ad) (by rw[lx,sizeLine_eq];omega) ⟨s1,e1,.nil⟩ (λi ys H2 h=>⟨SqL.of (h.s _ _ hR.at'),h.e⟩) ?_ ?_
  ·intro i m' ys x c H2 hx hm hy h hc;obtain⟨ts,hts,p,rfl,hP⟩:=Paired.at hR.pr hx;have s2:Same H2 (upd H2 c (.tup [.int i,.ref p])):=kF _ hc;have e2:(upd H2 c (.tup [.int i,.ref p])) c=some (.tup [.int i,.ref p]):=jF;generalize upd H2 c (.tup [.int i,.ref p])=H3 at s2 e2;have s03:=h.s.trans s2;refine⟨c,_,rfl,SqT.of e2,rfl,_,_,rfl,_,_,rfl,rfl,MR, ?_⟩;refine⟨_,rfl,_,rfl,_,rfl,a,xs,rfl,.inl (SqL.of (s03 _ _ hR.at')),p,i,xs.length,aa,z,ts,rfl,hP.kp (Kp.of s03),zD,m1,m4,zb,zn,by omega,λr H4 n4 s4 e4=>?_⟩;refine qA hx hm hy ((s2.trans s4) _ _ h.e) ⟨kQ (s03.trans s4) n1,jF, ?_⟩;have e5:=(s2.trans s4) _ _ h.e;have pr4:Paired (RR H4) ys ((jU aa ad).take i):=Paired.to (λ_ _ k=>RR.same k (s2.trans s4)) h.pr;have tk:(jU aa ad).take (i+1)=(jU aa ad).take i++[kN aa ts i xs.length]:=by
    rw[mJ];have il:i<ad.length:=(gE.mp hts).1;have:(jU aa ad)[i]? = some (kN aa ts i xs.length):=by
     unfold jU;rw[mH,hJ il,lx];show some (kN aa (ad.getD i []) i ad.length)=_;rw[gA,hts]
     rfl
    rw[this]
    rfl
   rw[tk];refine Paired.app (BJ e5 (RE e5 pr4) pr4) (.cons ⟨r,rfl, ?_⟩ .nil);rw[jH λz=>by rw[z,s2 _ _ h.e]at n4;cases n4];exact e4
  ·intro ys H2 hy h;have:=h.pr;rw[lx,<-lr,mS]at this;exact go q ys H2 n1 h.s ⟨h.e,this⟩
def spDeg:Sp:=λvs H Q _=>∃(p:Addr) (aa:Nat) (z:Sz) (ts:List Trm),vs=[.ref p]/\Poly H p aa z ts/\aa<=4/\z.n<=1000/\z.D<=1000/\∀(m:Int) (H':Hp),Same H H'->m<=z.D->0<=m->(∀x∈ts,x.ns.sum<=m)->Q (.int m) H'
def spRefB:Sp:=λvs H Q _=>∃(a:Addr) (xs:List V) (aa:Nat) (z:Sz) (ad:List (List Trm)),vs=[.ref a]/\RimsP H a xs aa z ad/\z.D<=1/\aa<=4/\z.n<=1000/\∀H',Same H H'->Q .non H'
theorem LL:∀{l:List Int},(∀n∈l,0<=n)->0<=l.sum
 | [],_=>tQ _
 | a::l,h=>by
  rw[nU];have:=LL (l:=l) λn hn=>h n (by simp [hn]);have:=h a (by simp);omega
theorem RA:FnScope ["one"] ["one"] (jL wO):=⟨rfl,rfl,rfl,by decide +kernel,rfl,by decide +kernel,by decide +kernel⟩
theorem OV(F:Fun K "degree" "degree" wO f fd)(T:Txt mg):FnOk P w K mg base CX0 1 f fd ["one"] spDeg:=by
 refine F.ok RA (λvs H Q E h=>?_) (λcdv A outer s H vs Q E hr h=>?_)
 ·obtain⟨p,aa,z,ts,rfl,_⟩:=h
  rfl
 ·obtain⟨p,aa,z,ts,rfl,hP,m4,zn,zD,go⟩:=h;refine⟨_,jE (jP (LwMx.pe_maxD rfl (by rfl) T.max (jA (RV (N:=["powers","fraction"]) rfl rfl (by decide +kernel) (by decide +kernel) (by decide +kernel) (RQ (jQ kI (pv 0) jD (λ_ _=>rfl))) (λC fp s2 H2=>show PG (kO _ ["powers","fraction"] _ C fp s2 H2) _ (KQ K 2 (yI (kR 0) (yI (kR 1) gNil)))from qW (X:=kO _ ["powers","fraction"] _ C fp s2 H2) rfl (jO (jI (i:=0) (show List.Nodup (["powers","fraction"]:List Str) by decide +kernel) rfl (Or.inl rfl) (Or.inl rfl)) (jO (jI (i:=1) (show List.Nodup (["powers","fraction"]:List Str) by decide +kernel) rfl (Or.inl rfl) (Or.inl rfl)) kS))) (λC fp s2 H2=>qC (show CallR (kO _ ["powers","fraction"] _ C fp s2 H2) (.builtin "sum") (YL K)from EB rfl) (by rfl) T.sum boot_sum (jA (pv 0) jC))) jC) (VU jD ZM))), ?_⟩;obtain⟨q,o,xs,e1,e2,eo,pr⟩:=hP.ex;have lx:xs.length=ts.length:=Paired.length pr;have sq:∀{H':Hp},Same H H'->SqT K H' q xs:=λs=>.inl (.inr ⟨o,s _ _ e2⟩);refine⟨_,rfl,p,_,_,_,rfl,rfl,SqT.of e1,rfl,q,rfl,⟨xs,sq (Same.refl _)⟩,λl H1 n1 s1 e3=>?_⟩;refine UR (K:=K) (a:=q) (xs:=xs) (CmI (λk=>(ts.take k).map λx=>V.int x.ns.sum) l H) (by rw[lx];exact hU (nY hP.few zn) (by decide)) ⟨s1,e3,rfl⟩ (λi ys H2 h=>⟨sq h.s,h.e⟩) ?_ ?_
  ·rintro i m ys x H2 hx hm hy ⟨s2,e4,ey⟩;obtain⟨x',hx',tv⟩:=Paired.at pr hx;obtain⟨r,b,c,rfl,r1,r2,r3⟩:=tv.ex;have tm:=hP.each x' (gS hx');refine⟨r,_,rfl,SqT.of (s2 _ _ r1),rfl,_,_,rfl,_,_,rfl,rfl, ?_⟩;refine⟨_,rfl,b,x'.ns,rfl,SqT.of (s2 _ _ r2),λn hn=>⟨tm.nn n hn, ?_⟩,by rw[tm.len];omega, ?_⟩
   ·have:=FN tm.nn hn;have:=tm.deg;omega
   ·refine qA hx hm hy e4 ⟨kQ s2 n1,jF, ?_⟩;rw[ey,mJ,hx',mZ]
    rfl
  ·rintro ys H2 hl ⟨s2,e4,ey⟩;rw[lx,mS]at ey;have hm:ys=(ts.map λx=>x.ns.sum).map V.int:=by rw[ey,tJ];rfl
   refine⟨0,rfl,l,ts.map (λx=>x.ns.sum),rfl,by rw[<-hm];exact e4,λz=>?_,λm h1 h2=>?_⟩
   ·exact go 0 H2 s2 (by omega) uW λx hx=>nomatch (show x∈([]:List Trm)from List.map_eq_nil_iff.mp z▸hx)
   ·obtain⟨x,hx,rfl⟩:=tD.mp h1;exact go _ H2 s2 (hP.each x hx).deg (LL (hP.each x hx).nn) λy hy=>h2 _ (List.mem_map_of_mem hy)
inductive RbI(H:Hp)(a:Addr)(i:Nat):L2.St->Hp->Prop where
 | mk {H':Hp} {u:Option V} (s:Same H H'):RbI H a i [some (.ref a),u] H'
theorem scRb:FnScope ["some","one"] ["some"] (jL uM):=⟨rfl,rfl,rfl,by decide +kernel,rfl,by decide +kernel,by decide +kernel⟩
theorem WE{fD:Addr}{fdD:FuncData}(F:Fun K "refuse_bent" "refuse_bent" uM f fd)(DD:Df K mg "degree" wO ["one"] fD fdD)(GD:FnOk P w K mg base CX0 1 fD fdD ["one"] spDeg):FnOk P w K mg base CX0 2 f fd ["some"] spRefB:=by
 refine F.ok scRb (λvs H Q E h=>?_) (λcdv A outer s H vs Q E hr h=>?_)
 ·obtain⟨a,xs,aa,z,ad,rfl,_⟩:=h
  rfl
 ·obtain⟨a,xs,aa,z,ad,rfl,hR,zD,m4,zn,go⟩:=h;refine⟨_,jE (qZ PassesOwn.never rfl (kX (pv 0)) (jI (i:=1) scRb.nd rfl (Or.inl rfl)) (jE (kU (jT uP (jG GD hr rfl DD.m DD.F.kp DD.b .nil jR (jA (pv 1) jC)) jD (jY _)) (jE HL) kC))), ?_⟩;try dsimp only[cxK]
  refine⟨_,rfl,a,rfl,⟨_,SqL.of hR.at'⟩,vP (K:=K) (a:=a) (xs:=xs) (RbI H a) (.mk (Same.refl _)) (λi σ H1 _ h=>?_) (λi x σ H1 hx h=>?_) (fun σ H1 h=>?_)⟩
  ·obtain⟨s1⟩:=h;exact SqL.of (s1 _ _ hR.at')
  ·obtain⟨s1⟩:=h;obtain⟨ts,hts,p,rfl,hP⟩:=Paired.at hR.pr hx;refine⟨_,rfl,p,aa,z,ts,rfl,hP.kp (Kp.of s1),m4,zn,by omega,λm H2 s2 hm _ _=>⟨_,_,rfl,rfl,_,rfl,vF (nA (by omega)) (.mk (s1.trans s2))⟩⟩
  ·obtain⟨s1⟩:=h;exact go H1 s1
def shL(m n:Nat)(r:Rw):List Int:=(List.range n).map λi=>r.getD (m+2+i) 0
def wtL(m n:Nat)(r:Rw)(b:Int):List Rat:=(shL m n r).map λs=>((s:Int):Rat)/((b:Int):Rat)
theorem KU{r:Rw}{m n:Nat}(h:r.length=m+2+(n+1)):xJ (r.map V.int) (some ((m:Int)+2)) (some (-1))=(shL m n r).map V.int:=by
 unfold xJ;have e1:HT.sIx (r.map V.int).length 0 (some ((m:Int)+2))=m+2:=by
  rw[show((m:Int)+2)=((m+2:Nat):Int) by omega,HT.sIx_nat,mY];omega
 have e2:HT.sIx (r.map V.int).length (r.map V.int).length (some (-1))=m+2+n:=by
  show(if (-1:Int)<0 then((-1:Int)+((r.map V.int).length:Int)).toNat else min (-1:Int).toNat (r.map V.int).length)=_;rw[tW (by decide),mY];omega
 rw[e1,e2,show m+2+n-(m+2)=n by omega,<-List.map_drop,<-nV]
 congr 1
 refine List.ext_getElem? λj=>?_;unfold shL;rw[mH];by_cases hj:j<n
 ·rw[gH hj,List.getElem?_drop,hJ hj,gG (by omega)];show _=some (r.getD (m+2+j) 0);rw[gA,gG (by omega)]
  rfl
 ·rw[gP (by rw[mQ];omega),gP (by rw[mM];omega)]
  rfl
def QU(K:tX):Sp:=λvs H Q _=>∃(a:Addr) (m n:Nat) (b:Int) (r:Rw),vs=[.ref a,.int m,.int b]/\H a=some (.lst (r.map V.int))/\r.length=m+2+(n+1)/\n<=20/\b≠0/\b.natAbs<=2^3407/\(∀i∈r,i.natAbs<=2^3407)/\
 ∀(q:Addr) (ys:List V) (H':Hp),H q=none->Same H H'->H' q=some (.lst ys)->Paired (NumK K H') ys (wtL m n r b)->Q (.ref q) H'
structure ShI(K:tX)(H1:Hp)(q:Addr)(ws:List Rat)(i:Nat)(ys:List V)(H2:Hp):Prop where
 s:Same H1 H2
 e:H2 q=some (.lst ys)
 pr:Paired (NumK K H2) ys (ws.take i)
theorem nk_put{K:tX}{H:Hp}{q:Addr}{ys zs:List V}{o:HO}{ws:List Rat}(e:H q=some (.lst ys))(h:Paired (NumK K H) zs ws):Paired (NumK K (upd H q o)) zs ws:=Paired.to (λ_ _ k=>k.upd e) h
theorem scSh:FnScope ["row","many","bottom"] ["row","many","bottom"] (jL wN):=⟨rfl,rfl,rfl,by decide +kernel,rfl,by decide +kernel,by decide +kernel⟩
theorem ok_sho{fD:Addr}{fdD:FuncData}(F:Fun K "shares_over" "shares_over" wN f fd)(DD:Df K mg "divided" JP ["one","other"] fD fdD)(GD:FnOk P w K mg base CX0 3 fD fdD ["one","other"] (BF K)):FnOk P w K mg base CX0 4 f fd ["row","many","bottom"] (QU K):=by
 refine F.ok scSh (λvs H Q E h=>?_) (λcdv A outer s H vs Q E hr h=>?_)
 ·obtain⟨a,m,n,b,r,rfl,_⟩:=h
  rfl
 ·obtain⟨a,m,n,b,r,rfl,ha,hl,n20,hb,bb,br,go⟩:=h;refine⟨_,jE (jP (yF (own:=1) (idx:=[2]) (N:=["share","bottom"]) rfl rfl rfl (by decide +kernel) (by decide +kernel) (vV (by intro y hy;simp only[nP,mR,or_false]at hy;rcases hy with rfl;rfl)) (vO rfl) rfl (xN rfl ⟨rfl,rfl,rfl,rfl⟩) (kX (qM qK (pv 0) (qG (jK kJ (pv 1) jD)) (qG (vI qJ jD)))) (λC fp s2 H2=>(jI (i:=0) (show List.Nodup (["share","bottom"]:List Str) by decide +kernel) rfl (Or.inl rfl) (Or.inr rfl))) (λC fp s2 H2=>jG GD hr rfl DD.m DD.F.kp DD.b .nil jR (jA (jV (jA (pv 0) (jA jD jC))) (jA (jV (jA (pv 1) (jA jD jC))) jC))))), ?_⟩;try dsimp only[cxK]
  refine⟨_,rfl,_,rfl,_,_,rfl,rfl,_,rfl,_,rfl,_,rfl,a,_,rfl,SqL.of ha,λq1 H1 n1 s1 e1=>⟨q1,rfl,⟨_,SqL.of e1⟩,λq H2 n2 s2 e2=>?_⟩⟩;rw[KU hl]at e1;have nb:((b:Int):Rat)≠0:=λz=>hb (Rat.intCast_inj.mp (by rw[z];rfl));have lsh:(shL m n r).length=n:=by unfold shL;rw[mY,mM]
  have lw:(wtL m n r b).length=n:=by unfold wtL;rw[mY,lsh]
  have up:∀{i:Int},i.natAbs<=2^3407->SzR 7900 ((i:Int):Rat):=λh=>BV (hU h (gW (by decide) (by decide))) (by decide);refine xU (K:=K) (a:=q1) (xs:=(shL m n r).map V.int) (ShI K H1 q (wtL m n r b)) (by rw[mY,lsh,sizeLine_eq];omega) ⟨s2,e2,.nil⟩ (λi ys H3 h=>⟨SqL.of (h.s _ _ e1),h.e⟩) ?_ ?_
  ·intro i m' ys x H3 hx hm hy h;rw[mH]at hx;obtain⟨sv,hsv,rfl⟩:=Option.map_eq_some_iff.mp hx;have sm:sv.natAbs<=2^3407:=by
    unfold shL at hsv;rw[mH]at hsv;obtain⟨j,hj,rfl⟩:=Option.map_eq_some_iff.mp hsv;by_cases k:m+2+j<r.length
    ·exact br _ (vA k)
    ·rw[gA,gP (by omega)];exact tM _
   refine⟨uT,_,rfl,uY,λz1 H4 n4 s4 e4=>⟨_,rfl,uY,λz2 H5 n5 s5 e5=>?_⟩⟩;refine⟨z1,z2,_,_,_,_,rfl,wB (SqT.of (s5 _ _ e4)),wB (SqT.of e5),(up sm).fr uV,(up bb).fr uV,FI nb,λz3 H6 n6 s6 e6=>?_⟩;have e6:=UN nb e6;have s36:=s4.trans (s5.trans s6);refine qA (by rw[mH,hsv];rfl) hm hy (s36 _ _ h.e) ⟨kQ (h.s.trans s36) n2,jF, ?_⟩;have tk:(wtL m n r b).take (i+1)=(wtL m n r b).take i++[((sv:Int):Rat)/((b:Int):Rat)]:=by
    rw[mJ];have:(wtL m n r b)[i]? = some (((sv:Int):Rat)/((b:Int):Rat)):=by unfold wtL;rw[mH,hsv];rfl
    rw[this];rfl
   rw[tk];exact nk_put (s36 _ _ h.e) (Paired.app (Paired.to (λ_ _ k=>k.same s36) h.pr) (.cons (NumK.of e6) .nil))
  ·intro ys H3 hy h;have:=h.pr;rw[mY,lsh,gL (Nat.le_of_eq lw)]at this;exact go q ys H3 (s1.free n2) (s1.trans h.s) h.e this
def brk(m:Nat)(r:Rw):Bool:=decide (r.getD m 0=0)&&decide (r.getD (m+1) 0<0)
def QX(K:tX):Sp:=λvs H Q _=>∃(a:Addr) (m n:Nat) (xs:List V) (af:List Rw),vs=[.ref a,.int m]/\RwsP H a xs af/\(∀r∈af,r.length=m+2+(n+1))/\n<=20/\m<=4/\(∀r∈af,∀i∈r,i.natAbs<=2^3407)/\
 ((∀r∈af,brk m r=false)->∀H',Same H H'->Q .non H')/\(∀r∈af,brk m r=true->∀(q:Addr) (ys:List V) (H':Hp),H q=none->Same H H'->H' q=some (.lst ys)->Paired (NumK K H') ys (wtL m n r (-(r.getD (m+1) 0)))->Q (.ref q) H')
inductive BrI(H:Hp)(a:Addr)(m:Nat)(af:List Rw)(i:Nat):L2.St->Hp->Prop where
 | mk {H':Hp} {u2 u3 u4:Option V} (s:Same H H') (nb:∀r∈af.take i,brk m r=false):BrI H a m af i [some (.ref a),some (.int m),u2,u3,u4] H'
theorem NG{r:Rw}{m:Nat}(h:m+2<=r.length):xJ (r.map V.int) (some (m:Int)) (some ((m:Int)+2))=[V.int (r.getD m 0),.int (r.getD (m+1) 0)]:=by
 unfold xJ;rw[show((m:Int)+2)=((m+2:Nat):Int) by omega,HT.sIx_nat,HT.sIx_nat,mY,Nat.min_eq_left (show m+2<=r.length from h),Nat.min_eq_left (show m<=r.length by omega),show m+2-m=2 by omega,<-List.map_drop,<-nV,xA (by omega),xA (by omega)]
 rfl
theorem scBr:FnScope ["rows","many","row","level","lone"] ["rows","many"] (jL wP):=⟨rfl,rfl,rfl,by decide +kernel,rfl,by decide +kernel,by decide +kernel⟩
theorem ok_brk{fS:Addr}{fdS:FuncData}(F:Fun K "broken" "broken" wP f fd)(DS:Df K mg "shares_over" wN ["row","many","bottom"] fS fdS)(GS:FnOk P w K mg base CX0 4 fS fdS ["row","many","bottom"] (QU K)):FnOk P w K mg base CX0 5 f fd ["rows","many"] (QX K):=by
 refine F.ok scBr (λvs H Q E h=>?_) (λcdv A outer s H vs Q E hr h=>?_)
 ·obtain⟨a,m,n,xs,af,rfl,_⟩:=h
  rfl
 ·obtain⟨a,m,n,xs,af,rfl,rp,hl,n20,m4,hb,go1,go2⟩:=h;refine⟨_,jB (qZ PassesOwn.never rfl (kX (pv 0)) (jI (i:=2) scBr.nd rfl (Or.inl rfl)) (jB (qL (qM qK (pv 2) (qG (pv 1)) (qG (jK kJ (pv 1) jD))) (MA rfl (jO (jI (i:=3) scBr.nd rfl (Or.inl rfl)) (jO (jI (i:=4) scBr.nd rfl (Or.inl rfl)) kS)))) (jE (kU (PW.pt (FB (jT xX (pv 3) jD (jY _)) (AS (jT zX (pv 4) jD (jY _))))) (jE (jP (jG GS hr rfl DS.m DS.F.kp DS.b .nil jR (jA (pv 2) (jA (pv 1) (jA (vI qJ (pv 4)) jC)))))) kC)))) (jE (jP FE)), ?_⟩;try dsimp only[cxK]
  have lx:xs.length=af.length:=Paired.length rp.pr;refine⟨_,rfl,a,rfl,⟨_,SqL.of rp.at'⟩,vP (K:=K) (a:=a) (xs:=xs) (BrI H a m af) (.mk (Same.refl _) (λr h=>nomatch h)) (λi σ H1 _ h=>?_) (λi x σ H1 hx h=>?_) (fun σ H1 h=>?_)⟩
  ·obtain⟨s1,_⟩:=h;exact SqL.of (s1 _ _ rp.at')
  ·obtain⟨s1,nb⟩:=h;rename_i u2 u3 u4;obtain⟨r,hr',p,rfl,er⟩:=Paired.at rp.pr hx;have rm:=gS hr';have rl:=hl r rm;have er1:=s1 _ _ er;refine⟨_,rfl,_,rfl,_,rfl,_,rfl,_,_,rfl,rfl,_,rfl,p,_,rfl,SqL.of er1,λq2 H2 n2 s2 e2=>?_⟩;rw[NG (by omega)]at e2;refine⟨q2,_,rfl,SqL.of e2,rfl,_,_,rfl,_,_,rfl,rfl, ?_⟩;have next:brk m r=false->BrI H a m af (i+1) [some (.ref a),some (.int m),some (.ref p),some (.int (r.getD m 0)),some (.int (r.getD (m+1) 0))] H2:=λhb'=>.mk (s1.trans s2) λr' h'=>by
    rw[mJ,hr']at h';rcases nB.mp h' with h' | h'
    ·exact nb r' h'
    ·rw[mC.mp h'];exact hb'
   refine⟨_,rfl,rfl,_,rfl, ?_⟩;rw[vR];by_cases c1:r.getD m 0=0
   ·refine vS (nG c1) ⟨_,rfl,_,_,rfl,rfl,_,rfl, ?_⟩;by_cases c2:r.getD (m+1) 0<0
    ·have bt:brk m r=true:=by unfold brk;rw[nG c1,nG c2];rfl
     have mb:(r.getD (m+1) 0).natAbs<=2^3407:=hb r rm _ (vA (by omega));refine vS (nG c2) ⟨_,rfl,_,rfl,_,rfl,_,rfl,p,m,n,-(r.getD (m+1) 0),r,rfl,s2 _ _ er1,rl,n20,by omega,by rw[nK];exact mb,hb r rm,λq3 ys H3 n3 s3 e3 pr3=>?_⟩;exact go2 r rm bt q3 ys H3 ((s1.trans s2).free n3) (s1.trans (s2.trans s3)) e3 pr3
    ·exact vF (nA c2) (next (by unfold brk;rw[nA c2,Bool.and_false]))
   ·exact vF (nA c1) (AF (next (by unfold brk;rw[nA c1,Bool.false_and])))
  ·obtain⟨s1,nb⟩:=h;rw[lx,mS]at nb;exact go1 nb H1 s1
def wQ(aa:Nat)(ad:List (List Trm))(i j:Nat):Rat:=if j<aa then(jN aa (ad.getD i [])).getD j 0 else if j=aa then 0 else(jN aa (ad.getD i [])).getD aa 0
theorem xY(rs:List Rat)(j:Nat):(((lvT rs).getD j 0:Int):Rat)=rs.getD j 0*((lvD rs:Int):Rat):=by
 unfold lvT;rw[gA,gA,mH];cases e:rs[j]? with
 | none=>show((0:Int):Rat)=0*_;rw[tH];rfl
 | some r=>exact lv_val (gS e)
theorem wE(aa:Nat)(ts:List Trm)(i c:Nat):(kN aa ts i c).length=aa+2+(c+1):=by
 unfold kN;rw[hV,hV,mQ,qQ,kY,mY,mM,Nat.min_eq_left (by omega)]
 rfl
theorem OC{aa:Nat}{ts:List Trm}{i c j:Nat}(h:j<aa):(kN aa ts i c).getD j 0=(lvT (jN aa ts)).getD j 0:=by
 have l:=qQ (jN aa ts);rw[kY]at l;unfold kN;rw[gA,mK,gF (by rw[mQ];omega),gH h,gA]
theorem uF{aa:Nat}{ts:List Trm}{i c:Nat}(j:Nat):(kN aa ts i c).getD (aa+j) 0=([0,(lvT (jN aa ts)).getD aa 0]++(List.range (c+1)).map λk=>if k=i then lvD (jN aa ts)else 0).getD j 0:=by
 have l:=qQ (jN aa ts);rw[kY]at l;unfold kN;have lt:((lvT (jN aa ts)).take aa).length=aa:=by rw[mQ];omega
 rw[gA,mK,gC (by omega),lt,Nat.add_sub_cancel_left,<-gA]
theorem uE{aa:Nat}{ts:List Trm}{i c:Nat}(hi:i<=c)(k:Nat):(kN aa ts i c).getD (aa+2+k) 0=if k=i then lvD (jN aa ts)else 0:=by
 rw[show aa+2+k=aa+(2+k) by omega,uF,gA,gC (by show 2<=2+k;omega)];show(((List.range (c+1)).map λk=>if k=i then lvD (jN aa ts)else 0)[2+k-2]?).getD 0=_;rw[Nat.add_sub_cancel_left,mH];by_cases h:k<c+1
 ·rw[hJ h];rfl
 ·rw[gP (by rw[mM];omega),tV (by omega)];rfl
theorem MZ{n i:Nat}(hi:i<n){a v:Nat->Rat}(h:∀k,k≠i->v k=0):dot (List.range n) a v=a i*v i:=by
 rw[uJ (nI.mpr hi),xS (I:=(List.range n).erase i) λk hk=>h k ((List.nodup_range.mem_erase_iff.mp hk).1),tF]
theorem wM{aa:Nat}{ts:List Trm}{i c:Nat}(hi:i<=c)(k:Nat):shr aa (kN aa ts i c) k=if k=i then((lvD (jN aa ts):Int):Rat)else 0:=by
 unfold shr;rw[uE hi];split<;>rfl
theorem RH{aa:Nat}{ad:List (List Trm)}{i:Nat}(hi:i<ad.length):RowOk aa (ad.length+1) ad.length (wQ aa ad) 0 (kN aa (ad.getD i []) i ad.length):=by
 refine⟨wE ..,λj hj=>?_,λk=>?_,λk hk=>?_,λj hj=>by omega⟩
 ·rw[MZ hi λk hk=>by rw[wM (by omega),tV hk],wM (by omega),tW rfl];unfold wQ;by_cases h1:j<aa
  ·rw[tW h1,OC h1,xY]
  ·by_cases h2:j=aa
   ·rw[tV h1,tW h2,h2,tH];have:=uF (aa:=aa) (ts:=ad.getD i []) (i:=i) (c:=ad.length) 0;rw[Nat.add_zero]at this;rw[this]
    rfl
   ·obtain rfl:j=aa+1:=by omega
    rw[tV h1,tV h2,uF 1,<-xY]
    rfl
 ·rw[uE (by omega)];have:=vD (jN aa (ad.getD i []));split<;>omega
 ·rw[uE (by omega),tV (by omega)]
theorem rimRows_mem{aa:Nat}{ad:List (List Trm)}{r:Rw} :r∈jU aa ad↔∃i,i<ad.length/\r=kN aa (ad.getD i []) i ad.length:=by
 unfold jU;rw[tD];exact⟨λ⟨i,h,e⟩=>⟨i,nI.mp h,e.symm⟩,λ⟨i,h,e⟩=>⟨i,nI.mpr h,e.symm⟩⟩
theorem AR(aa:Nat)(ad:List (List Trm)):StOk aa (ad.length+1) ad.length (wQ aa ad) 0 (jU aa ad):=by
 refine⟨λr hr=>?_,λs hs=>?_⟩
 ·obtain⟨i,hi,rfl⟩:=rimRows_mem.mp hr;exact RH hi
 ·have key:∀k,k<=ad.length->Cone (λv=>∃r∈jU aa ad,v=shr aa r) λi=>if i<k then s i else 0:=λk=>by
   induction k with
   | zero=>exact λ_=>Cone.zero.eq λi=>tV (by omega)
   | succ k ih=>
    intro hk;have D0:(0:Rat)<((lvD (jN aa (ad.getD k [])):Int):Rat):=by exact_mod_cast vD _
    refine(Cone.add (ih (by omega)) (Cone.gen (t:=s k*(((lvD (jN aa (ad.getD k [])):Int):Rat))⁻¹) ⟨_,rimRows_mem.mpr ⟨k,by omega,rfl⟩,rfl⟩ (nM (hs.nn k) (BT D0)))).eq λi=>?_;rw[wM (by omega)];by_cases h1:i<k
    ·rw[tW (by omega),tW h1,tV (by omega),tG,tF]
    ·by_cases h2:i=k
     ·rw[tW (by omega),tV h1,tW h2,h2,tE,Rat.mul_assoc,Rat.inv_mul_cancel _ (by grind),Rat.mul_one]
     ·rw[tV (by omega),tV h1,tV h2,tG,tF]
  refine(key ad.length uV).eq λi=>?_;by_cases h:i<ad.length
  ·rw[tW h]
  ·rw[tV h,hs.out i (by omega)]
def vU(aa:Nat)(ad:List (List Trm))(ws:List Rat)(j:Nat):Rat:=dot (List.range ad.length) (λi=>(jN aa (ad.getD i [])).getD j 0) (λi=>ws.getD i 0)
def uS(aa:Nat)(ad:List (List Trm)):Bool:=!(kD aa (jU aa ad) aa).any (brk aa)
theorem QH{m n:Nat}{r:Rw}{b:Int}{i:Nat}(h:i<n):(wtL m n r b).getD i 0=shr m r i/((b:Int):Rat):=by
 unfold wtL shL;rw[gA,tJ,mH,hJ h]
 rfl
theorem NA(I:List Nat)(a v:Nat->Rat)(b:Rat):dot I a (λi=>v i/b)=dot I a v/b:=by
 rw[tO,Rat.mul_comm,<-xB];refine jZ λi _=>?_;rw[tO,Rat.mul_comm (v i)]
theorem WS{aa:Nat}{ad:List (List Trm)}{r:Rw}(hr:r∈kD aa (jU aa ad) aa)(hb:brk aa r=true):(∀j,j<aa->vU aa ad (wtL aa ad.length r (-(r.getD (aa+1) 0))) j=0)/\vU aa ad (wtL aa ad.length r (-(r.getD (aa+1) 0))) aa = -1/\∀w∈wtL aa ad.length r (-(r.getD (aa+1) 0)),0<=w:=by
 have ro:=(xQ (AR aa ad) (by omega) aa uV).ok r hr;unfold brk at hb;rw[Bool.and_eq_true]at hb;obtain⟨b1,b2⟩:=hb;have b1:=mL b1;have b2:=mL b2;have b0:(0:Rat)<((-(r.getD (aa+1) 0):Int):Rat):=by exact_mod_cast (show(0:Int) < -(r.getD (aa+1) 0) by omega)
 have ws:∀j,vU aa ad (wtL aa ad.length r (-(r.getD (aa+1) 0))) j=dot (List.range ad.length) (λi=>(jN aa (ad.getD i [])).getD j 0) (shr aa r)/((-(r.getD (aa+1) 0):Int):Rat):=λj=>by
  unfold vU;rw[<-NA];exact jZ λi hi=>by rw[QH (nI.mp hi)]
 refine⟨λj hj=>?_, ?_,λw hw=>?_⟩
 ·have l:=ro.lin j (by omega);rw[ro.z j hj]at l;rw[ws,tO];have:dot (List.range ad.length) (λi=>(jN aa (ad.getD i [])).getD j 0) (shr aa r)=0:=by
   refine Eq.trans ?_ l.symm;exact jZ λi _=>by unfold wQ;rw[tW hj]
  rw[this,tH]
 ·have l:=ro.lin (aa+1) (by omega);have:dot (List.range ad.length) (λi=>(jN aa (ad.getD i [])).getD aa 0) (shr aa r)=((r.getD (aa+1) 0:Int):Rat):=by
   rw[l];exact jZ λi _=>by unfold wQ;rw[tV (by omega),tV (by omega)]
  rw[ws,this];have e:((-(r.getD (aa+1) 0):Int):Rat) = -((r.getD (aa+1) 0:Int):Rat):=by push_cast;rfl
  rw[e]at b0 ⊢
  grind
 ·unfold wtL shL at hw;rw[tJ]at hw;obtain⟨i,_,rfl⟩:=tD.mp hw;show 0<=((r.getD (aa+2+i) 0:Int):Rat)/_;rw[tO];exact nM (by exact_mod_cast ro.nn i) (BT b0)
def lnV(N ks:List Rat):Rat:=dot (List.range ks.length) (λj=>N.getD j 0) (λj=>ks.getD j 0)+N.getD ks.length 0
theorem xP(m:Nat)(st:Nat->List Rw)(T:Rat):∀k,qF m st T k=(qF m st T k).take k++[T,1]
 | 0=>rfl
 | k+1=>by
  show _::qF m st T k=_::((qF m st T k).take k++[T,1]);rw[<-xP m st T k]
theorem wD:∀(as bs:List Int) (ks ls:List Rat),as.length=ks.length->rw' (as++bs) (ks++ls)=rw' as ks+rw' bs ls
 | [],bs,[],ls,_=>by show rw' bs ls=0+_;rw[tE]
 | a::as,bs,k::ks,ls,h=>by
  show _+rw' (as++bs) (ks++ls)=_+rw' as ks+_;rw[wD as bs ks ls (by simpa using h),Rat.add_assoc]
 | [],_,_::_,_,h=>by simp at h
 | _::_,_,[],_,h=>by simp at h
theorem RI{aa:Nat}{ts:List Trm}{i c:Nat}{ks:List Rat}(hk:ks.length=aa):rw' (kN aa ts i c) (ks++[0,1])=((lvD (jN aa ts):Int):Rat)*lnV (jN aa ts) ks:=by
 have l:=qQ (jN aa ts);rw[kY]at l;unfold kN;rw[mK,wD _ _ _ _ (by rw[mQ];omega)];show _+(((0:Int):Rat)*0+((((lvT (jN aa ts)).getD aa 0:Int):Rat)*1+rw' _ []))=_;rw[vL,xY];have:=FU ((lvT (jN aa ts)).take aa) ks (by rw[mQ];omega);rw[<-this];unfold lnV;rw[hk];have e:dot (List.range aa) (λj=>((((lvT (jN aa ts)).take aa).getD j 0:Int):Rat)) (λj=>ks.getD j 0)=((lvD (jN aa ts):Int):Rat)*dot (List.range aa) (λj=>(jN aa ts).getD j 0) (λj=>ks.getD j 0):=by
  rw[<-xB];refine jZ λj hj=>?_;rw[gA,gH (nI.mp hj),<-gA,xY,Rat.mul_assoc]
 rw[e]
 grind
theorem IF{aa:Nat}{ad:List (List Trm)}(hk:uS aa ad=true):∀r∈kD aa (jU aa ad) aa,0<=rw' (r.drop aa) [0,1]:=λr hr=>by
 have ro:=(xQ (AR aa ad) (by omega) aa uV).ok r hr;unfold uS at hk;have nb:brk aa r=false:=by
  cases e:brk aa r with
  | false=>rfl
  | true=>rw[List.any_eq_true.mpr ⟨r,hr,e⟩]at hk;cases hk
 have l:=ro.lin aa (by omega);rw[jZ (a':=λ_=>0) (v':=λ_=>0) (λi _=>by unfold wQ;rw[tV (by omega),tW rfl,tH,tH]),xS (λ_ _=>rfl)]at l;have z:r.getD aa 0=0:=by exact_mod_cast l
 unfold brk at nb;rw[nG z,Bool.true_and]at nb;have nb:=of_decide_eq_false nb;have:=ro.len;rw[xA (by omega),xA (by omega)];show 0<=((r.getD aa 0:Int):Rat)*0+(((r.getD (aa+1) 0:Int):Rat)*1+rw' _ []);rw[vL,tG,tE,Rat.mul_one,tF]
 exact_mod_cast (show(0:Int)<=_ by omega)
theorem XF{aa:Nat}{ad:List (List Trm)}(hk:uS aa ad=true):∀ts∈ad,0<=lnV (jN aa ts) ((qF aa (kD aa (jU aa ad)) 0 aa).take aa):=λts ht=>by
 obtain⟨i,hi⟩:=gQ.mp ht;have il:=(gE.mp hi).1;have g:=(yE (AR aa ad) (by omega) (T:=0) (IF hk) aa uV).1;rw[Nat.sub_self]at g;have g:=g _ (rimRows_mem.mpr ⟨i,il,rfl⟩);have sl:=qU aa (kD aa (jU aa ad)) 0 aa;rw[List.drop_zero,xP,RI (by rw[mQ];omega),gA,hi,Option.getD_some]at g;have D0:(0:Rat)<((lvD (jN aa ts):Int):Rat):=by exact_mod_cast vD _
 refine gD λn=>?_;have:=Rat.mul_pos D0 (b:=-lnV (jN aa ts) ((qF aa (kD aa (jU aa ad)) 0 aa).take aa)) (by grind)
 grind
def kT(aa j:Nat):List Int:=(List.range aa).map λk=>if k=j then 1 else 0
theorem CP(aa j:Nat):(kT aa j).length=aa:=by simp [kT]
theorem wZ{aa j k:Nat}(h:k<aa):(kT aa j)[k]? = some (if k=j then 1 else 0):=by
 unfold kT;rw[mH,hJ h]
 rfl
theorem QL{aa i j:Nat}(hi:i<=aa)(hj:j<=aa)(h:kT aa i=kT aa j):i=j:=by
 by_cases e:i=j
 ·exact e
 ·have key:∀a b:Nat,a<aa->a≠b->kT aa a≠kT aa b:=λa b ha n z=>by
   have g1:=wZ (j:=a) ha;rw[z,wZ ha,tW rfl,tV n]at g1;cases g1
  by_cases c:i<aa
  ·exact absurd h (key i j c e)
  ·exact absurd h.symm (key j i (by omega) λz=>e z.symm)
theorem UM(I:List Nat)(a b v:Nat->Rat):dot I (λi=>a i+b i) v=dot I a v+dot I b v:=by
 induction I with
 | nil=>show(0:Rat)=0+0;grind
 | cons i I ih=>rw[kA,kA,kA,ih];grind
theorem JG(n:Nat):kT (n+1) 0=1::kT n n:=by
 unfold kT;rw[List.range_succ_eq_map,nO,tJ]
 congr 1
 refine List.map_congr_left λk hk=>?_;have:=nI.mp hk;show(if k+1=0 then(1:Int)else 0)=_;rw[tV (by omega),tV (by omega)]
theorem NQ(n j:Nat):kT (n+1) (j+1)=0::kT n j:=by
 unfold kT;rw[List.range_succ_eq_map,nO,tJ,tV (by omega)]
 congr 1
 refine List.map_congr_left λk hk=>?_;show(if k+1=j+1 then(1:Int)else 0)=_;by_cases e:k=j
 ·rw[tW e,tW (by omega)]
 ·rw[tV e,tV (by omega)]
def kZ(aa:Nat)(N:List Rat)(c:Nat):Rw:=((lvT N).take aa).map (λz=>-z)++[lvD N,-((lvT N).getD aa 0)]++List.replicate c 0++[lvD N]
theorem uH{aa:Nat}{N:List Rat}(h:N.length=aa+1)(c:Nat):(kZ aa N c).length=aa+2+(c+1):=by
 have l:=qQ N;unfold kZ;rw[hV,hV,hV,mY,mQ,gO,l,h,Nat.min_eq_left (by omega)];show aa+2+c+1=_;omega
theorem SY{aa:Nat}{N:List Rat}(h:N.length=aa+1){c j:Nat}(hj:j<aa):(kZ aa N c).getD j 0 = -((lvT N).getD j 0):=by
 have l:=qQ N;unfold kZ;rw[gA,mK,mK,gF (by rw[mY,mQ];omega),mH,gH hj,gA,gG (by omega)]
 rfl
theorem BS{aa:Nat}{N:List Rat}(h:N.length=aa+1){c:Nat}(j:Nat):(kZ aa N c).getD (aa+j) 0=(lvD N::-((lvT N).getD aa 0)::(List.replicate c 0++[lvD N])).getD j 0:=by
 have l:=qQ N;unfold kZ;have lt:(((lvT N).take aa).map (λz=>-z)).length=aa:=by rw[mY,mQ];omega
 rw[gA,mK,mK,gC (by omega),lt,Nat.add_sub_cancel_left,<-gA]
 rfl
theorem BR{aa:Nat}{N:List Rat}(h:N.length=aa+1){c:Nat}(k:Nat):(kZ aa N c).getD (aa+2+k) 0=if k=c then lvD N else 0:=by
 rw[show aa+2+k=aa+(k+2) by omega,BS h,gA,gJ,gJ];by_cases h1:k<c
 ·rw[gF (by rw[gO];exact h1),List.getElem?_replicate,tW h1,tV (by omega)];rfl
 ·rw[gC (by rw[gO];omega),gO];by_cases h2:k=c
  ·rw[h2,Nat.sub_self,tW rfl];rfl
  ·rw[gP (by show 1<=k-c;omega),tV h2];rfl
theorem EU{aa:Nat}{N:List Rat}(h:N.length=aa+1){c:Nat}(k:Nat):shr aa (kZ aa N c) k=if k=c then((lvD N:Int):Rat)else 0:=by
 unfold shr;rw[BR h];split<;>rfl
def zU(aa:Nat)(ad:List (List Trm))(N:List Rat)(i j:Nat):Rat:=if i<ad.length then wQ aa ad i j else if j<aa then -(N.getD j 0)else if j=aa then 1 else -(N.getD aa 0)
def kG(aa:Nat)(ad:List (List Trm))(N:List Rat):List Rw:=jU aa ad++[kZ aa N ad.length]
theorem RF{m S n e:Nat}{rim rim':Nat->Nat->Rat}{r:Rw}(h:RowOk m S n rim e r)(he:∀i j,i<n->rim' i j=rim i j):RowOk m S (n+1) rim' e r:=by
 refine⟨h.len,λj hj=>?_,h.nn,λi hi=>h.out i (by omega),h.z⟩;have z:shr m r n=0:=by unfold shr;rw[h.out n uV];rfl
 rw[nE,wW,kA,vX,z,tG,tF,tF,h.lin j hj];exact jZ λi hi=>by rw[he i j (nI.mp hi)]
theorem YR{aa:Nat}{ad:List (List Trm)}{N:List Rat}(h:N.length=aa+1):RowOk aa (ad.length+1) (ad.length+1) (zU aa ad N) 0 (kZ aa N ad.length):=by
 refine⟨uH h _,λj hj=>?_,λk=>?_,λk hk=>?_,λj hj=>by omega⟩
 ·rw[MZ (mW _) λk hk=>by rw[EU h,tV hk],EU h,tW rfl];unfold zU;rw[tV (nQ _)];by_cases h1:j<aa
  ·rw[tW h1,SY h h1,nF,xY,Rat.neg_mul]
  ·by_cases h2:j=aa
   ·rw[tV h1,tW h2,h2,Rat.one_mul];have:=BS h (c:=ad.length) 0;rw[Nat.add_zero]at this;rw[this]
    rfl
   ·obtain rfl:j=aa+1:=by omega
    rw[tV h1,tV h2,BS h 1];show((-((lvT N).getD aa 0):Int):Rat)=_;rw[nF,xY,Rat.neg_mul]
 ·rw[BR h];have:=vD N;split<;>omega
 ·rw[BR h,tV (by omega)]
theorem QR{m n:Nat}{A:List Vc}{af:List Rw}(h:∀i,i<n->∃r∈af,∃d:Rat,0<d/\∀k,shr m r k=if k=i then d else 0):∀s,InC n A s->Cone (λv=>∃r∈af,v=shr m r) s:=λs hs=>by
 have key:∀k,k<=n->Cone (λv=>∃r∈af,v=shr m r) λi=>if i<k then s i else 0:=λk=>by
  induction k with
  | zero=>exact λ_=>Cone.zero.eq λi=>tV (by omega)
  | succ k ih=>
   intro hk;obtain⟨r,hr,d,D0,e⟩:=h k (by omega);refine(Cone.add (ih (by omega)) (Cone.gen (t:=s k*d⁻¹) ⟨r,hr,rfl⟩ (nM (hs.nn k) (BT D0)))).eq λi=>?_;rw[e];by_cases h1:i<k
   ·rw[tW (by omega),tW h1,tV (by omega),tG,tF]
   ·by_cases h2:i=k
    ·rw[tW (by omega),tV h1,tW h2,h2,tE,Rat.mul_assoc,Rat.inv_mul_cancel _ (by grind),Rat.mul_one]
    ·rw[tV (by omega),tV h1,tV h2,tG,tF]
 refine(key n uV).eq λi=>?_;by_cases c:i<n
 ·rw[tW c]
 ·rw[tV c,hs.out i (by omega)]
theorem all_mem{aa:Nat}{ad:List (List Trm)}{N:List Rat}{r:Rw} :r∈kG aa ad N↔(∃i,i<ad.length/\r=kN aa (ad.getD i []) i ad.length)∨r=kZ aa N ad.length:=by
 unfold kG;rw[nB,mC,rimRows_mem]
theorem NN{aa:Nat}{ad:List (List Trm)}{N:List Rat}(h:N.length=aa+1)(i:Nat)(hi:i<ad.length+1):∃r∈kG aa ad N,∃d:Rat,0<d/\∀k,shr aa r k=if k=i then d else 0:=by
 by_cases c:i<ad.length
 ·exact⟨_,all_mem.mpr (.inl ⟨i,c,rfl⟩),_,(by exact_mod_cast vD (jN aa (ad.getD i []))),λk=>wM (by omega) k⟩
 ·obtain rfl:i=ad.length:=by omega
  exact⟨_,all_mem.mpr (.inr rfl),_,(by exact_mod_cast vD N),λk=>EU h k⟩
theorem GJ{aa:Nat}{ad:List (List Trm)}{N:List Rat}(h:N.length=aa+1):∀r∈kG aa ad N,RowOk aa (ad.length+1) (ad.length+1) (zU aa ad N) 0 r:=λr hr=>by
 rcases all_mem.mp hr with⟨i,hi,rfl⟩ | rfl
 ·exact RF (RH hi) λi j hi=>tW hi
 ·exact YR h
theorem GF{aa:Nat}{ad:List (List Trm)}{N:List Rat}(h:N.length=aa+1):StOk aa (ad.length+1) (ad.length+1) (zU aa ad N) 0 (kG aa ad N):=
 ⟨GJ h,QR (NN h)⟩
abbrev xI(aa:Nat)(ad:List (List Trm))(N:List Rat):List Rw:=kD aa (kG aa ad N) aa
abbrev RD(aa:Nat)(ad:List (List Trm))(r:Rw)(j:Nat):Rat:=dot (List.range ad.length) (λi=>(jN aa (ad.getD i [])).getD j 0) (shr aa r)
structure EndOk(aa:Nat)(ad:List (List Trm))(N:List Rat)(r:Rw):Prop where
 lev:r.getD aa 0=r.getD (aa+2+ad.length) 0
 lv0:0<=r.getD aa 0
 let':∀j,j<aa->RD aa ad r j=N.getD j 0*((r.getD aa 0:Int):Rat)
 lone:((r.getD (aa+1) 0:Int):Rat)=RD aa ad r aa-N.getD aa 0*((r.getD aa 0:Int):Rat)
 nn:∀i,0<=r.getD (aa+2+i) 0
 len:r.length=aa+2+(ad.length+1)
theorem BY{aa:Nat}{ad:List (List Trm)}{N:List Rat}(h:N.length=aa+1){r:Rw}(hr:r∈xI aa ad N):EndOk aa ad N r:=by
 have ro:=(xQ (GF h) uV aa uV).ok r hr;have sp:∀j,dot (List.range (ad.length+1)) (λi=>zU aa ad N i j) (shr aa r)=dot (List.range ad.length) (λi=>wQ aa ad i j) (shr aa r)+zU aa ad N ad.length j*shr aa r ad.length:=λj=>by
  rw[nE,wW,kA,vX,tF]
  congr 1
  exact jZ λi hi=>by unfold zU;rw[tW (nI.mp hi)]
 have l0:=ro.lin aa (by omega);have ra:zU aa ad N ad.length aa=1:=by unfold zU;rw[tV (nQ _),tV (nQ _),tW rfl]
 have z0:dot (List.range ad.length) (λi=>wQ aa ad i aa) (shr aa r)=0:=by
  rw[jZ (a':=λ_=>0) (v':=λ_=>0) (λi _=>by unfold wQ;rw[tV (nQ _),tW rfl,tH,tH]),xS λ_ _=>rfl]
 rw[sp,ra,z0,tE,Rat.one_mul]at l0;have e0:r.getD aa 0=r.getD (aa+2+ad.length) 0:=by unfold shr at l0;exact_mod_cast l0
 refine⟨e0,by rw[e0];exact ro.nn _,λj hj=>?_, ?_,ro.nn,ro.len⟩
 ·have l:=ro.lin j (by omega);rw[ro.z j hj,sp]at l;have rb:zU aa ad N ad.length j = -(N.getD j 0):=by unfold zU;rw[tV (nQ _),tW hj]
  have rc:dot (List.range ad.length) (λi=>wQ aa ad i j) (shr aa r)=RD aa ad r j:=jZ λi _=>by unfold wQ;rw[tW hj]
  rw[rb,rc,<-l0]at l;have:((0:Int):Rat)=0:=rfl
  grind
 ·have l:=ro.lin (aa+1) (by omega);rw[sp]at l;have rb:zU aa ad N ad.length (aa+1) = -(N.getD aa 0):=by unfold zU;rw[tV (nQ _),tV (by omega),tV (by omega)]
  have rc:dot (List.range ad.length) (λi=>wQ aa ad i (aa+1)) (shr aa r)=RD aa ad r aa:=jZ λi _=>by unfold wQ;rw[tV (by omega),tV (by omega)]
  rw[rb,rc,<-l0]at l;rw[l]
  grind
theorem LA{aa:Nat}{ad:List (List Trm)}{r:Rw}{b:Int}(j:Nat):vU aa ad (wtL aa ad.length r b) j=RD aa ad r j/((b:Int):Rat):=by
 unfold vU;rw[<-NA];exact jZ λi hi=>by rw[QH (nI.mp hi)]
theorem YG{aa:Nat}{ad:List (List Trm)}{N:List Rat}{r:Rw}(h:EndOk aa ad N r){b:Int}(hb:0<b):∀w∈wtL aa ad.length r b,0<=w:=λw hw=>by
 unfold wtL shL at hw;rw[tJ]at hw;obtain⟨i,_,rfl⟩:=tD.mp hw;show 0<=((r.getD (aa+2+i) 0:Int):Rat)/_;rw[tO];exact nM (by exact_mod_cast h.nn i) (BT (by exact_mod_cast hb))
theorem none_x{aa:Nat}{ad:List (List Trm)}{N:List Rat}(h:N.length=aa+1){r:Rw}(hr:r∈xI aa ad N)(hb:brk aa r=true):(∀j,j<aa->vU aa ad (wtL aa ad.length r (-(r.getD (aa+1) 0))) j=0)/\vU aa ad (wtL aa ad.length r (-(r.getD (aa+1) 0))) aa = -1/\∀w∈wtL aa ad.length r (-(r.getD (aa+1) 0)),0<=w:=by
 have eo:=BY h hr;unfold brk at hb;rw[Bool.and_eq_true]at hb;have b1:=mL hb.1;have b2:=mL hb.2;have b0:(0:Rat)<((-(r.getD (aa+1) 0):Int):Rat):=by exact_mod_cast (show(0:Int) < -(r.getD (aa+1) 0) by omega)
 have lo:=eo.lone;have e:((-(r.getD (aa+1) 0):Int):Rat) = -((r.getD (aa+1) 0:Int):Rat):=by push_cast;rfl
 have z:((0:Int):Rat)=0:=rfl;rw[b1,z,tG]at lo;refine⟨λj hj=>?_, ?_,YG eo (by omega)⟩
 ·rw[LA,eo.let' j hj,b1,z,tG,tO,tH]
 ·rw[LA];rw[e]at b0 ⊢
  grind
theorem best_x{aa:Nat}{ad:List (List Trm)}{N:List Rat}(h:N.length=aa+1){r:Rw}(hr:r∈xI aa ad N)(hb:0<r.getD aa 0):(∀j,j<aa->vU aa ad (wtL aa ad.length r (r.getD aa 0)) j=N.getD j 0)/\((-(r.getD (aa+1) 0):Int):Rat)/((r.getD aa 0:Int):Rat)+vU aa ad (wtL aa ad.length r (r.getD aa 0)) aa=N.getD aa 0/\∀w∈wtL aa ad.length r (r.getD aa 0),0<=w:=by
 have eo:=BY h hr;have b0:(0:Rat)<((r.getD aa 0:Int):Rat):=by exact_mod_cast hb
 have lo:=eo.lone;have e:((-(r.getD (aa+1) 0):Int):Rat) = -((r.getD (aa+1) 0:Int):Rat):=by push_cast;rfl
 refine⟨λj hj=>?_, ?_,YG eo hb⟩
 ·rw[LA,eo.let' j hj];generalize ((r.getD aa 0:Int):Rat)=L at *
  grind
 ·rw[LA,e,lo];generalize ((r.getD aa 0:Int):Rat)=L at *
  grind
def yM(m:Nat)(b:Option Rw)(r:Rw):Option Rw:=if r.getD m 0>0/\(∀x∈b,r.getD (m+1) 0*x.getD m 0<x.getD (m+1) 0*r.getD m 0)then some r else b
def wA(m:Nat)(af:List Rw):Option Rw:=af.foldl (yM m) none
structure TgOk(m:Nat)(af:List Rw)(b:Option Rw):Prop where
 some:∀x∈b,x∈af/\0<x.getD m 0/\∀r∈af,0<r.getD m 0->x.getD (m+1) 0*r.getD m 0<=r.getD (m+1) 0*x.getD m 0
 none:b=none->∀r∈af,r.getD m 0<=0
theorem mul_tr{a A b B c C:Int}(hA:0<A)(hB:0<B)(hC:0<C)(h1:a*B<b*A)(h2:b*C<=c*B):a*C<=c*A:=by
 have k1:a*B*C<=b*A*C:=Int.mul_le_mul_of_nonneg_right (Int.le_of_lt h1) (Int.le_of_lt hC);have k2:b*C*A<=c*B*A:=Int.mul_le_mul_of_nonneg_right h2 (Int.le_of_lt hA);have:a*C*B<=c*A*B:=by
  have e1:a*C*B=a*B*C:=by grind
  have e2:c*A*B=c*B*A:=by grind
  have e3:b*A*C=b*C*A:=by grind
  rw[e1,e2];exact Int.le_trans k1 (e3▸k2)
 exact Int.le_of_mul_le_mul_right this hB
theorem QO{m:Nat}{done:List Rw}{b:Option Rw}(h:TgOk m done b)(r:Rw):TgOk m (done++[r]) (yM m b r):=by
 unfold yM;by_cases c:r.getD m 0>0/\(∀x∈b,r.getD (m+1) 0*x.getD m 0<x.getD (m+1) 0*r.getD m 0)
 ·rw[tW c];refine⟨λx hx=>?_,λz=>by cases z⟩;cases hx;refine⟨by simp,c.1,λr' hr' p=>?_⟩;rcases nB.mp hr' with q | q
  ·cases hb:b with
   | none=>exact absurd p (Int.not_lt.mpr (h.none hb r' q))
   | some x=>
    have hx:=h.some x hb;exact mul_tr c.1 hx.2.1 p (c.2 x hb) (hx.2.2 r' q p)
  ·rw[mC.mp q];exact tQ _
 ·rw[tV c];refine⟨λx hx=>?_,λz r' hr'=>?_⟩
  ·obtain⟨h1,h2,h3⟩:=h.some x hx;refine⟨by simp [h1],h2,λr' hr' p=>?_⟩;rcases nB.mp hr' with q | q
   ·exact h3 r' q p
   ·rw[mC.mp q]at p ⊢;refine Int.not_lt.mp λk=>c ⟨p,λy hy=>?_⟩;have e:y=x:=Option.some.inj (hy.symm.trans hx);rw[e];exact k
  ·rcases nB.mp hr' with q | q
   ·exact h.none z r' q
   ·rw[mC.mp q];refine Int.not_lt.mp λk=>c ⟨k,λy hy=>by rw[z]at hy;cases hy⟩
theorem LF{m:Nat} :∀(todo done:List Rw) (b:Option Rw),TgOk m done b->TgOk m (done++todo) (todo.foldl (yM m) b)
 | [],done,b,h=>by rw[List.append_nil];exact h
 | r::todo,done,b,h=>by
  have:=LF todo (done++[r]) _ (QO h r);rw[mK]at this;exact this
theorem BC(m:Nat)(af:List Rw):TgOk m af (wA m af):=LF af [] none ⟨(λx h=>nomatch h),(λ_ r h=>nomatch h)⟩
def zZ(m:Nat)(r:Rw):Rat:=((-(r.getD (m+1) 0):Int):Rat)/((r.getD m 0:Int):Rat)
theorem JQ{m:Nat}{r:Rw}(h:m+2<=r.length)(T:Rat):rw' (r.drop m) [T,1]=((r.getD m 0:Int):Rat)*T+((r.getD (m+1) 0:Int):Rat):=by
 rw[xA (by omega),xA (by omega)];show _*T+(_*1+rw' _ [])=_;rw[vL,Rat.mul_one,tF]
theorem UC{aa:Nat}{ad:List (List Trm)}{N:List Rat}(h:N.length=aa+1)(nb:∀r∈xI aa ad N,brk aa r=false){b:Rw}(hb:wA aa (xI aa ad N)=some b):∀r∈xI aa ad N,0<=rw' (r.drop aa) [zZ aa b,1]:=λr hr=>by
 have eo:=BY h hr;obtain⟨b1,b2,b3⟩:=(BC aa (xI aa ad N)).some b hb;rw[JQ (by rw[eo.len];omega)];unfold zZ;have B0:(0:Rat)<((b.getD aa 0:Int):Rat):=by exact_mod_cast b2
 have e:((-(b.getD (aa+1) 0):Int):Rat) = -((b.getD (aa+1) 0:Int):Rat):=by push_cast;rfl
 rw[e];rcases Int.lt_or_eq_of_le eo.lv0 with p | p
 ·have q:((b.getD (aa+1) 0:Int):Rat)*((r.getD aa 0:Int):Rat)<=((r.getD (aa+1) 0:Int):Rat)*((b.getD aa 0:Int):Rat):=by exact_mod_cast b3 r hr p
  generalize ((b.getD (aa+1) 0:Int):Rat)=a at *;generalize ((b.getD aa 0:Int):Rat)=A at *;generalize ((r.getD (aa+1) 0:Int):Rat)=c at *;generalize ((r.getD aa 0:Int):Rat)=C at *;have e2:A*(C*(-a/A)+c)=c*A-a*C:=by grind
  refine gD λk=>?_;have:=Rat.mul_pos (a:=A) (b:=-(C*(-a/A)+c)) B0 (by grind)
  grind
 ·have nb:=nb r hr;unfold brk at nb;rw[nG p.symm,Bool.true_and]at nb;have nb:=of_decide_eq_false nb;rw[<-p];have z:((0:Int):Rat)=0:=rfl;rw[z,tH,tE]
  exact_mod_cast (show(0:Int)<=_ by omega)
theorem XN{aa:Nat}{ad:List (List Trm)}{N:List Rat}(h:N.length=aa+1)(nb:∀r∈xI aa ad N,brk aa r=false)(hb:wA aa (xI aa ad N)=none)(T:Rat):∀r∈xI aa ad N,r.getD aa 0=0/\0<=rw' (r.drop aa) [T,1]:=λr hr=>by
 have eo:=BY h hr;have l:=(BC aa (xI aa ad N)).none hb r hr;have p:r.getD aa 0=0:=by have:=eo.lv0;omega
 have nb:=nb r hr;unfold brk at nb;rw[nG p,Bool.true_and]at nb;have nb:=of_decide_eq_false nb;refine⟨p, ?_⟩;rw[JQ (by rw[eo.len];omega),p];have z:((0:Int):Rat)=0:=rfl;rw[z,tH,tE]
 exact_mod_cast (show(0:Int)<=_ by omega)
theorem VQ{aa:Nat}{ts:List Trm}{i c:Nat}{ks:List Rat}(hk:ks.length=aa)(T:Rat):rw' (kN aa ts i c) (ks++[T,1])=((lvD (jN aa ts):Int):Rat)*lnV (jN aa ts) ks:=by
 rw[<-RI hk];have l:=qQ (jN aa ts);rw[kY]at l;unfold kN;rw[mK,wD _ _ _ _ (by rw[mQ];omega),wD _ _ _ _ (by rw[mQ];omega)]
 congr 1
 show((0:Int):Rat)*T+_=((0:Int):Rat)*0+_;have z:((0:Int):Rat)=0:=rfl;rw[z,tH,tH]
def lnH(N ks:List Rat):Rat:=dot (List.range ks.length) (λj=>N.getD j 0) (λj=>ks.getD j 0)
theorem JR:∀(as:List Int) (ks:List Rat),rw' (as.map λz=>-z) ks = -(rw' as ks)
 | [],ks=>by show(0:Rat) = -0;rw[Rat.neg_zero]
 | a::as,[]=>by rw[vL,vL,Rat.neg_zero]
 | a::as,k::ks=>by
  show((-a:Int):Rat)*k+rw' (as.map _) ks = -((a:Rat)*k+rw' as ks);rw[JR as ks,nF]
  grind
theorem FM{aa:Nat}{N:List Rat}(h:N.length=aa+1){ks:List Rat}(hk:ks.length=aa):rw' ((lvT N).take aa) ks=((lvD N:Int):Rat)*lnH N ks:=by
 have l:=qQ N;have:=FU ((lvT N).take aa) ks (by rw[mQ];omega);rw[<-this];unfold lnH;rw[hk,<-xB];refine jZ λj hj=>?_;rw[gA,gH (nI.mp hj),<-gA,xY,Rat.mul_assoc]
theorem lv_at{aa:Nat}{N:List Rat}(h:N.length=aa+1){c:Nat}{ks:List Rat}(hk:ks.length=aa)(T:Rat):rw' (kZ aa N c) (ks++[T,1])=((lvD N:Int):Rat)*(T-lnV N ks):=by
 have l:=qQ N;unfold kZ;rw[mK,mK,wD _ _ _ _ (by rw[mY,mQ];omega),JR,FM h hk];show _+(((lvD N:Int):Rat)*T+(((-((lvT N).getD aa 0):Int):Rat)*1+rw' _ []))=_;rw[vL,nF,xY];unfold lnV lnH;rw[hk]
 grind
theorem JY{d x:Rat}(hd:0<d)(h:0<=d*x):0<=x:=by
 refine gD λn=>?_;have:=Rat.mul_pos (a:=d) (b:=-x) hd (by grind)
 grind
theorem QS{aa:Nat}{ad:List (List Trm)}{N:List Rat}(h:N.length=aa+1){T:Rat}(fin:∀r∈xI aa ad N,0<=rw' (r.drop aa) [T,1]) :
  (∀ts∈ad,0<=lnV (jN aa ts) ((qF aa (kD aa (kG aa ad N)) T aa).take aa))/\lnV N ((qF aa (kD aa (kG aa ad N)) T aa).take aa)<=T:=by
 have g:=(yE (GF h) uV fin aa uV).1;rw[Nat.sub_self]at g;have sl:=qU aa (kD aa (kG aa ad N)) T aa;have lk:((qF aa (kD aa (kG aa ad N)) T aa).take aa).length=aa:=by rw[mQ];omega
 refine⟨λts ht=>?_, ?_⟩
 ·obtain⟨i,hi⟩:=gQ.mp ht;have il:=(gE.mp hi).1;have g:=g _ (all_mem.mpr (.inl ⟨i,il,rfl⟩));rw[List.drop_zero,xP,VQ lk,gA,hi,Option.getD_some]at g;exact JY (by exact_mod_cast vD _) g
 ·have g:=g _ (all_mem.mpr (.inr rfl));rw[List.drop_zero,xP,lv_at h lk]at g;have:=JY (by exact_mod_cast vD N) g
  grind
theorem ln_ws{aa:Nat}{ad:List (List Trm)}{N:List Rat}{ws ks:List Rat}{T:Rat}(hk:ks.length=aa)(h1:∀j,j<aa->vU aa ad ws j=N.getD j 0)(h2:T+vU aa ad ws aa=N.getD aa 0):lnV N ks=T+dot (List.range ad.length) (λi=>lnV (jN aa (ad.getD i [])) ks) (λi=>ws.getD i 0):=by
 unfold lnV;rw[hk];have e1:dot (List.range aa) (λj=>N.getD j 0) (λj=>ks.getD j 0)=dot (List.range aa) (λj=>vU aa ad ws j) (λj=>ks.getD j 0):=jZ λj hj=>by rw[h1 j (nI.mp hj)]
 have e2:=DZ (List.range ad.length) (List.range aa) (λi j=>(jN aa (ad.getD i [])).getD j 0) (λi=>ws.getD i 0) (λj=>ks.getD j 0);have e3:dot (List.range aa) (λj=>vU aa ad ws j) (λj=>ks.getD j 0)=dot (List.range ad.length) (λi=>dot (List.range aa) (λj=>(jN aa (ad.getD i [])).getD j 0) (λj=>ks.getD j 0)) (λi=>ws.getD i 0):=e2;rw[e1,e3,<-h2,UM];unfold vU
 grind
theorem dot_nn{I:List Nat}{a v:Nat->Rat}(h1:∀i∈I,0<=a i)(h2:∀i∈I,0<=v i):0<=dot I a v:=by
 induction I with
 | nil=>exact tR
 | cons i I ih=>rw[kA];exact Rat.add_nonneg (nM (h1 i (by simp)) (h2 i (by simp))) (ih (λj hj=>h1 j (by simp [hj])) λj hj=>h2 j (by simp [hj]))
theorem TF{aa:Nat}{ad:List (List Trm)}{N:List Rat}{ws ks:List Rat}{T:Rat}(hk:ks.length=aa)(h1:∀j,j<aa->vU aa ad ws j=N.getD j 0)(h2:T+vU aa ad ws aa=N.getD aa 0)(wn:∀w∈ws,0<=w)(kn:∀ts∈ad,0<=lnV (jN aa ts) ks)(le:lnV N ks<=T):lnV N ks=T:=by
 have e:=ln_ws hk h1 h2;have p:0<=dot (List.range ad.length) (λi=>lnV (jN aa (ad.getD i [])) ks) (λi=>ws.getD i 0):=dot_nn (λi hi=>by
  have hi:=nI.mp hi;rw[gA,gG hi];exact kn _ (mU hi)) λi _=>by
  rw[gA];cases c:ws[i]? with
  | none=>exact tR
  | some w=>exact wn w (gS c)
 grind
def kP(m:Nat)(r:Rw)(x:Int):Rw:=r.take m++[0,x]++r.drop (m+2)
def kW(aa:Nat)(ad:List (List Trm))(N:List Rat):List Rw:=(jU aa ad).map (λr=>kP aa r 0)++[kP aa (kZ aa N ad.length) (-1)]
def AD(aa:Nat)(ad:List (List Trm))(N:List Rat)(i j:Nat):Rat:=if j<aa then zU aa ad N i j else if j=aa then 0 else if i<ad.length then 0 else -(((lvD N:Int):Rat)⁻¹)
theorem QE{m:Nat}{r:Rw}(h:m+2<=r.length){x:Int}{j:Nat}(hj:j<m):(kP m r x).getD j 0=r.getD j 0:=by
 unfold kP;rw[gA,mK,gF (by rw[mQ];omega),gH hj,gA]
theorem IZ{m:Nat}{r:Rw}(h:m+2<=r.length){x:Int}(j:Nat):(kP m r x).getD (m+j) 0=(0::x::r.drop (m+2)).getD j 0:=by
 unfold kP;have lt:(r.take m).length=m:=by rw[mQ];omega
 rw[gA,mK,gC (by omega),lt,Nat.add_sub_cancel_left,<-gA]
 rfl
theorem QF{m:Nat}{r:Rw}(h:m+2<=r.length){x:Int}(j:Nat):(kP m r x).getD (m+2+j) 0=r.getD (m+2+j) 0:=by
 rw[show m+2+j=m+(j+2) by omega,IZ h,gA,gJ,gJ,List.getElem?_drop,gA,show m+(j+2)=m+2+j by omega]
theorem JA{m:Nat}{r:Rw}(h:m+2<=r.length)(x:Int):(kP m r x).length=r.length:=by
 unfold kP;rw[hV,hV,mQ,List.length_drop];show min m r.length+2+_=_;omega
theorem IY{m:Nat}{r:Rw}(h:m+2<=r.length)(x:Int):shr m (kP m r x)=shr m r:=by
 funext i
 unfold shr;rw[QF h]
theorem way_mem{aa:Nat}{ad:List (List Trm)}{N:List Rat}{r:Rw} :r∈kW aa ad N↔(∃i,i<ad.length/\r=kP aa (kN aa (ad.getD i []) i ad.length) 0)∨r=kP aa (kZ aa N ad.length) (-1):=by
 unfold kW;rw[nB,mC,tD];refine or_congr ⟨?_, ?_⟩ Iff.rfl
 ·rintro⟨r',h,rfl⟩;obtain⟨i,hi,rfl⟩:=rimRows_mem.mp h;exact⟨i,hi,rfl⟩
 ·rintro⟨i,hi,rfl⟩;exact⟨_,rimRows_mem.mpr ⟨i,hi,rfl⟩,rfl⟩
theorem YF{aa:Nat}{ad:List (List Trm)}{N:List Rat}{r:Rw}{x:Int}(ro:RowOk aa (ad.length+1) (ad.length+1) (zU aa ad N) 0 r)(hx:((x:Int):Rat) = -(((lvD N:Int):Rat)⁻¹)*shr aa r ad.length):RowOk aa (ad.length+1) (ad.length+1) (AD aa ad N) 0 (kP aa r x):=by
 have hl:aa+2<=r.length:=by rw[ro.len];omega
 refine⟨(JA hl x).trans ro.len,λj hj=>?_,λi=>by rw[QF hl];exact ro.nn i,λi hi=>by rw[QF hl];exact ro.out i hi,λj hj=>by omega⟩;rw[IY hl];by_cases h1:j<aa
 ·rw[QE hl h1,ro.lin j (by omega)];exact jZ λi _=>by unfold AD;rw[tW h1]
 ·by_cases h2:j=aa
  ·have:=IZ hl (x:=x) 0;rw[Nat.add_zero]at this;rw[h2,this,jZ (a':=λ_=>0) (v':=λ_=>0) (λi _=>by unfold AD;rw[tV (nQ _),tW rfl,tH,tH]),xS λ_ _=>rfl]
   rfl
  ·obtain rfl:j=aa+1:=by omega
   rw[IZ hl 1];show((x:Int):Rat)=_;rw[hx,nE,wW,kA,vX,tF];have z:dot (List.range ad.length) (λi=>AD aa ad N i (aa+1)) (shr aa r)=0:=by
    rw[jZ (a':=λ_=>0) (v':=λ_=>0) (λi hi=>by unfold AD;rw[tV (by omega),tV (by omega),tW (nI.mp hi),tH,tH]),xS λ_ _=>rfl]
   have y:AD aa ad N ad.length (aa+1) = -(((lvD N:Int):Rat)⁻¹):=by unfold AD;rw[tV (by omega),tV (by omega),tV (nQ _)]
   rw[z,y,tE]
theorem JC{aa:Nat}{ad:List (List Trm)}{N:List Rat}(h:N.length=aa+1):StOk aa (ad.length+1) (ad.length+1) (AD aa ad N) 0 (kW aa ad N):=by
 have D0:(0:Rat)<((lvD N:Int):Rat):=by exact_mod_cast vD N
 refine⟨λr hr=>?_,QR λi hi=>?_⟩
 ·rcases way_mem.mp hr with⟨i,hi,rfl⟩ | rfl
  ·refine YF (GJ h _ (all_mem.mpr (.inl ⟨i,hi,rfl⟩))) ?_;rw[wM (by omega),tV (by omega),tG]
   rfl
  ·refine YF (YR h) ?_;rw[EU h,tW rfl,Rat.neg_mul,Rat.inv_mul_cancel _ (by grind)]
   rfl
 ·obtain⟨r,hr,d,d0,e⟩:=NN h i hi;have hl:aa+2<=r.length:=by rw[(GJ h r hr).len];omega
  rcases all_mem.mp hr with⟨k,hk,rfl⟩ | rfl
  ·exact⟨_,way_mem.mpr (.inl ⟨k,hk,rfl⟩),d,d0,λk=>by rw[IY hl];exact e k⟩
  ·exact⟨_,way_mem.mpr (.inr rfl),d,d0,λk=>by rw[IY hl];exact e k⟩
theorem MW{aa:Nat}{ad:List (List Trm)}{N:List Rat}(h:N.length=aa+1)(z:∀r∈xI aa ad N,r.getD aa 0=0):∀r∈kD aa (kW aa ad N) aa,0<=rw' (r.drop aa) [0,1]:=λr hr=>by
 have wo:=xQ (JC (ad:=ad) h) uV aa uV ;have ao:=xQ (GF (ad:=ad) h) uV aa uV ;have ro:=wo.ok r hr;have ic:=ro.inC uV ;have ic':InC (ad.length+1) (fnl (zU aa ad N) aa) (shr aa r):=⟨ic.nn,ic.out,λa ha=>by
  unfold fnl at ha;obtain⟨l,hl,rfl⟩:=tD.mp ha;have hl:=nI.mp hl;have:=ic.z (λi=>AD aa ad N i l) (by unfold fnl;exact tD.mpr ⟨l,nI.mpr hl,rfl⟩);rw[<-this];exact jZ λi _=>by unfold AD;rw[tW hl]⟩
 have cn:=ao.gen _ ic';have s0:shr aa r ad.length=0:=by
  have lin:Lin λv=>-(v ad.length):=⟨λa b=>by show -(_+_)=_;grind,λt a=>by show -(t*_)=_;grind⟩;have p:=lin.nn (G:=λv=>∃r∈xI aa ad N,v=shr aa r) (λg hg=>by
   obtain⟨r',hr',rfl⟩:=hg;have e:=(BY h hr').lev;rw[z r' hr']at e;show 0<=-(shr aa r' ad.length);unfold shr;rw[<-e];exact tR) cn
  have q:=ic.nn ad.length;have p:0<=-(shr aa r ad.length):=p
  grind
 have l:=ro.lin (aa+1) (by omega);have z2:dot (List.range (ad.length+1)) (λi=>AD aa ad N i (aa+1)) (shr aa r)=0:=by
  rw[nE,wW,kA,vX,s0,tG,tF,tF];rw[jZ (a':=λ_=>0) (v':=λ_=>0) (λi hi=>by unfold AD;rw[tV (by omega),tV (by omega),tW (nI.mp hi),tH,tH]),xS λ_ _=>rfl]
 rw[JQ (by rw[ro.len];omega),l,z2,tG,tF];exact tR
theorem way_x{aa:Nat}{ad:List (List Trm)}{N:List Rat}(h:N.length=aa+1)(z:∀r∈xI aa ad N,r.getD aa 0=0) :
  (∀ts∈ad,0<=lnH (jN aa ts) ((qF aa (kD aa (kW aa ad N)) 0 aa).take aa))/\lnH N ((qF aa (kD aa (kW aa ad N)) 0 aa).take aa)<0:=by
 have g:=(yE (JC (ad:=ad) h) uV (T:=0) (MW h z) aa uV).1;rw[Nat.sub_self]at g;have sl:=qU aa (kD aa (kW aa ad N)) 0 aa;have lk:((qF aa (kD aa (kW aa ad N)) 0 aa).take aa).length=aa:=by rw[mQ];omega
 refine⟨λts ht=>?_, ?_⟩
 ·obtain⟨i,hi⟩:=gQ.mp ht;have il:=(gE.mp hi).1;have g:=g _ (way_mem.mpr (.inl ⟨i,il,rfl⟩));have lt:=wE aa (ad.getD i []) i ad.length;have l:=qQ (jN aa (ad.getD i []));rw[kY]at l;rw[List.drop_zero,xP]at g;unfold kP at g;rw[mK,wD _ _ _ _ (by rw[mQ,lk];omega)]at g;have t1:(kN aa (ad.getD i []) i ad.length).take aa=(lvT (jN aa (ad.getD i []))).take aa:=by
   unfold kN;rw[mK,List.take_append_of_le_length (by rw[mQ];omega),List.take_take,Nat.min_self]
  have t2:rw' ([0,0]++(kN aa (ad.getD i []) i ad.length).drop (aa+2)) [0,1]=0:=by
   show((0:Int):Rat)*0+(((0:Int):Rat)*1+rw' _ [])=0;have z:((0:Int):Rat)=0:=rfl;rw[vL,z]
   grind
  rw[t1,t2,tF,FM (kY _ _) lk,gA,hi,Option.getD_some]at g;exact JY (by exact_mod_cast vD _) g
 ·have g:=g _ (way_mem.mpr (.inr rfl));have lt:=uH h ad.length;have l:=qQ N;rw[List.drop_zero,xP]at g;unfold kP at g;rw[mK,wD _ _ _ _ (by rw[mQ,lk];omega)]at g;have t1:(kZ aa N ad.length).take aa=((lvT N).take aa).map λz=>-z:=by
   unfold kZ;rw[mK,mK,List.take_append_of_le_length (by rw[mY,mQ];omega),gL (by rw[mY,mQ];omega)]
  have t2:rw' ([0,-1]++(kZ aa N ad.length).drop (aa+2)) [0,1] = -1:=by
   show((0:Int):Rat)*0+(((-1:Int):Rat)*1+rw' _ []) = -1;have z:((0:Int):Rat)=0:=rfl;have y:((-1:Int):Rat) = -1:=rfl;rw[vL,z,y]
   grind
  rw[t1,t2,JR,FM h lk]at g;refine gD λn=>?_;have:=nM (a:=((lvD N:Int):Rat)) (b:=lnH N ((qF aa (kD aa (kW aa ad N)) 0 aa).take aa)) (Rat.le_of_lt (by exact_mod_cast vD N)) (by grind)
  grind
def spLevel:Sp:=λvs H Q _=>∃(p:Addr) (count aa:Nat) (z:Sz) (ts:List Trm),vs=[.ref p,.int count]/\Poly H p aa z ts/\z.D<=1/\1<=aa/\aa<=4/\z.v+z.S<=2200/\z.n<=1000/\count<=10/\
 ∀(r:Addr) (H':Hp),H r=none->Same H H'->H' r=some (.lst ((kZ aa (jN aa ts) count).map V.int))->Q (.ref r) H'
theorem scLv:FnScope ["one","count","numbers","bottom"] ["one","count"] (jL EX):=⟨rfl,rfl,rfl,by decide +kernel,rfl,by decide +kernel,by decide +kernel⟩
theorem SI{fW:Addr}{fdW:FuncData}(F:Fun K "level_row" "level_row" EX f fd)(DW:Df K mg "whole_numbers" BG ["one"] fW fdW)(GW:FnOk P w K mg base CX0 4 fW fdW ["one"] (ER K)):FnOk P w K mg base CX0 5 f fd ["one","count"] spLevel:=by
 refine F.ok scLv (λvs H Q E h=>?_) (λcdv A outer s H vs Q E hr h=>?_)
 ·obtain⟨p,count,aa,z,ts,rfl,_⟩:=h
  rfl
 ·obtain⟨p,count,aa,z,ts,rfl,hP,zD,m1,m4,zb,zn,c10,go⟩:=h;refine⟨_,jB (qL (jG GW hr rfl DW.m DW.F.kp DW.b .nil jR (jA (pv 0) jC)) (qW rfl (jO (jI (i:=2) scLv.nd rfl (Or.inl rfl)) (jO (jI (i:=3) scLv.nd rfl (Or.inl rfl)) kS)))) (jE (jP (jK qY (jK qY (jK qY (yF (own:=1) (idx:=[]) (N:=["number"]) rfl rfl rfl (by decide +kernel) (by decide +kernel) (λ_ _ h=>nomatch h) (vO rfl) rfl (λ_ _ _ h=>nomatch h) (kX (qM qK (pv 2) vW (qG (vI qJ jD)))) (λC fp s2 H2=>(jI (i:=0) (show List.Nodup (["number"]:List Str) by decide +kernel) rfl (Or.inl rfl) (Or.inr rfl))) (λC fp s2 H2=>vI qJ (pv 0))) (kM (jA (pv 3) (jA (vI qJ (jQ jW (pv 2) (vI qJ jD) (λ_ _=>rfl))) jC)))) (jK KD (kM (jA jD jC)) (pv 1))) (kM (jA (pv 3) jC))))), ?_⟩;try dsimp only[cxK]
  refine⟨_,rfl,p,aa,z,ts,rfl,hP,zD,m1,m4,zb,zn,λr l H1 n1 s1 e1 e2=>?_⟩;have ln:(lvT (jN aa ts)).length=aa+1:=by rw[qQ,kY]
  refine⟨r,_,rfl,SqT.of e1,rfl,_,_,rfl,_,_,rfl,rfl, ?_⟩;refine⟨_,rfl,_,rfl,_,rfl,l,_,rfl,SqL.of e2,λl2 H2 n2 s2 e3=>?_⟩;rw[IO (n:=aa) (by rw[mY];exact ln),<-nV]at e3;refine⟨l2,rfl,⟨_,SqL.of e3⟩,λq H3 n3 s3 e4=>?_⟩;have lt:((lvT (jN aa ts)).take aa).length=aa:=by rw[mQ];omega
  refine xU (K:=K) (a:=l2) (xs:=((lvT (jN aa ts)).take aa).map V.int) (CmI (λk=>((((lvT (jN aa ts)).take aa).take k).map λz=>-z).map V.int) q H2) (by rw[mY,lt,sizeLine_eq];omega) ⟨s3,e4,rfl⟩ (λi ys H4 h=>⟨SqL.of (h.s _ _ e3),h.e⟩) ?_ ?_
  ·rintro i m' ys x H4 hx hm hy ⟨s4,e5,ey⟩;have hx0:=hx;rw[mH]at hx;obtain⟨nn,hnn,rfl⟩:=Option.map_eq_some_iff.mp hx;refine⟨uT,_,rfl,_,rfl, ?_⟩;refine qA hx0 hm hy e5 ⟨kQ s4 n3,jF, ?_⟩;rw[ey,mJ,hnn,mZ,mZ]
   rfl
  ·rintro ys H4 hy ⟨s4,e5,ey⟩;rw[mY,lt,gL (by omega)]at ey;have s14:=s2.trans s4;refine⟨_,rfl,_,rfl,_,rfl,l,_,_,_,rfl,rfl,SqL.of (s14 _ _ e2),ID ln,_,rfl,uY,λl5 H5 n5 s5 e6=>?_⟩;refine⟨q,l5,_,_,rfl,rfl,s5 _ _ e5,e6,by rw[ey,mY,mY,lt,sizeLine_eq];show aa+2<=_;omega,λl6 H6 n6 s6 e7=>?_⟩;refine⟨uX,λl7 H7 n7 s7 e8=>⟨_,rfl,l7,_,_,rfl,rfl,e8,by omega,by omega,by rw[sizeLine_eq];show 1*((count:Int)).toNat<=_;omega,λl8 n8=>?_⟩⟩;have er:(List.replicate ((count:Int)).toNat [V.int 0]).flatten=List.replicate count (V.int 0):=by
    rw[mP,List.flatten_replicate_singleton]
   rw[er];have s8:Same H7 (upd H7 l8 (.lst (List.replicate count (V.int 0)))):=kF _ n8;have e9:(upd H7 l8 (.lst (List.replicate count (V.int 0)))) l8=some (.lst (List.replicate count (V.int 0))):=jF;generalize upd H7 l8 (.lst (List.replicate count (V.int 0)))=H8 at s8 e9;refine⟨l6,l8,_,_,rfl,rfl,(s7.trans s8) _ _ e7,e9, ?_,λl9 H9 n9 s9 e10=>?_⟩
   ·rw[hV,ey,mY,mY,lt,gO,sizeLine_eq];show aa+2+count<=_;omega
   refine⟨_,rfl,uX,λl10 H10 n10 s10 e11=>⟨l9,l10,_,_,rfl,rfl,s10 _ _ e10,e11, ?_,λl11 H11 n11 s11 e12=>?_⟩⟩
   ·rw[hV,hV,ey,mY,mY,lt,gO,sizeLine_eq];show aa+2+count+1<=_;omega
   have sx:=s1.trans (s14.trans (s5.trans (s6.trans (s7.trans (s8.trans (s9.trans s10))))));refine go l11 H11 (sx.free n11) (sx.trans s11) ?_;rw[e12,ey];unfold kZ;rw[mZ,mZ,mZ,List.map_replicate]
   rfl
inductive BsV(H:Hp):Option Rw->V->Prop where
 | non:BsV H none .non
 | row {r:Rw} {p:Addr} (e:H p=some (.lst (r.map V.int))):BsV H (some r) (.ref p)
theorem BsV.same{H H':Hp}{b:Option Rw}{v:V}(h:BsV H b v)(s:Same H H'):BsV H' b v:=by
 cases h with
 | non=>exact .non
 | row e=>exact .row (s _ _ e)
def spTight:Sp:=λvs H Q _=>∃(a:Addr) (m n:Nat) (xs:List V) (af:List Rw),vs=[.ref a,.int m]/\RwsP H a xs af/\(∀r∈af,r.length=m+2+n)/\m<=4/\(∀r∈af,∀i∈r,i.natAbs<=2^3407)/\
 ∀(v:V) (H':Hp),Same H H'->BsV H' (wA m af) v->Q v H'
inductive TgI(H:Hp)(a:Addr)(m:Nat)(af:List Rw)(i:Nat):L2.St->Hp->Prop where
 | mk {H':Hp} {v:V} {u3 u4 u5:Option V} (s:Same H H') (b:BsV H' ((af.take i).foldl (yM m) none) v):TgI H a m af i [some (.ref a),some (.int m),some v,u3,u4,u5] H'
theorem LE{m:Nat} :∀(af:List Rw) (b:Option Rw) (x:Rw),af.foldl (yM m) b=some x->x∈af∨b=some x
 | [],b,x,h=>.inr h
 | r::af,b,x,h=>by
  rcases LE af (yM m b r) x h with q | q
  ·exact .inl (gT _ q)
  ·unfold yM at q;split at q
   ·exact .inl (by cases q;simp)
   ·exact .inr q
theorem scTg:FnScope ["rows","many","best","row","level","lone"] ["rows","many"] (jL EV):=⟨rfl,rfl,rfl,by decide +kernel,rfl,by decide +kernel,by decide +kernel⟩
theorem SD(F:Fun K "tightest" "tightest" EV f fd):FnOk P w K mg base CX0 1 f fd ["rows","many"] spTight:=by
 refine F.ok scTg (λvs H Q E h=>?_) (λcdv A outer s H vs Q E hr h=>?_)
 ·obtain⟨a,m,n,xs,af,rfl,_⟩:=h
  rfl
 ·obtain⟨a,m,n,xs,af,rfl,rp,hl,m4,hb,go⟩:=h;refine⟨_,jB (jM (i:=2) scTg.nd rfl (Or.inl rfl) (FE)) (jB (qZ PassesOwn.never rfl (kX (pv 0)) (jI (i:=3) scTg.nd rfl (Or.inl rfl)) (jB (qL (qM qK (pv 3) (qG (pv 1)) (qG (jK kJ (pv 1) jD))) (MA rfl (jO (jI (i:=4) scTg.nd rfl (Or.inl rfl)) (jO (jI (i:=5) scTg.nd rfl (Or.inl rfl)) kS)))) (jE (kU (PW.pt (FB (jT uP (pv 4) jD (jY _)) (AS (PW.pt (YM (wF (KA (pv 2))) (RP (jT zX (jK qH (pv 5) (jQ jW (pv 2) (pv 1) (λ_ _=>rfl))) (jK qH (jQ jW (pv 2) (jK kJ (pv 1) jD) (λ_ _=>rfl)) (pv 4)) (jY _)))))))) (jE (jM (i:=2) scTg.nd rfl (Or.inl rfl) (pv 3))) kC)))) (jE (jP (pv 2)))), ?_⟩;try dsimp only[cxK]
  have lx:xs.length=af.length:=Paired.length rp.pr;refine⟨_,rfl,a,rfl,⟨_,SqL.of rp.at'⟩,vP (K:=K) (a:=a) (xs:=xs) (TgI H a m af) (.mk (Same.refl _) .non) (λi σ H1 _ h=>?_) (λi x σ H1 hx h=>?_) (fun σ H1 h=>?_)⟩
  ·obtain⟨s1,_⟩:=h;exact SqL.of (s1 _ _ rp.at')
  ·obtain⟨s1,bs⟩:=h;rename_i bv u3 u4 u5;obtain⟨r,hr',p,rfl,er⟩:=Paired.at rp.pr hx;have rm:=gS hr';have rl:=hl r rm;have er1:=s1 _ _ er;refine⟨_,rfl,_,rfl,_,rfl,_,rfl,_,_,rfl,rfl,_,rfl,p,_,rfl,SqL.of er1,λq2 H2 n2 s2 e2=>?_⟩;rw[NG (by omega)]at e2;refine⟨q2,_,rfl,SqL.of e2,rfl,_,_,rfl,_,_,rfl,rfl, ?_⟩;have tk:(af.take (i+1)).foldl (yM m) none=yM m ((af.take i).foldl (yM m) none) r:=by
    rw[mJ,hr',List.foldl_append]
    rfl
   have sub:∀x,(af.take i).foldl (yM m) none=some x->x∈af:=λx hx=>by
    rcases LE _ _ _ hx with q | q
    ·exact gY q
    ·cases q
   have bs2:=bs.same s2;have s12:=s1.trans s2;generalize (af.take i).foldl (yM m) none=bo at bs2 tk sub;have keep:yM m bo r=bo->TgI H a m af (i+1) [some (.ref a),some (.int m),some bv,some (.ref p),some (.int (r.getD m 0)),some (.int (r.getD (m+1) 0))] H2:=λe=>.mk s12 (by rw[tk,e];exact bs2);have next:yM m bo r=some r->TgI H a m af (i+1) [some (.ref a),some (.int m),some (.ref p),some (.ref p),some (.int (r.getD m 0)),some (.int (r.getD (m+1) 0))] H2:=λe=>.mk s12 (by rw[tk,e];exact .row (s2 _ _ er1));have up:∀x∈af,∀j,(x.getD j 0).natAbs<2^100000:=λx hx j=>by
    by_cases k:j<x.length
    ·exact kH (m:=3408) (hU (hb x hx _ (vA k)) (gW (by decide) (by decide))) (by decide)
    ·rw[gA,gP (by omega)];exact Nat.two_pow_pos _
   refine⟨_,rfl,_,_,rfl,rfl,_,rfl, ?_⟩;by_cases c1:r.getD m 0>0
   ·refine vS (nG c1) ?_;cases bs2 with
    | non=>
     refine⟨_,rfl,_,rfl,vS (nG rfl) (FP ?_)⟩;exact⟨_,rfl,next (by unfold yM;rw[tW ⟨c1,λx h=>nomatch h⟩])⟩
    | @row y yp ey=>
     have ym:=sub y rfl;have yl:=hl y ym;have g2:atI (y.map V.int) ((m:Int)+1)=some (.int (y.getD (m+1) 0)):=vM (l:=m+1) (by omega);refine⟨_,rfl,_,rfl,vF (nA λz=>by cases z) ?_⟩;refine⟨_,rfl,_,rfl,_,rfl,yp,_,_,_,rfl,rfl,SqL.of ey,vM (by omega),_,_,rfl,rfl,⟨up r rm _,up y ym _⟩,_,rfl,_,rfl,_,_,rfl,rfl,yp,_,_,_,rfl,rfl,SqL.of ey,g2,_,rfl,_,_,rfl,rfl,⟨up y ym _,up r rm _⟩,_,_,rfl,rfl,_,rfl, ?_⟩;by_cases c2:r.getD (m+1) 0*y.getD m 0<y.getD (m+1) 0*r.getD m 0
     ·exact vS (nG c2) ⟨_,rfl,next (by unfold yM;rw[tW ⟨c1,λx h=>by cases h;exact c2⟩])⟩
     ·exact vF (nA c2) (keep (by unfold yM;rw[tV λh=>c2 (h.2 y rfl)]))
   ·exact vF (nA c1) (AF (keep (by unfold yM;rw[tV λh=>c1 h.1])))
  ·obtain⟨s1,bs⟩:=h;rw[lx,mS]at bs;exact⟨_,rfl,go _ H1 s1 bs⟩
theorem YW{m:Nat}{r:Rw}(h:m<=r.length)(x y:Int):(kP m r x).set (m+1) y=kP m r y:=by
 unfold kP;have lt:(r.take m).length=m:=by rw[mQ];omega
 rw[mK,mK,List.set_append_right _ _ (by omega),lt,show m+1-m=1 by omega]
 rfl
theorem EI{m n:Nat}{r:Rw}{x:Int}(h:∀i∈r,i.natAbs<=2^n)(hx:x.natAbs<=1):∀i∈kP m r x,i.natAbs<=2^n:=λi hi=>by
 unfold kP at hi;rcases nB.mp hi with hi | hi
 ·rcases nB.mp hi with hi | hi
  ·exact h i (gY hi)
  ·rcases nP.mp hi with rfl | hi
   ·exact tM _
   ·rw[mC.mp hi];exact nY hx mE
 ·exact h i (List.mem_of_mem_drop hi)
theorem EJ{aa:Nat}{ad:List (List Trm)}{N:List Rat}{w:Rw}(hw:w∈kW aa ad N):∃r∈kG aa ad N,∃x:Int,x.natAbs<=1/\w=kP aa r x:=by
 rcases way_mem.mp hw with⟨i,hi,rfl⟩ | rfl
 ·exact⟨_,all_mem.mpr (.inl ⟨i,hi,rfl⟩),0,by decide,rfl⟩
 ·exact⟨_,all_mem.mpr (.inr rfl),-1,by decide,rfl⟩
theorem VC{aa:Nat}{ad:List (List Trm)}{N:List Rat}(m1:1<=aa)(h:St0 aa (ad.length+1) (kG aa ad N)):St0 aa (ad.length+1) (kW aa ad N):=by
 have hl:∀r∈kG aa ad N,aa+2<=r.length:=λr hr=>by rw[h.b.len r hr];omega
 refine⟨⟨λw hw=>?_,λw hw=>?_⟩,λu hu d hd pu pd=>?_⟩
 ·obtain⟨r,hr,x,hx,rfl⟩:=EJ hw;rw[JA (hl r hr)];exact h.b.len r hr
 ·obtain⟨r,hr,x,hx,rfl⟩:=EJ hw;exact EI (h.b.bit r hr) hx
 ·obtain⟨r,hr,x,hx,rfl⟩:=EJ hu;obtain⟨r2,hr2,x2,hx2,rfl⟩:=EJ hd;rw[QE (hl r hr) (by omega)]at pu;rw[QE (hl r2 hr2) (by omega)]at pd;rcases h.pr r hr r2 hr2 pu pd with k | k
  ·exact .inl (EI k hx)
  ·exact .inr (EI k hx2)
theorem AB(aa:Nat)(ad:List (List Trm))(N:List Rat):(kG aa ad N).length=ad.length+1:=by
 unfold kG jU;rw[hV,mY,mM]
 rfl
def QT(K:tX):Sp:=λvs H Q _=>∃(a:Addr) (m:Nat) (ad:List (List Trm)) (N:List Rat) (xs:List V),vs=[.ref a,.int m]/\RwsP H a xs (kG m ad N)/\N.length=m+1/\St0 m (ad.length+1) (kG m ad N)/\1<=m/\m<=3/\ad.length<=6/\(∀r∈xI m ad N,r.getD m 0=0)/\
 ∀(p:Addr) (ys:List V) (H':Hp),H p=none->Same H H'->H' p=some (.tup ys)->Paired (NumK K H') ys ((qF m (kD m (kW m ad N)) 0 m).take m)->(∀k∈(qF m (kD m (kW m ad N)) 0 m).take m,SzR 6630 k)->Q (.ref p) H'
structure WyI(H1:Hp)(q:Addr)(af:List Rw)(m i:Nat)(ys:List V)(H2:Hp):Prop where
 s:Same H1 H2
 e:H2 q=some (.lst ys)
 pr:Paired (RR H2) ys ((af.map λr=>kP m r 0).take i)
 nd:ys.Nodup
 fr:∀p,V.ref p∈ys->H1 p=none
theorem AJ{m S n:Nat}{rim:Nat->Nat->Rat}{af:List Rw}{T:Rat}(h:StOk m S n rim 0 af)(hn:n<=S)(hb:St0 m S af)(fin:∀r∈kD m af m,0<=rw' (r.drop m) [T,1]) :
  (∀j,j<m->Bears (m-1-j) (qF m (kD m af) T j) (kD m af (m-1-j)))/\∀e,e<m->∀r∈kD m af e,m+2<=r.length/\∀i∈r,i.natAbs<=2^gB e:=by
 refine⟨(yE h hn fin m uV).2,λe he r hr=>?_⟩;have se:=xL hb e;exact⟨by rw[se.len r hr];omega,se.bit r hr⟩
theorem scWd:FnScope ["rows","many","steps"] ["rows","many"] (jL LQ):=⟨rfl,rfl,rfl,by decide +kernel,rfl,by decide +kernel,by decide +kernel⟩
theorem WC{fS fP:Addr}{fdS fdP:FuncData}(F:Fun K "way_down" "way_down" LQ f fd)(N:Ngt K mg)(DS:Df K mg "stages" zQ ["rows","many"] fS fdS)(GS:FnOk P w K mg base CX0 3 fS fdS ["rows","many"] spStg)(DP:Df K mg "spot_of" CV ["found","many","level"] fP fdP)(GP:FnOk P w K mg base CX0 5 fP fdP ["found","many","level"] (ES K)):FnOk P w K mg base CX0 6 f fd ["rows","many"] (QT K):=by
 obtain⟨na,hN,hna⟩:=N;refine F.ok scWd (λvs H Q E h=>?_) (λcdv A outer s H vs Q E hr h=>?_)
 ·obtain⟨a,m,ad,N,xs,rfl,_⟩:=h
  rfl
 ·obtain⟨a,m,ad,N,xs,rfl,rp,hN1,sb,m1,m3,t6,hz,go⟩:=h;have hr3:Room 3 _:=hr.mono (by decide);refine⟨_,jB (yN (i:=2) scWd.nd rfl (Or.inl rfl) (own:=1) (idx:=[1]) (N:=["row","many"]) rfl rfl rfl (by decide +kernel) (by decide +kernel) (vV (by intro y hy;simp only[nP,mR,or_false]at hy;rcases hy with rfl;rfl)) (vO rfl) rfl (xN rfl ⟨rfl,rfl,rfl,rfl⟩) (kX (pv 0)) (λC fp s2 H2=>(jI (i:=0) (show List.Nodup (["row","many"]:List Str) by decide +kernel) rfl (Or.inl rfl) (Or.inr rfl))) (λC fp s2 H2=>jK qY (jK qY (qM (show SlR (jJ _ ["row","many"] _ _ C fp s2 H2) (RO K)from qK) (pv 0) vW (qG (pv 1))) (kM (jA jD (jA jD jC)))) (qM (show SlR (jJ _ ["row","many"] _ _ C fp s2 H2) (RO K)from qK) (pv 0) (qG (jK kJ (pv 1) jD)) vW))) (jB (qL (vI qJ jD) (zF (jQ jW (pv 2) (vI qJ jD) (λ_ _=>rfl)) (jK kJ (pv 1) jD) vZ)) (jE (jP (jG GP hr rfl DP.m DP.F.kp DP.b .nil jR (jA (jG GS hr3 rfl DS.m DS.F.kp DS.b .nil jR (jA (pv 2) (jA (pv 1) jC))) (jA (pv 1) (jA (qB (v:=.ref na) (by rfl) hN rfl) jC))))))), ?_⟩;try dsimp only[cxK]
  have lx:xs.length=(kG m ad N).length:=Paired.length rp.pr;have la:=AB m ad N;refine⟨_,rfl,a,rfl,⟨xs,SqL.of rp.at'⟩,λq H1 n1 s1 e1=>?_⟩;refine xU (K:=K) (a:=a) (xs:=xs) (WyI H q (kG m ad N) m) (by rw[lx,la,sizeLine_eq];omega) ⟨s1,e1,.nil,List.nodup_nil,λ_ h=>nomatch h⟩ (λj ys H2 h=>⟨SqL.of (h.s _ _ rp.at'),h.e⟩) ?_ ?_
  ·rintro j m' ys x H2 hx hm hy ⟨s2,e2,pr2,nd2,fr2⟩;obtain⟨r,hr',p,rfl,er⟩:=Paired.at rp.pr hx;have rm:=gS hr';have rl:r.length=m+2+(ad.length+1):=sb.b.len r rm;have er2:=s2 _ _ er;refine⟨uT,_,rfl,_,rfl,_,rfl,p,_,rfl,SqL.of er2,λl3 H3 n3 s3 e3=>⟨uY,λl4 H4 n4 s4 e4=>?_⟩⟩;rw[IN,<-nV]at e3;refine⟨l3,l4,_,_,rfl,rfl,s4 _ _ e3,e4,by rw[mY,mQ,sizeLine_eq];show min m r.length+2<=_;omega,λl5 H5 n5 s5 e5=>?_⟩;refine⟨_,rfl,_,rfl,_,_,rfl,rfl,_,rfl,p,_,rfl,SqL.of ((s3.trans (s4.trans s5)) _ _ er2),λl6 H6 n6 s6 e6=>?_⟩;rw[show((m:Int)+2)=((m+2:Nat):Int) by omega,zL,<-List.map_drop]at e6;refine⟨l5,l6,_,_,rfl,rfl,s6 _ _ e5,e6,by rw[hV,mY,mY,mQ,List.length_drop,sizeLine_eq];show min m r.length+2+_<=_;omega,λl7 H7 n7 s7 e7=>?_⟩;have s27:=s3.trans (s4.trans (s5.trans (s6.trans s7)));have e27:=s27 _ _ e2;have e7':H7 l7=some (.lst ((kP m r 0).map V.int)):=by
    rw[e7];unfold kP;rw[mZ,mZ]
    rfl
   have n72:H2 l7=none:=(s3.trans (s4.trans (s5.trans s6))).free n7;have pr7:Paired (RR H7) ys (((kG m ad N).map λr=>kP m r 0).take j):=Paired.to (λ_ _ k=>RR.same k s27) pr2;refine qA hx hm hy e27 ⟨kQ (s2.trans s27) n1,jF, ?_, ?_,λp' hp'=>?_⟩
   ·rw[mJ,mH,hr'];refine Paired.app (BJ e27 (RE e27 pr7) pr7) (.cons ⟨l7,rfl, ?_⟩ .nil);rw[jH λz=>by rw[z,e2]at n72;cases n72];exact e7'
   ·rw[mN];refine⟨nd2,by simp,λy hy z hz e=>?_⟩;rw[mC.mp hz]at e;obtain⟨k,hk⟩:=gQ.mp hy;obtain⟨_,_,p',e',q'⟩:=Paired.at pr2 hk;rw[e]at e';cases e';rw[n72]at q';cases q'
   ·rcases nB.mp hp' with h | h
    ·exact fr2 p' h
    ·cases mC.mp h;exact s2.free n72
  ·rintro ys H2 hy ⟨s2,e2,pr2,nd2,fr2⟩;rw[lx,gL (by rw[mY];exact tL _)]at pr2;have ly:ys.length=ad.length+1:=by rw[hy,lx,la]
   have sp:(kG m ad N).map (λr=>kP m r 0)=(jU m ad).map (λr=>kP m r 0)++[kP m (kZ m N ad.length) 0]:=by
    unfold kG;rw[mZ]
    rfl
   have lrr:(jU m ad).length=ad.length:=by unfold jU;rw[mY,mM]
   obtain⟨pl,hpl⟩:∃pl,ys[ad.length]? = some (.ref pl):=by
    obtain⟨_,_,p,e,_⟩:=Paired.at pr2 (gG (show ad.length<ys.length by omega));exact⟨p,by rw[gG (show ad.length<ys.length by omega),e]⟩
   obtain⟨w0,hw0,p0,ep0,el⟩:=Paired.at pr2 hpl;cases ep0;rw[sp,gC (by rw[mY,lrr];exact tL _),mY,lrr,Nat.sub_self]at hw0;cases hw0;have ysp:ys=ys.take ad.length++[.ref pl]:=by
    have:=List.take_append_drop ad.length ys;rw[List.drop_eq_getElem_cons (by omega),gM (by omega),(gE.mp hpl).2]at this;exact this.symm
   have last:atI ys (-1)=some (.ref pl):=by
    rw[ysp];exact CG _ _
   have lvl:=uH hN1 ad.length;dsimp only[kR];refine⟨_,rfl,_,rfl,_,rfl,q,_,_,_,rfl,rfl,SqL.of e2,last,_,rfl,_,_,rfl,rfl,pl,_,_,m+1,rfl,rfl,el, ?_, ?_⟩
   ·unfold ixN;rw[tW (by omega),tW (by rw[mY,JA (by omega),lvl];omega)]
    congr 1
   have nq:H2 q≠H2 pl:=λz=>by
    rw[e2,el]at z;have z:ys=(kP m (kZ m N ad.length) 0).map V.int:=by injection (Option.some.inj z)
    have:=gS hpl;rw[z]at this;obtain⟨n,_,y⟩:=tD.mp this;cases y
   have ew:(List.map V.int (kP m (kZ m N ad.length) 0)).set (m+1) (V.int (-1))=(kP m (kZ m N ad.length) (-1)).map V.int:=by
    have:=YW (m:=m) (r:=kZ m N ad.length) (by omega) 0 (-1);rw[<-this,List.map_set]
   rw[ew];have npl:H pl=none:=fr2 pl (gS hpl);have qp:q≠pl:=λz=>nq (by rw[z]);have ndy:=nd2;rw[ysp,mN]at ndy;have tk:((kG m ad N).map λr=>kP m r 0).take ad.length=(jU m ad).map λr=>kP m r 0:=by
    rw[sp,List.take_append_of_le_length (by rw[mY,lrr];exact tL _),gL (by rw[mY,lrr];exact tL _)]
   have pr3:Paired (RR H2) (ys.take ad.length) ((jU m ad).map λr=>kP m r 0):=by
    have:=zG ad.length pr2
    rwa [tk]at this
   have s3:Same H (upd H2 pl (.lst ((kP m (kZ m N ad.length) (-1)).map V.int))):=kQ s2 npl;have rw3:RwsP (upd H2 pl (.lst ((kP m (kZ m N ad.length) (-1)).map V.int))) q ys (kW m ad N):=by
    refine⟨by rw[jH qp];exact e2, ?_⟩;rw[ysp];unfold kW;exact Paired.app (BJ el (λv hv=>ndy.2.2 v hv _ (by simp)) pr3) (.cons ⟨pl,rfl,jF⟩ .nil)
   generalize upd H2 pl (.lst ((kP m (kZ m N ad.length) (-1)).map V.int))=H3 at s3 rw3;have wb:=VC m1 sb;have lw:(kW m ad N).length=ad.length+1:=by
    unfold kW;rw[hV,mY,lrr]
    rfl
   refine⟨_,rfl,_,rfl,q,m,ad.length+1,ys,_,rfl,rw3,wb,m3,by omega,by omega,λp4 H4 n4 s4 st4=>?_⟩;obtain⟨B,bits⟩:=AJ (JC (ad:=ad) hN1) uV wb (MW hN1 hz);refine⟨_,rfl,p4,.ref na,m,kD m (kW m ad N),0,1,rfl,st4,yW (hna _),m3,B,bits,by decide,mE,Ov.zero 1 _,λp5 y5 H5 n5 s5 e5 pr5 sz5=>?_⟩;exact go p5 y5 H5 ((s3.trans s4).free n5) (s3.trans (s4.trans s5)) e5 pr5 sz5
theorem Poly.up{H:Hp}{p:Addr}{aa:Nat}{z z':Sz}{ts:List Trm}(h:Poly H p aa z ts)(h1:z.D<=z'.D)(h2:z.v<=z'.v)(h3:z.S<=z'.S)(h4:z.n<=z'.n):Poly H p aa z' ts:=
 ⟨h.ex,h.nd,λx hx=>let t:=h.each x hx;⟨t.len,t.nn,Int.le_trans t.deg (by omega),t.pos,t.nz,t.low,t.sb,nY t.st (gX _ (gU (by decide) h2))⟩,nY h.sum h3,nY h.few h4⟩
theorem CY{aa:Nat}{ts:List Trm}{i c b:Nat}(nb:NumsB aa ts b):∀j∈kN aa ts i c,j.natAbs<=2^b:=λj hj=>by
 unfold kN at hj;rcases nB.mp hj with hi | hi
 ·rcases nB.mp hi with hi | hi
  ·exact nb.T j (gY hi)
  ·rcases nP.mp hi with rfl | hi
   ·exact tM _
   ·rw[mC.mp hi,gA];cases e:(lvT (jN aa ts))[aa]? with
    | none=>exact tM _
    | some v=>exact nb.T v (gS e)
 ·obtain⟨j,_,rfl⟩:=tD.mp hi;split
  ·exact nb.D
  ·exact tM _
theorem SX{aa:Nat}{ts:List Trm}{c b:Nat}(nb:NumsB aa ts b):∀j∈kZ aa (jN aa ts) c,j.natAbs<=2^b:=λj hj=>by
 unfold kZ at hj;rcases nB.mp hj with hj | hj
 ·rcases nB.mp hj with hj | hj
  ·rcases nB.mp hj with hj | hj
   ·obtain⟨k,hk,rfl⟩:=tD.mp hj;rw[nK];exact nb.T k (gY hk)
   ·rcases nP.mp hj with rfl | hj
    ·exact nb.D
    ·rw[mC.mp hj,nK,gA];cases e:(lvT (jN aa ts))[aa]? with
     | none=>exact tM _
     | some v=>exact nb.T v (gS e)
  ·rw[(List.mem_replicate.mp hj).2];exact tM _
 ·rw[mC.mp hj];exact nb.D
theorem YB{aa:Nat}{ad:List (List Trm)}{ts1:List Trm}(h1:NumsB aa ts1 650)(h2:∀ts∈ad,NumsB aa ts 200):St0 aa (ad.length+1) (kG aa ad (jN aa ts1)):=by
 have hN:=kY aa ts1;have sm:∀i,i<ad.length->∀j∈kN aa (ad.getD i []) i ad.length,j.natAbs<=2^200:=λi hi=>by
  have:ad.getD i []=ad[i]:=by rw[gA,gG hi];rfl
  rw[this];exact CY (h2 _ (mU hi))
 refine⟨⟨λr hr=>(GJ hN r hr).len,λr hr=>?_⟩,λu hu d hd pu pd=>?_⟩
 ·rcases all_mem.mp hr with⟨i,hi,rfl⟩ | rfl
  ·exact λj hj=>nY (sm i hi j hj) (gU (by decide) (by decide))
  ·exact SX h1
 ·rcases all_mem.mp hu with⟨i,hi,rfl⟩ | rfl
  ·exact .inl (sm i hi)
  ·rcases all_mem.mp hd with⟨i,hi,rfl⟩ | rfl
   ·exact .inr (sm i hi)
   ·omega
def CJ(aa:Nat)(ad:List (List Trm))(N:List Rat):Nat:=if (xI aa ad N).any (brk aa)then 0 else if (wA aa (xI aa ad N)).isSome then 2 else 1
def wS(aa:Nat)(ad:List (List Trm))(N:List Rat):Rat:=match wA aa (xI aa ad N)with
 | some b=>zZ aa b
 | none=>0
theorem NumK.kp{K:tX}{H H':Hp}{v:V}{x:Rat}(h:NumK K H v x)(k:Kp H H'):NumK K H' v x:=let ⟨p,e,q⟩:=h;⟨p,e,k.sqT q⟩
structure SptP(K:tX)(H:Hp)(q:Addr)(aa:Nat)(ks:List Rat):Prop where
 ex:∃us,H q=some (.tup us)/\Paired (NumK K H) us ks
 len:ks.length=aa
 sz:∀k∈ks,SzR 6630 k
theorem SptP.kp{K:tX}{H H':Hp}{q:Addr}{aa:Nat}{ks:List Rat}(h:SptP K H q aa ks)(k:Kp H H'):SptP K H' q aa ks:=let ⟨us,e,p⟩:=h.ex;⟨⟨us,k.tup _ _ e,Paired.to (λ_ _ h=>h.kp k) p⟩,h.len,h.sz⟩
structure WtsP(K:tX)(H:Hp)(q:Addr)(n:Nat)(ws:List Rat):Prop where
 ex:∃us,H q=some (.lst us)/\Paired (NumK K H) us ws
 len:ws.length=n
 sz:∀w∈ws,0<=w/\SzR 3410 w
theorem WtsP.same{K:tX}{H H':Hp}{q:Addr}{n:Nat}{ws:List Rat}(h:WtsP K H q n ws)(s:Same H H'):WtsP K H' q n ws:=let ⟨us,e,p⟩:=h.ex;⟨⟨us,s _ _ e,Paired.to (λ_ _ h=>h.same s) p⟩,h.len,h.sz⟩
inductive LowK(K:tX)(H0 H:Hp)(aa:Nat)(ad:List (List Trm))(N:List Rat)(p:Addr):Nat->Prop where
 | none {q:Addr} {ws:List Rat} (e:H p=some (.tup [.str "none",.ref q])) (nq:H0 q=none) (w:WtsP K H q ad.length ws) (c0:∀j,j<aa->vU aa ad ws j=0) (c1:vU aa ad ws aa = -1):LowK K H0 H aa ad N p 0
 | falls {q q2:Addr} {ks hs:List Rat} (e:H p=some (.tup [.str "falls",.ref q,.ref q2])) (sp:SptP K H q aa ks) (wy:SptP K H q2 aa hs) (k1:∀ts∈ad,0<=lnV (jN aa ts) ks) (k2:lnV N ks<0) (h1:∀ts∈ad,0<=lnH (jN aa ts) hs) (h2:lnH N hs<0):LowK K H0 H aa ad N p 1
 | least {n q r:Addr} {ks ws:List Rat} (e:H p=some (.tup [.str "least",.ref n,.ref q,.ref r])) (nr:H0 r=none) (nn:At2 H n (wS aa ad N).num (wS aa ad N).den) (ns:SzR 3410 (wS aa ad N)) (sp:SptP K H q aa ks) (w:WtsP K H r ad.length ws) (k1:∀ts∈ad,0<=lnV (jN aa ts) ks) (k2:lnV N ks=wS aa ad N) (c0:∀j,j<aa->vU aa ad ws j=N.getD j 0) (c1:wS aa ad N+vU aa ad ws aa=N.getD aa 0):LowK K H0 H aa ad N p 2
def yY(K:tX):Sp:=λvs H Q _=>∃(p a:Addr) (xs:List V) (aa:Nat) (z1 z:Sz) (ts1:List Trm) (ad:List (List Trm)),vs=[.ref p,.ref a]/\Poly H p aa z1 ts1/\RimsP H a xs aa z ad/\z1.D<=1/\z.D<=1/\1<=aa/\aa<=3/\z1.v+z1.S<=2200/\z.v+z.S<=2200/\z1.n<=1000/\z.n<=1000/\ad.length<=6/\NumsB aa ts1 650/\(∀ts∈ad,NumsB aa ts 200)/\
 ∀(r:Addr) (H':Hp),H r=none->Same H H'->LowK K H H' aa ad (jN aa ts1) r (CJ aa ad (jN aa ts1))->Q (.ref r) H'
theorem QG{m n:Nat}{r:Rw}{b:Int}(hb:b≠0)(bb:b.natAbs<=2^3407)(br:∀i∈r,i.natAbs<=2^3407):∀w∈wtL m n r b,SzR 3410 w:=λw hw=>by
 unfold wtL shL at hw;rw[tJ]at hw;obtain⟨i,_,rfl⟩:=tD.mp hw;show SzR 3410 (((r.getD (m+2+i) 0:Int):Rat)/((b:Int):Rat));have sb:(r.getD (m+2+i) 0).natAbs<=2^3407:=by
  by_cases k:m+2+i<r.length
  ·exact br _ (vA k)
  ·rw[gA,gP (by omega)];exact tM _
 have o:Ov 1 3407 ((r.getD (m+2+i) 0:Int):Rat):=⟨r.getD (m+2+i) 0,by unfold fv;rw[tO,show((1:Int):Rat)=1 from rfl];grind,sb⟩;have o:=o.div (by decide) hb;rw[Int.one_mul]at o;exact o.sz (by omega) (by rw[mD];exact bb) (by omega) (by omega)
theorem XY{m b:Nat}{r:Rw}(h0:0<r.getD m 0)(hb:(r.getD (m+1) 0).natAbs<=2^b):Ov (r.getD m 0) b (zZ m r):=by
 have o:Ov 1 b ((-(r.getD (m+1) 0):Int):Rat):=⟨-(r.getD (m+1) 0),by unfold fv;rw[tO,show((1:Int):Rat)=1 from rfl];grind,by rw[nK];exact hb⟩;have o:=o.div (c:=r.getD m 0) (by decide) (by omega);rw[Int.one_mul,Int.natAbs_of_nonneg (by omega)]at o;exact o
theorem SR{K:tX}{H:Hp}{p:Addr}(h:At2 H p (-1) 1):NumK K H (.ref p) (-1):=NumK.of h
theorem JB(m n:Nat)(r:Rw)(b:Int):(wtL m n r b).length=n:=by
 unfold wtL shL;rw[mY,mY,mM]
theorem scLe:FnScope ["one","rims","many","rows","found","weights","best","number"] ["one","rims"] (jL xW):=⟨rfl,rfl,rfl,by decide +kernel,rfl,by decide +kernel,by decide +kernel⟩
theorem OU{fB fR fV fS fK fT fP fW fD fH:Addr}{fdB fdR fdV fdS fdK fdT fdP fdW fdD fdH:FuncData}(F:Fun K "low_end" "low_end" xW f fd)(T:Txt mg)(DB:Df K mg "refuse_bent" uM ["some"] fB fdB)(GB:FnOk P w K mg base CX0 2 fB fdB ["some"] spRefB)(DR:Df K mg "rim_rows" yZ ["rims"] fR fdR)(GR:FnOk P w K mg base CX0 6 fR fdR ["rims"] (uD K))(DV:Df K mg "level_row" EX ["one","count"] fV fdV)(GV:FnOk P w K mg base CX0 5 fV fdV ["one","count"] spLevel)
  (DS:Df K mg "stages" zQ ["rows","many"] fS fdS) (GS:FnOk P w K mg base CX0 3 fS fdS ["rows","many"] spStg) (DK:Df K mg "broken" wP ["rows","many"] fK fdK) (GK:FnOk P w K mg base CX0 5 fK fdK ["rows","many"] (QX K)) (DT:Df K mg "tightest" EV ["rows","many"] fT fdT) (GT:FnOk P w K mg base CX0 1 fT fdT ["rows","many"] spTight) (DP:Df K mg "spot_of" CV ["found","many","level"] fP fdP) (GP:FnOk P w K mg base CX0 5 fP fdP ["found","many","level"] (ES K))
  (DW:Df K mg "way_down" LQ ["rows","many"] fW fdW) (GW:FnOk P w K mg base CX0 6 fW fdW ["rows","many"] (QT K)) (DD:Df K mg "divided" JP ["one","other"] fD fdD) (GD:FnOk P w K mg base CX0 3 fD fdD ["one","other"] (BF K)) (DH:Df K mg "shares_over" wN ["row","many","bottom"] fH fdH) (GH:FnOk P w K mg base CX0 4 fH fdH ["row","many","bottom"] (QU K)):FnOk P w K mg base CX0 7 f fd ["one","rims"] (yY K):=by
 refine F.ok scLe (λvs H Q E h=>?_) (λcdv A outer s H vs Q E hr h=>?_)
 ·obtain⟨p,a,xs,aa,z1,z,ts1,ad,rfl,_⟩:=h
  rfl
 ·obtain⟨p,a,xs,aa,z1,z,ts1,ad,rfl,hP,hR,z1D,zD,m1,m3,zb1,zb,zn1,zn,t6,nb1,nb2,go⟩:=h;have hr1:Room 1 _:=hr.mono (by decide);have hr2:Room 2 _:=hr.mono (by decide);have hr3:Room 3 _:=hr.mono (by decide);have hr4:Room 4 _:=hr.mono (by decide);have hr5:Room 5 _:=hr.mono (by decide);refine⟨_,jB (xM (jG GB hr2 rfl DB.m DB.F.kp DB.b .nil jR (jA (jK qY (kM (jA (pv 0) jC)) (pv 1)) jC))) (jB (jM (i:=2) scLe.nd rfl (Or.inl rfl) (jQ kI (pv 0) jD (λ_ _=>rfl))) (jB (jM (i:=3) scLe.nd rfl (Or.inl rfl) (jK qY (jG GR hr rfl DR.m DR.F.kp DR.b .nil jR (jA (pv 1) jC)) (kM (jA (jG GV hr5 rfl DV.m DV.F.kp DV.b .nil jR (jA (pv 0) (jA (qC qS (by rfl) T.len PySem.boot_len (jA (pv 1) jC)) jC))) jC)))) (jB (jM (i:=4) scLe.nd rfl (Or.inl rfl) (jG GS hr3 rfl DS.m DS.F.kp DS.b .nil jR (jA (pv 3) (jA (pv 2) jC)))) (jB (jM (i:=5) scLe.nd rfl (Or.inl rfl) (jG GK hr5 rfl DK.m DK.F.kp DK.b .nil jR (jA (jQ jW (pv 4) (vI qJ jD) (λ_ _=>rfl)) (jA (pv 2) jC)))) (jB (kU (wF (MB (pv 5))) (jE (jP (jV (jA qP (jA (pv 5) jC))))) kC) (jB (jM (i:=6) scLe.nd rfl (Or.inl rfl) (jG GT hr1 rfl DT.m DT.F.kp DT.b .nil jR (jA (jQ jW (pv 4) (vI qJ jD) (λ_ _=>rfl)) (jA (pv 2) jC)))) (jB (kU (wF (KA (pv 6))) (jE (jP (jV (jA qP (jA (jG GP hr5 rfl DP.m DP.F.kp DP.b .nil jR (jA (pv 4) (jA (pv 2) (jA (jV (jA (vI qJ jD) (jA jD jC))) jC)))) (jA (jG GW hr rfl DW.m DW.F.kp DW.b .nil jR (jA (pv 3) (jA (pv 2) jC))) jC)))))) kC) (jB (jM (i:=7) scLe.nd rfl (Or.inl rfl) (jG GD hr3 rfl DD.m DD.F.kp DD.b .nil jR (jA (jV (jA (vI qJ (jQ jW (pv 6) (jK kJ (pv 2) jD) (λ_ _=>rfl))) (jA jD jC))) (jA (jV (jA (jQ jW (pv 6) (pv 2) (λ_ _=>rfl)) (jA jD jC))) jC)))) (jE (jP (jV (jA qP (jA (pv 7) (jA (jG GP hr5 rfl DP.m DP.F.kp DP.b .nil jR (jA (pv 4) (jA (pv 2) (jA (pv 7) jC)))) (jA (jG GH hr4 rfl DH.m DH.F.kp DH.b .nil jR (jA (pv 6) (jA (pv 2) (jA (jQ jW (pv 6) (pv 2) (λ_ _=>rfl)) jC)))) jC))))))))))))))), ?_⟩
  try dsimp only[cxK]
  have lx:xs.length=ad.length:=Paired.length hR.pr;refine⟨_,rfl,uX,λl1 H1 n1 s1 e1=>⟨_,rfl,l1,a,_,_,rfl,rfl,e1,s1 _ _ hR.at',by rw[gR,lx,sizeLine_eq];omega,λl2 H2 n2 s2 e2=>?_⟩⟩;have s02:=s1.trans s2;refine⟨l2,_,aa,⟨1,z1.v+z.v,z1.S+z.S,1000⟩,ts1::ad,rfl,⟨e2,.cons ⟨p,rfl,(hP.kp (Kp.of s02)).up z1D (Nat.le_add_right ..) (Nat.le_add_right ..) zn1⟩ (Paired.to (λ_ _ ⟨q,e,h⟩=>⟨q,e,(h.kp (Kp.of s02)).up zD (Nat.le_add_left ..) (Nat.le_add_left ..) zn⟩) hR.pr)⟩,tL _,by omega,tL _,λH3 s3=>?_⟩;have s03:=s02.trans s3;obtain⟨q0,o0,x0,g1,g2,_⟩:=hP.ex;refine⟨_,rfl,p,_,_,_,rfl,rfl,SqT.of (s03 _ _ g1),rfl, ?_⟩;refine⟨_,rfl,a,xs,aa,z,ad,rfl,hR.same s03,zD,m1,by omega,zb,zn,by omega,λp4 y4 H4 n4 s4 r4=>?_⟩;have s04:=s03.trans s4;refine⟨_,rfl,_,rfl,a,xs,rfl,.inl (SqL.of (s04 _ _ hR.at')),p,xs.length,aa,z1,ts1,rfl,hP.kp (Kp.of s04),z1D,m1,by omega,zb1,zn1,by omega,λp5 H5 n5 s5 e5=>?_⟩;rw[lx]at e5;have s05:=s04.trans s5;have r5:=r4.same s5;have lr:(jU aa ad).length=ad.length:=by unfold jU;rw[mY,mM]
  have ly:y4.length=ad.length:=by rw[Paired.length r4.pr,lr]
  refine⟨uX,λl6 H6 n6 s6 e6=>⟨p4,l6,_,_,rfl,rfl,s6 _ _ r5.at',e6,by rw[gR,ly,sizeLine_eq];omega,λl7 H7 n7 s7 e7=>?_⟩⟩;have s57:=s6.trans s7;have hN:=kY aa ts1;have af:RwsP H7 l7 (y4++[.ref p5]) (kG aa ad (jN aa ts1)):=⟨e7,Paired.app (r5.same s57).pr (.cons ⟨p5,rfl,s57 _ _ e5⟩ .nil)⟩;have sb:=YB nb1 nb2;have la:=AB aa ad (jN aa ts1);have s07:=s05.trans s57;clear r4 r5;generalize hNN:jN aa ts1=N at af sb la hN go;refine⟨_,rfl,_,rfl,l7,aa,ad.length+1,_,_,rfl,af,sb,m3,by omega,by omega,λp8 H8 n8 s8 st8=>?_⟩;obtain⟨fs,f1,f2,f3⟩:=st8.ex;obtain⟨pa,x9,h9,r9⟩:=f3 aa uV ;have last:=FS f2 h9;have sm:=xL sb aa;have g3:=TX m3;have smb:∀r∈xI aa ad N,∀i∈r,i.natAbs<=2^3407:=λr hr' i hi=>nY (sm.bit r hr' i hi) (gU (by decide) g3);have s08:=s07.trans s8;have aok:=GF (ad:=ad) hN;refine⟨_,rfl,_,rfl,p8,_,_,_,rfl,rfl,SqL.of f1,last,_,rfl,pa,aa,ad.length,x9,_,rfl,r9,sm.len,by omega,by omega,smb,λhn H9 s9=>?_,λr hr' hb q us H9 nq s9 e9 pr9=>?_⟩
  ·refine⟨_,rfl,_,rfl,vF (by rfl) ?_⟩;have anyF:(xI aa ad N).any (brk aa)=false:=by
    cases e:(xI aa ad N).any (brk aa)with
    | false=>rfl
    | true=>
     obtain⟨r,hr1,hr2⟩:=List.any_eq_true.mp e;rw[hn r hr1]at hr2;cases hr2
   refine⟨_,rfl,_,rfl,p8,_,_,_,rfl,rfl,SqL.of (s9 _ _ f1),last,_,rfl,pa,aa,ad.length+1,x9,_,rfl,r9.same s9,sm.len,by omega,smb,λbv H10 s10 bs=>?_⟩;have s010:=s08.trans (s9.trans s10);have st10:=st8.same (s9.trans s10);generalize hbo:wA aa (xI aa ad N)=bo at bs;cases bs with
   | non=>
    have lW:CJ aa ad N=1:=by unfold CJ;rw[anyF,hbo];rfl
    have fl:=XN (N:=N) hN hn hbo (-1);obtain⟨B,bits⟩:=AJ aok uV sb λr hr=>(fl r hr).2;refine⟨_,rfl,_,rfl,vS (nG rfl) ?_⟩;refine⟨_,rfl,_,rfl,_,rfl,uY,λl11 H11 n11 s11 e11=>?_⟩;have D1:Ov 1 (gB aa) (-1):=⟨-1,by unfold fv;rw[show((-1:Int):Rat) = -1 from rfl,show((1:Int):Rat)=1 from rfl];grind,by show 1<=_;exact mE⟩;refine⟨p8,.ref l11,aa,kD aa (kG aa ad N),-1,1,rfl,st10.same s11,SR e11,m3,B,bits,by decide,mE,D1,λp12 y12 H12 n12 s12 e12 pr12 sz12=>?_⟩;have s712:=s8.trans (s9.trans (s10.trans (s11.trans s12)));refine⟨_,rfl,_,rfl,l7,aa,ad,N,_,rfl,af.same s712,hN,sb,m1,m3,t6,λr hr=>(fl r hr).1,λp13 y13 H13 n13 s13 e13 pr13 sz13=>?_⟩;refine⟨uZ,λp14 H14 n14 s14 e14=>?_⟩;have sx:=QS (ad:=ad) hN λr hr=>(fl r hr).2;have wx:=way_x (ad:=ad) hN λr hr=>(fl r hr).1;have l1:=qU aa (kD aa (kG aa ad N)) (-1) aa;have l2:=qU aa (kD aa (kW aa ad N)) 0 aa;have s014:=s07.trans (s712.trans (s13.trans s14));refine go p14 H14 ((s07.trans (s712.trans s13)).free n14) s014 ?_;rw[lW];have s1314:=s13.trans s14;exact .falls e14 ⟨⟨y12,s1314 _ _ e12,Paired.to (λ_ _ h=>h.same s1314) pr12⟩,by rw[mQ];omega,sz12⟩ ⟨⟨y13,s14 _ _ e13,Paired.to (λ_ _ h=>h.same s14) pr13⟩,by rw[mQ];omega,sz13⟩ sx.1 (by have:=sx.2;grind) wx.1 wx.2
   | @row b bp eb=>
    have lW:CJ aa ad N=2:=by unfold CJ;rw[anyF,hbo];rfl
    have lN:wS aa ad N=zZ aa b:=by unfold wS;rw[hbo]
    have fl:=UC (N:=N) hN hn hbo;obtain⟨b1,b2,b3⟩:=(BC aa (xI aa ad N)).some b hbo;obtain⟨B,bits⟩:=AJ aok uV sb fl;have bl:=sm.len b b1;have c1:(b.getD (aa+1) 0).natAbs<=2^gB aa:=sm.bit b b1 _ (vA (by omega));have c0:(b.getD aa 0).natAbs<=2^gB aa:=sm.bit b b1 _ (vA (by omega));have ov:=XY b2 c1;have szT:SzR 3410 (zZ aa b):=ov.sz b2 c0 (by omega) (by omega);have bw:=best_x hN b1 b2;have gl:atI (b.map V.int) ((aa:Int)+1)=some (.int (b.getD (aa+1) 0)):=vM (l:=aa+1) (by omega);have gv:atI (b.map V.int) (aa:Int)=some (.int (b.getD aa 0)):=vM (l:=aa) (by omega);have nz:((b.getD aa 0:Int):Rat)≠0:=λz=>by
     have:b.getD aa 0=0:=Rat.intCast_inj.mp (by rw[z];rfl);omega
    have up:∀{i:Int},i.natAbs<=2^gB aa->SzR 7900 ((i:Int):Rat):=λh=>BV (hU h (gW (by decide) (by omega))) (by decide);refine⟨_,rfl,_,rfl,vF (nA λz=>by cases z) ?_⟩;refine⟨_,rfl,_,rfl,_,_,rfl,rfl,bp,_,_,_,rfl,rfl,SqL.of eb,gl,_,rfl,uY,λl11 H11 n11 s11 e11=>?_⟩;refine⟨_,rfl,_,rfl,bp,_,_,_,rfl,rfl,SqL.of (s11 _ _ eb),gv,uY,λl12 H12 n12 s12 e12=>?_⟩;refine⟨l11,l12,_,_,_,_,rfl,wB (SqT.of (s12 _ _ e11)),wB (SqT.of e12),(up (by rw[nK];exact c1)).fr uV,(up c0).fr uV,FI nz,λl13 H13 n13 s13 e13=>?_⟩;have e13:=UN nz e13;have nk:NumK K H13 (.ref l13) (zZ aa b):=NumK.of e13;have s1013:=s11.trans (s12.trans s13);refine⟨_,rfl,_,rfl,_,rfl,_,rfl,p8,.ref l13,aa,kD aa (kG aa ad N),zZ aa b,b.getD aa 0,rfl,st10.same s1013,nk,m3,B,bits,b2,c0,ov,λp14 y14 H14 n14 s14 e14 pr14 sz14=>?_⟩;have s1014:=s1013.trans s14;refine⟨_,rfl,_,rfl,_,rfl,_,rfl,bp,_,_,_,rfl,rfl,SqL.of (s1014 _ _ eb),gv,bp,aa,ad.length,b.getD aa 0,b,rfl,s1014 _ _ eb,bl,by omega,by omega,nY c0 (gU (by decide) g3),smb b b1,λq15 y15 H15 n15 s15 e15 pr15=>?_⟩;refine⟨(by show 4<=sizeLine;decide),λp16 H16 n16 s16 e16=>?_⟩;have sx:=QS (ad:=ad) hN fl;have l1:=qU aa (kD aa (kG aa ad N)) (zZ aa b) aa;have s015:=s010.trans (s1014.trans s15);have s1516:=s15.trans s16;refine go p16 H16 (s015.free n16) (s015.trans s16) ?_
    rw[lW];have lk:((qF aa (kD aa (kG aa ad N)) (zZ aa b) aa).take aa).length=aa:=by rw[mQ];omega
    refine .least (n:=l13) (q:=p14) (r:=q15) e16 ((s010.trans s1014).free n15) (by rw[lN];exact(s14.trans s1516) _ _ e13) (by rw[lN];exact szT) ⟨⟨y14,s1516 _ _ e14,Paired.to (λ_ _ h=>h.same s1516) pr14⟩,lk,sz14⟩ ⟨⟨y15,s16 _ _ e15,Paired.to (λ_ _ h=>h.same s16) pr15⟩,JB ..,λw hw=>⟨bw.2.2 w hw,QG (by omega) (nY c0 (gU (by decide) g3)) (smb b b1) w hw⟩⟩ sx.1 ?_ bw.1 (by rw[lN];exact bw.2.1);rw[lN];exact TF lk bw.1 bw.2.1 bw.2.2 sx.1 sx.2
  ·have anyT:(xI aa ad N).any (brk aa)=true:=List.any_eq_true.mpr ⟨r,hr',hb⟩;have lW:CJ aa ad N=0:=by unfold CJ;rw[anyT];rfl
   have ws:=none_x hN hr' hb;have lone:r.getD (aa+1) 0<0:=by
    unfold brk at hb;rw[Bool.and_eq_true]at hb;exact mL hb.2
   have ml:=sm.len r hr';have sz:=QG (m:=aa) (n:=ad.length) (r:=r) (b:=-(r.getD (aa+1) 0)) (by omega) (by rw[nK];exact smb r hr' _ (vA (by omega))) (smb r hr');refine⟨_,rfl,_,rfl,vS (by rfl) ⟨_,rfl,uY,λp6 H10 n10 s10 e10=>?_⟩⟩;refine go p6 H10 ((s08.trans s9).free n10) (s08.trans (s9.trans s10)) ?_;rw[lW];exact .none e10 (s08.free nq) ⟨⟨us,s10 _ _ e9,Paired.to (λ_ _ h=>h.same s10) pr9⟩,JB ..,λw hw=>⟨ws.2.2 w hw,sz w hw⟩⟩ ws.1 ws.2.1
theorem Tape.ne{cl:Addr}{H:Hp}{tp:Addr}{B:Int}(T:Tape cl H tp B){d:Addr}{o:HO}(e:H d=some o)(ho:∀xs,o≠.lst xs):d≠tp/\d≠cl:=by
 obtain⟨ns,spot,rest,left,h1,h2,_⟩:=T;refine⟨λz=>?_,λz=>?_⟩
 ·rw[z,h1]at e;cases e;exact ho _ rfl
 ·rw[z,h2]at e;cases e;exact ho _ rfl
theorem Tape.off{cl:Addr}{H:Hp}{tp:Addr}{B:Int}(T:Tape cl H tp B){d:Addr}(e:H d=none):d≠tp/\d≠cl:=by
 obtain⟨ns,spot,rest,left,h1,h2,_⟩:=T;refine⟨λz=>?_,λz=>?_⟩
 ·rw[z,h1]at e;cases e
 ·rw[z,h2]at e;cases e
theorem Tape.upd{cl:Addr}{H:Hp}{tp:Addr}{B B':Int}(T:Tape cl H tp B){l:Addr}(o:HO)(h1:l≠tp)(h2:l≠cl)(hB:B<=B'):Tape cl (upd H l o) tp B':=by
 obtain⟨ns,spot,rest,left,e1,e2,e3,e4,e5⟩:=T;exact⟨ns,spot,rest,left,by rw[jH (Ne.symm h1)];exact e1,by rw[jH (Ne.symm h2)];exact e2,e3,e4,by omega⟩
theorem FY{p l:Addr}{H H':Hp}{o:HO}(b:But p H H')(n:H l=none):But p H (upd H' l o):=λc u h hc=>by
 rw[jH (jX h n)];exact b c u h hc
theorem Tape.aside{cl:Addr}{H H':Hp}{tp d:Addr}{B:Int}(T:Tape cl H tp B)(b:But d H H')(h1:d≠tp)(h2:d≠cl):Tape cl H' tp B:=by
 obtain⟨ns,spot,rest,left,e1,e2,e3⟩:=T;exact⟨ns,spot,rest,left,b _ _ e1 (Ne.symm h1),b _ _ e2 (Ne.symm h2),e3⟩
theorem HA:∀aa j:Nat,(kT aa j).sum<=1/\∀n∈kT aa j,0<=n
 | 0,j=>⟨by show(0:Int)<=1;decide,λn h=>nomatch h⟩
 | n+1,0=>by
  rw[JG];have z:∀x∈kT n n,x=0:=λx hx=>by
   unfold kT at hx;obtain⟨k,hk,rfl⟩:=tD.mp hx;exact tV (by have:=nI.mp hk;omega)
  have s0:(kT n n).sum=0:=by
   have key:∀l:List Int,(∀x∈l,x=0)->l.sum=0:=λl=>by
    induction l with
    | nil=>exact λ_=>rfl
    | cons a l ih=>exact λh=>by rw[nU,h a (by simp),ih λx hx=>h x (by simp [hx])];rfl
   exact key _ z
  refine⟨by rw[nU,s0];decide,λx hx=>?_⟩;rcases nP.mp hx with rfl | hx
  ·decide
  ·rw[z x hx];exact tQ _
 | n+1,j+1=>by
  rw[NQ];obtain⟨h1,h2⟩:=HA n j;refine⟨by rw[nU,Int.zero_add];exact h1,λx hx=>?_⟩;rcases nP.mp hx with rfl | hx
  ·exact tQ _
  ·exact h2 x hx
def spLine:Sp:=λvs H Q _=>∃(tp:Addr) (aa:Nat) (B:Int),vs=[.ref tp,.int aa]/\1<=aa/\aa<=3/\∃cl,Tape cl H tp B/\B<2^31/\
 ∀(d:Addr) (E:List Ent) (H':Hp),H d=none->But tp H H'->Tape cl H' tp (B+28)->H' d=some (.dT (E.map Ent.kv))->DB H' aa ⟨1,40,56,4⟩ E->Q (.ref d) H'
inductive LnI(H:Hp)(cl tp d:Addr)(aa:Nat)(B:Int)(i:Nat):L2.St->Hp->Prop where
 | mk {u v x:Option V} {H':Hp} {E:List Ent} (b:But tp H H') (T:Tape cl H' tp (B+7*i)) (e:H' d=some (.dT (E.map Ent.kv))) (db:DB H' aa ⟨1,40,14*i,i⟩ E) (ky:∀n∈E.map Ent.ns,∃j,j<i/\n=kT aa j):LnI H cl tp d aa B i [some (.ref tp),some (.int aa),some (.ref d),u,v,x] H'
theorem NP{aa j k:Nat}(h:k<aa):(kT aa j).take (k+1)=(kT aa j).take k++[if k=j then 1 else 0]:=by
 rw[mJ,wZ h]
 rfl
theorem scLine:FnScope ["tape","many","found","letter","powers","number"] ["tape","many"] (jL LU):=⟨rfl,rfl,rfl,by decide +kernel,rfl,by decide +kernel,by decide +kernel⟩
theorem WJ{fD fN:Addr}{fdD fdN:FuncData}(F:Fun K "_law_line" "_law_line" LU f fd)(T:Txt mg)(DD:Df K mg "_law_draw" BI ["tape","many"] fD fdD)(GD:FnOk P w K mg base CX0 1 fD fdD ["tape","many"] spDraw)
  (DN:Df K mg "_law_number" AO ["tape"] fN fdN) (GN:FnOk P w K mg base CX0 2 fN fdN ["tape"] (LO 6 (2^38))):FnOk P w K mg base CX0 3 f fd ["tape","many"] spLine:=by
 refine F.ok scLine (λvs H Q E h=>?_) (λcdv A outer s H vs Q E hr h=>?_)
 ·obtain⟨tp,aa,B,rfl,_⟩:=h
  rfl
 ·obtain⟨tp,aa,B,rfl,m1,m4,cl,hT,hB,go⟩:=h;have hr1:Room 1 _:=hr.mono (by decide);have hu:_+1<cLine:=hU (Nat.add_le_add_left (by decide:1<=64) _) hr.units;refine⟨_,jB (jM (i:=2) scLine.nd rfl (Or.inl rfl) (HQ)) (jB (qZ PassesOwn.never rfl (vH (by rfl) T.rng (jA (jK kJ (pv 1) jD) jC)) (jI (i:=3) scLine.nd rfl (Or.inr rfl)) (jB (jM (i:=4) scLine.nd rfl (Or.inl rfl) (qN vY (by rfl) T.tup boot_tuple (jA (yF (own:=1) (idx:=[3]) (N:=["k","letter"]) rfl rfl rfl (by decide +kernel) (by decide +kernel) (vV (by intro y hy;simp only[nP,mR,or_false]at hy;rcases hy with rfl;rfl)) (vO rfl) rfl (xN rfl ⟨rfl,rfl,rfl,rfl⟩) (vH (by rfl) T.rng (jA (pv 1) jC)) (λC fp s2 H2=>(jI (i:=0) (show List.Nodup (["k","letter"]:List Str) by decide +kernel) rfl (Or.inl rfl) (Or.inr rfl))) (λC fp s2 H2=>qN (show CallR (jJ _ ["k","letter"] _ _ C fp s2 H2) (.type "int") _ from EC) (by rfl) T.int boot_int (jA (zS xX (pv 0) (pv 1) (jY _)) jC))) jC))) (jB (jM (i:=5) scLine.nd rfl (Or.inl rfl) (jG GN hr rfl DN.m DN.F.kp DN.b .nil jR (jA (pv 0) jC))) (jE (kU (PW.pt (FB (jT uP (jG GD hr1 rfl DD.m DD.F.kp DD.b .nil jR (jA (pv 0) (jA jD jC))) jD (jY _)) (AS (jT HR (jQ kI (pv 5) jD (λ_ _=>rfl)) jD (jY _))))) (jE (FD hu (pv 2) (pv 4) (pv 5) rfl)) kC))))) (jE (jP (pv 2)))), ?_⟩
  try dsimp only[cxK]
  intro d nd;have od:=hT.off nd;have T0:Tape cl (upd H d (.dT [])) tp B:=hT.upd _ od.1 od.2 uW ;refine⟨_,rfl,_,_,rfl,rfl,aa+1,by rfl,by omega,by omega, ?_⟩;have p30:(2:Int)^31+300<2^37:=by decide
  refine yJ (n:=aa+1) (LnI H cl tp d aa B) (.mk (E:=[]) (FY (But.refl tp H) nd) (T0.mono (Same.refl _) (by omega)) jF ⟨List.nodup_nil,(λe h=>nomatch h),tL _,tL _⟩ (λn h=>nomatch h)) (λi σ H2 hi h=>?_) (fun σ H2 h=>?_)
  ·obtain⟨b2,T2,e2,db,ky⟩:=h;rename_i E2;refine⟨_,rfl,aa,rfl,by omega,by omega,λq H3 n3 s3 e3=>?_⟩;refine zM (n:=aa) (CmI (λk=>((kT aa i).take k).map V.int) q H2) (by rw[sizeLine_eq];omega) ⟨s3,e3,rfl⟩ (λ_ _ _ h=>h.e) ?_ ?_
   ·rintro k m' ys x H4 hx hm hy ⟨s4,e4,ey⟩;obtain⟨_,hk⟩:=BA hx;refine⟨uT,_,rfl,_,rfl,rfl,.inr ⟨_,rfl, ?_⟩⟩;refine qA hx hm hy e4 ⟨kQ s4 n3,jF, ?_⟩;rw[NP hk,mZ,ey,vR];by_cases c:k=i
    ·rw[tW c,tW (by rw[c];simp)];rfl
    ·rw[tV c,tV (by simp;omega)];rfl
   ·rintro ys H4 hy ⟨s4,e4,ey⟩;rw[gL (by rw[CP];exact tL _)]at ey;refine⟨q,_,rfl,.inl ⟨SqL.of e4,λb nb=>?_⟩⟩;rw[ey];have sb:Same H4 (upd H4 b (.tup ((kT aa i).map V.int))):=kF _ nb;have eb:(upd H4 b (.tup ((kT aa i).map V.int))) b=some (.tup ((kT aa i).map V.int)):=jF;generalize upd H4 b (.tup ((kT aa i).map V.int))=H5 at sb eb;have s25:=s4.trans sb;have T5:=T2.mono s25 uW ;have bo:=(T2.mono s4 uW).off nb;have dn:=T5.ne (s25 _ _ e2) (λ_ z=>by cases z);refine⟨_,rfl,tp,_,rfl,cl,T5,by omega,λr t b' H6 fr e6 rne T6 b6 nw=>?_⟩;have d6:=b6 _ _ (s25 _ _ e2) dn.1;have k6:=(Kp.of s25).trans (Kp.butT b6 T5);have eb6:=b6 _ _ eb bo.1;refine NF rfl T6 (by omega) (by decide) (by decide) λc H7 c0 c1 T7 b7=>⟨_,_,rfl,rfl,_,rfl, ?_⟩;have k7:=k6.trans (Kp.butT b7 T6);have dn6:=T6.ne d6 (λ_ z=>by cases z);have d7:=b7 _ _ d6 dn6.1;have bb7:But tp H H7:=b2.trans ((But.of s25).trans (b6.trans b7));have next:LnI H cl tp d aa B (i+1) [some (.ref tp),some (.int aa),some (.ref d),some (.int (0+(i:Int))),some (.ref b),some (.ref r)] H7:=
     .mk bb7 (T7.mono (Same.refl _) (by omega)) d7 ((db.kp k7).up uV uV (by show 14*i<=14*(i+1);omega) (Nat.le_succ _)) λn hn=>by
      obtain⟨j,hj,e⟩:=ky n hn;exact⟨j,by omega,e⟩
    refine AG (λ_=>?_) (λ_=>AF next);have e7:=b7 _ _ e6 rne;refine rvT rfl (SqT.of e7) rfl ⟨rfl,_,rfl, ?_⟩;rw[vR];by_cases t0:t=0
    ·exact vF (by rw[nG t0];rfl) next
    refine vS (by rw[nA t0];rfl) ?_;have us:=HA aa i;have nin:kT aa i∉E2.map Ent.ns:=λhh=>by
     obtain⟨j,hj,e⟩:=ky _ hh;have:=QL (by omega) (by omega) e;omega
    have eb7:H7 b=some (.tup ((kT aa i).map V.int)):=b7 _ _ eb6 bo.1;refine⟨_,rfl,_,rfl,_,rfl,d,_,rfl,DPut.t (k:=LwD.ik (kT aa i)) d7 (by rw[LwD.wK];exact eb7) (hU (by rw[mY];exact nY db.few (show i<=4 by omega)) (by decide)), ?_⟩;have rd:r≠d:=λz=>by rw[z,d7]at e7;cases e7
    have k8:=k7.trans (Kp.upd (y:=.dT (yV (List.map Ent.kv E2) (LwD.ik (kT aa i)) (.ref r))) d7 trivial);have dt7:=T7.ne d7 (λ_ z=>by cases z);refine .mk (E:=E2++[⟨kT aa i,r,t,b',14⟩]) (FY bb7 nd) (T7.upd _ dt7.1 dt7.2 (by omega)) ?_ ⟨?_,λy hy=>?_, ?_, ?_⟩ λn hn=>?_
    ·rw[jF,FC (yO nin),mZ]
     rfl
    ·rw[mZ,mN];refine⟨db.nd,by simp,λa ha b hb=>?_⟩;have:b=kT aa i:=by simpa using hb
     rintro rfl;rw[this]at ha;exact nin ha
    ·rcases nB.mp hy with hy | hy
     ·exact(db.each y hy).kp k8
     ·rw[mC]at hy;subst hy;refine⟨CP ..,us.2,us.1,by show At2 _ r _ _;rw[At2,jH rd];exact e7,fr.pos,t0,Nat.le_of_lt fr.sb, ?_⟩;refine nY (Nat.le_of_lt fr.st) (Nat.le_mul_of_pos_right _ ?_);have:=fr.pos;show 0<b'.natAbs;omega
    ·rw[mZ,List.sum_append];have:=db.sum;show(E2.map Ent.k).sum+(14+0)<=14*(i+1);have:(E2.map Ent.k).sum<=14*i:=this;omega
    ·rw[hV];exact Nat.succ_le_succ db.few
    ·rw[mZ]at hn;rcases nB.mp hn with hn | hn
     ·obtain⟨j,hj,e⟩:=ky n hn;exact⟨j,by omega,e⟩
     ·exact⟨i,by omega,by simpa using hn⟩
  ·obtain⟨b2,T2,e2,db,ky⟩:=h;exact⟨_,rfl,go d _ H2 nd b2 (T2.mono (Same.refl _) (by omega)) e2 (db.up uV uV (by show 14*(aa+1)<=56;omega) (by show aa+1<=4;omega))⟩
theorem RG{aa:Nat}{ad:List (List Trm)}(h2:∀ts∈ad,NumsB aa ts 200):St0 aa (ad.length+1) (jU aa ad):=by
 have sm:∀r∈jU aa ad,∀j∈r,j.natAbs<=2^200:=λr hr=>by
  obtain⟨i,hi,rfl⟩:=rimRows_mem.mp hr;have:ad.getD i []=ad[i]:=by rw[gA,gG hi];rfl
  rw[this];exact CY (h2 _ (mU hi))
 refine⟨⟨λr hr=>?_,λr hr j hj=>nY (sm r hr j hj) (gU (by decide) (by decide))⟩,λu hu d _ _ _=>.inl (sm u hu)⟩;obtain⟨i,_,rfl⟩:=rimRows_mem.mp hr;exact wE ..
inductive KepK(K:tX)(H0 H:Hp)(aa:Nat)(ad:List (List Trm))(p:Addr):Bool->Prop where
 | kept {q:Addr} {ks:List Rat} (e:H p=some (.tup [.str "kept",.ref q])) (sp:SptP K H q aa ks) (k1:∀ts∈ad,0<=lnV (jN aa ts) ks):KepK K H0 H aa ad p true
 | none {q:Addr} {ws:List Rat} (e:H p=some (.tup [.str "none",.ref q])) (nq:H0 q=none) (w:WtsP K H q ad.length ws) (c0:∀j,j<aa->vU aa ad ws j=0) (c1:vU aa ad ws aa = -1):KepK K H0 H aa ad p false
def QW(K:tX):Sp:=λvs H Q _=>∃(a:Addr) (xs:List V) (aa:Nat) (z:Sz) (ad:List (List Trm)),vs=[.ref a]/\RimsP H a xs aa z ad/\z.D<=1/\1<=aa/\aa<=3/\z.v+z.S<=2200/\z.n<=1000/\1<=ad.length/\ad.length<=6/\(∀ts∈ad,NumsB aa ts 200)/\
 ∀(p:Addr) (H':Hp),H p=none->Same H H'->KepK K H H' aa ad p (uS aa ad)->Q (.ref p) H'
theorem scKp:FnScope ["rims","many","found","weights"] ["rims"] (jL HG):=⟨rfl,rfl,rfl,by decide +kernel,rfl,by decide +kernel,by decide +kernel⟩
theorem WK{fB fR fS fK fP:Addr}{fdB fdR fdS fdK fdP:FuncData}(F:Fun K "kept" "kept" HG f fd)(N:Ngt K mg)(DB:Df K mg "refuse_bent" uM ["some"] fB fdB)(GB:FnOk P w K mg base CX0 2 fB fdB ["some"] spRefB)(DR:Df K mg "rim_rows" yZ ["rims"] fR fdR)(GR:FnOk P w K mg base CX0 6 fR fdR ["rims"] (uD K))(DS:Df K mg "stages" zQ ["rows","many"] fS fdS)(GS:FnOk P w K mg base CX0 3 fS fdS ["rows","many"] spStg)(DK:Df K mg "broken" wP ["rows","many"] fK fdK)(GK:FnOk P w K mg base CX0 5 fK fdK ["rows","many"] (QX K))(DP:Df K mg "spot_of" CV ["found","many","level"] fP fdP)(GP:FnOk P w K mg base CX0 5 fP fdP ["found","many","level"] (ES K)):FnOk P w K mg base CX0 7 f fd ["rims"] (QW K):=by
 obtain⟨na,hN,hna⟩:=N;refine F.ok scKp (λvs H Q E h=>?_) (λcdv A outer s H vs Q E hr h=>?_)
 ·obtain⟨a,xs,aa,z,ad,rfl,_⟩:=h
  rfl
 ·obtain⟨a,xs,aa,z,ad,rfl,hR,zD,m1,m3,zb,zn,t1,t6,nb,go⟩:=h;have hr2:Room 2 _:=hr.mono (by decide);have hr3:Room 3 _:=hr.mono (by decide);have hr5:Room 5 _:=hr.mono (by decide);refine⟨_,jB (xM (jG GB hr2 rfl DB.m DB.F.kp DB.b .nil jR (jA (pv 0) jC))) (jB (jM (i:=1) scKp.nd rfl (Or.inl rfl) (jQ kI (jQ jW (pv 0) jD (λ_ _=>rfl)) jD (λ_ _=>rfl))) (jB (jM (i:=2) scKp.nd rfl (Or.inl rfl) (jG GS hr3 rfl DS.m DS.F.kp DS.b .nil jR (jA (jG GR hr rfl DR.m DR.F.kp DR.b .nil jR (jA (pv 0) jC)) (jA (pv 1) jC)))) (jB (jM (i:=3) scKp.nd rfl (Or.inl rfl) (jG GK hr5 rfl DK.m DK.F.kp DK.b .nil jR (jA (jQ jW (pv 2) (vI qJ jD) (λ_ _=>rfl)) (jA (pv 1) jC)))) (jB (kU (wF (MB (pv 3))) (jE (jP (jV (jA qP (jA (pv 3) jC))))) kC) (jE (jP (jV (jA qP (jA (jG GP hr5 rfl DP.m DP.F.kp DP.b .nil jR (jA (pv 2) (jA (pv 1) (jA (qB (v:=.ref na) (by rfl) hN rfl) jC)))) jC))))))))), ?_⟩;try dsimp only[cxK]
  have lx:xs.length=ad.length:=Paired.length hR.pr;refine⟨_,rfl,a,xs,aa,z,ad,rfl,hR,zD,by omega,zn,λH1 s1=>?_⟩;obtain⟨ts0,ht0,p0,e0,hP⟩:=Paired.at hR.pr (gG (show 0<xs.length by omega));have hx0:xs[0]? = some (.ref p0):=by rw[gG (show 0<xs.length by omega),e0]
  obtain⟨q0,o0,x0,g1,g2,_⟩:=hP.ex;refine⟨_,rfl,a,_,_,_,rfl,rfl,SqL.of (s1 _ _ hR.at'),yS (j:=0) hx0,p0,_,_,_,rfl,rfl,SqT.of (s1 _ _ g1),rfl, ?_⟩;refine⟨_,rfl,a,xs,aa,z,ad,rfl,hR.same s1,zD,m1,by omega,zb,zn,by omega,λp2 y2 H2 n2 s2 r2=>?_⟩;have sb:=RG nb;refine⟨_,rfl,p2,aa,ad.length+1,y2,_,rfl,r2,sb,m3,by omega,by unfold jU;rw[mY,mM];omega,λp3 H3 n3 s3 st3=>?_⟩;obtain⟨fs,f1,f2,f3⟩:=st3.ex;obtain⟨pa,x4,h4,r4⟩:=f3 aa uV ;have last:=FS f2 h4;have sm:=xL sb aa;have smb:∀r∈kD aa (jU aa ad) aa,∀i∈r,i.natAbs<=2^3407:=λr hr' i hi=>nY (sm.bit r hr' i hi) (gU (by decide) (TX m3));have s03:=s1.trans (s2.trans s3);refine⟨_,rfl,_,rfl,p3,_,_,_,rfl,rfl,SqL.of f1,last,_,rfl,pa,aa,ad.length,x4,_,rfl,r4,sm.len,by omega,by omega,smb,λhn H4 s4=>?_,λr hr' hb q us H4 nq s4 e4 pr4=>?_⟩
  ·refine⟨_,rfl,_,rfl,vF (by rfl) ?_⟩;have kb:uS aa ad=true:=by
    unfold uS;cases e:(kD aa (jU aa ad) aa).any (brk aa)with
    | false=>rfl
    | true=>
     obtain⟨r,hr1,hr2⟩:=List.any_eq_true.mp e;rw[hn r hr1]at hr2;cases hr2
   obtain⟨B,bits⟩:=AJ (AR aa ad) (by omega) sb (IF kb);refine⟨_,rfl,_,rfl,p3,.ref na,aa,kD aa (jU aa ad),0,1,rfl,st3.same s4,yW (hna _),m3,B,bits,by decide,mE,Ov.zero 1 _,λp5 y5 H5 n5 s5 e5 pr5 sz5=>?_⟩;refine⟨uY,λp6 H6 n6 s6 e6=>?_⟩;have sl:=qU aa (kD aa (jU aa ad)) 0 aa;refine go p6 H6 ((s03.trans (s4.trans s5)).free n6) (s03.trans (s4.trans (s5.trans s6))) ?_;rw[kb];exact .kept e6 ⟨⟨y5,s6 _ _ e5,Paired.to (λ_ _ h=>h.same s6) pr5⟩,by rw[mQ];omega,sz5⟩ (XF kb)
  ·have kb:uS aa ad=false:=by
    unfold uS;rw[List.any_eq_true.mpr ⟨r,hr',hb⟩]
    rfl
   refine⟨_,rfl,_,rfl,vS (by rfl) ⟨_,rfl,uY,λp6 H6 n6 s6 e6=>?_⟩⟩;have ws:=WS hr' hb;have ml:=sm.len r hr';have lone:r.getD (aa+1) 0<0:=by
    unfold brk at hb;rw[Bool.and_eq_true]at hb;exact mL hb.2
   have sz:=QG (m:=aa) (n:=ad.length) (r:=r) (b:=-(r.getD (aa+1) 0)) (by omega) (by rw[nK];exact smb r hr' _ (vA (by omega))) (smb r hr');refine go p6 H6 ((s03.trans s4).free n6) (s03.trans (s4.trans s6)) ?_;rw[kb];exact .none e6 (s03.free nq) ⟨⟨us,s6 _ _ e4,Paired.to (λ_ _ h=>h.same s6) pr4⟩,JB ..,λw hw=>⟨ws.2.2 w hw,sz w hw⟩⟩ ws.1 ws.2.1
def ovW(aa:Nat)(ad:List (List Trm))(N:List Rat):Nat:=if CJ aa ad N=0 then 0 else if CJ aa ad N=1∨(wS aa ad N).num<0 then 1 else 2
inductive OvrK(K:tX)(H0 H:Hp)(aa:Nat)(ad:List (List Trm))(N:List Rat)(p:Addr):Nat->Prop where
 | none {q:Addr} {ws:List Rat} (e:H p=some (.tup [.str "none",.ref q])) (nq:H0 q=none) (w:WtsP K H q ad.length ws) (c0:∀j,j<aa->vU aa ad ws j=0) (c1:vU aa ad ws aa = -1):OvrK K H0 H aa ad N p 0
 | below {q:Addr} {ks:List Rat} (e:H p=some (.tup [.str "below",.ref q])) (sp:SptP K H q aa ks) (k1:∀ts∈ad,0<=lnV (jN aa ts) ks) (k2:lnV N ks<0):OvrK K H0 H aa ad N p 1
 | so {n r:Addr} {ws:List Rat} (e:H p=some (.tup [.str "so",.ref n,.ref r])) (nr:H0 r=none) (nn:At2 H n (wS aa ad N).num (wS aa ad N).den) (ns:SzR 3410 (wS aa ad N)) (n0:0<=(wS aa ad N).num) (w:WtsP K H r ad.length ws) (c0:∀j,j<aa->vU aa ad ws j=N.getD j 0) (c1:wS aa ad N+vU aa ad ws aa=N.getD aa 0):OvrK K H0 H aa ad N p 2
def QV(K:tX):Sp:=λvs H Q _=>∃(p a:Addr) (xs:List V) (aa:Nat) (z1 z:Sz) (ts1:List Trm) (ad:List (List Trm)),vs=[.ref p,.ref a]/\Poly H p aa z1 ts1/\RimsP H a xs aa z ad/\z1.D<=1/\z.D<=1/\1<=aa/\aa<=3/\z1.v+z1.S<=2200/\z.v+z.S<=2200/\z1.n<=1000/\z.n<=1000/\ad.length<=6/\NumsB aa ts1 650/\(∀ts∈ad,NumsB aa ts 200)/\
 ∀(r:Addr) (H':Hp),H r=none->Same H H'->OvrK K H H' aa ad (jN aa ts1) r (ovW aa ad (jN aa ts1))->Q (.ref r) H'
theorem scOv:FnScope ["one","rims","told","word","number","spot","weights"] ["one","rims"] (jL HF):=⟨rfl,rfl,rfl,by decide +kernel,rfl,by decide +kernel,by decide +kernel⟩
theorem WG{fL:Addr}{fdL:FuncData}(F:Fun K "over" "over" HF f fd)(DL:Df K mg "low_end" xW ["one","rims"] fL fdL)(GL:FnOk P w K mg base CX0 7 fL fdL ["one","rims"] (yY K)):FnOk P w K mg base CX0 8 f fd ["one","rims"] (QV K):=by
 refine F.ok scOv (λvs H Q E h=>?_) (λcdv A outer s H vs Q E hr h=>?_)
 ·obtain⟨p,a,xs,aa,z1,z,ts1,ad,rfl,_⟩:=h
  rfl
 ·obtain⟨p,a,xs,aa,z1,z,ts1,ad,rfl,hP,hR,z1D,zD,m1,m3,zb1,zb,zn1,zn,t6,nb1,nb2,go⟩:=h;refine⟨_,jB (jM (i:=2) scOv.nd rfl (Or.inl rfl) (jG GL hr rfl DL.m DL.F.kp DL.b .nil jR (jA (pv 0) (jA (pv 1) jC)))) (jB (kU (jT xX (jQ kI (pv 2) jD (λ_ _=>rfl)) qP (jY _)) (jE (jP (pv 2))) kC) (jB (kU (jT xX (jQ kI (pv 2) jD (λ_ _=>rfl)) qP (jY _)) (jE (jP (jV (jA qP (jA (jQ kI (pv 2) jD (λ_ _=>rfl)) jC))))) kC) (jB (qL (pv 2) (qW rfl (jO (jI (i:=3) scOv.nd rfl (Or.inl rfl)) (jO (jI (i:=4) scOv.nd rfl (Or.inl rfl)) (jO (jI (i:=5) scOv.nd rfl (Or.inl rfl)) (jO (jI (i:=6) scOv.nd rfl (Or.inl rfl)) kS)))))) (jB (kU (jT zX (jQ kI (pv 4) jD (λ_ _=>rfl)) jD (jY _)) (jE (jP (jV (jA qP (jA (pv 5) jC))))) kC) (jE (jP (jV (jA qP (jA (pv 4) (jA (pv 6) jC)))))))))), ?_⟩;try dsimp only[cxK]
  refine⟨_,rfl,_,rfl,p,a,xs,aa,z1,z,ts1,ad,rfl,hP,hR,z1D,zD,m1,m3,zb1,zb,zn1,zn,t6,nb1,nb2,λr H1 n1 s1 lk=>?_⟩;generalize hN:jN aa ts1=N at lk go;generalize hW:CJ aa ad N=wd at lk;cases lk with
  | @none q ws e nq w c0 c1=>
   have ow:ovW aa ad N=0:=by unfold ovW;rw[tW hW]
   rw[ow]at go;refine rvT rfl (SqT.of e) rfl ⟨rfl,_,rfl,vS (by decide) ⟨_,rfl, ?_⟩⟩;exact go r H1 n1 s1 (.none e nq w c0 c1)
  | @falls q q2 ks hs e sp wy k1 k2 h1 h2=>
   have ow:ovW aa ad N=1:=by unfold ovW;rw[hW,tV (by decide),tW (.inl rfl)]
   rw[ow]at go;refine rvT rfl (SqT.of e) rfl ⟨rfl,_,rfl,vF (by decide) ?_⟩;refine rvT rfl (SqT.of e) rfl ⟨rfl,_,rfl,vS (by decide) ?_⟩;refine rvT rfl (SqT.of e) rfl ⟨uY,λp2 H2 n2 s2 e2=>?_⟩;exact go p2 H2 (s1.free n2) (s1.trans s2) (.below e2 (sp.kp (Kp.of s2)) k1 k2)
  | @least n q r2 ks ws e nr nn ns sp w k1 k2 c0 c1=>
   refine rvT rfl (SqT.of e) rfl ⟨rfl,_,rfl,vF (by decide) ?_⟩;refine rvT rfl (SqT.of e) rfl ⟨rfl,_,rfl,vF (by decide) ?_⟩;refine⟨_,rfl,r,_,rfl,SqT.of e,rfl,_,_,rfl,_,_,rfl,_,_,rfl,_,_,rfl,rfl, ?_⟩;refine rvT rfl (SqT.of nn) rfl ⟨_,_,rfl,rfl,_,rfl, ?_⟩;by_cases c:(wS aa ad N).num<0
   ·have ow:ovW aa ad N=1:=by unfold ovW;rw[hW,tV (by decide),tW (.inr c)]
    rw[ow]at go;refine vS (nG c) ⟨_,rfl,uY,λp2 H2 n2 s2 e2=>?_⟩;refine go p2 H2 (s1.free n2) (s1.trans s2) (.below e2 (sp.kp (Kp.of s2)) k1 ?_);rw[k2];exact mL (by rw[<-MF];exact nG c)
   ·have ow:ovW aa ad N=2:=by unfold ovW;rw[hW,tV (by decide),tV (λz=>by rcases z with z | z;exact absurd z (by decide);exact c z)]
    rw[ow]at go;refine vF (nA c) ⟨_,rfl,_,rfl,uZ,λp2 H2 n2 s2 e2=>?_⟩;exact go p2 H2 (s1.free n2) (s1.trans s2) (.so e2 nr (s2 _ _ nn) ns (by omega) (w.same s2) c0 c1)
theorem scRe:FnScope ["one","rims"] ["one","rims"] (jL BH):=⟨rfl,rfl,rfl,by decide +kernel,rfl,by decide +kernel,by decide +kernel⟩
theorem SE{fL:Addr}{fdL:FuncData}(F:Fun K "reach" "reach" BH f fd)(DL:Df K mg "low_end" xW ["one","rims"] fL fdL)(GL:FnOk P w K mg base CX0 7 fL fdL ["one","rims"] (yY K)):FnOk P w K mg base CX0 8 f fd ["one","rims"] (yY K):=by
 refine F.ok scRe (λvs H Q E h=>?_) (λcdv A outer s H vs Q E hr h=>?_)
 ·obtain⟨p,a,xs,aa,z1,z,ts1,ad,rfl,_⟩:=h
  rfl
 ·have h0:=h;obtain⟨p,a,xs,aa,z1,z,ts1,ad,rfl,_⟩:=h0;exact⟨_,jE (jP (jG GL hr rfl DL.m DL.F.kp DL.b .nil jR (jA (pv 0) (jA (pv 1) jC)))),_,rfl,_,rfl,h⟩
end Lw
namespace Lw
open PySem PySem.Spec PyProof.Rows L2 LwQ LwV
variable{P:Program}{w:World}{K:tX}{mg:Str->Option Value}{base:Heap}{f fd:_}
theorem ZF:FnScope ["self","text"] ["self","text"] (jL zC):=⟨rfl,rfl,rfl,by decide +kernel,rfl,by decide +kernel,by decide +kernel⟩
theorem WL{oc dV kV doc pm cdv ct:Value}{od an:Option Addr}{osl:Array (Option Value)}(lk:K.lookup f=some ⟨oc,od,.func (PySem.W.fnOf "__init__" "LowwaterError.__init__" (vQ zC) (vG zC) (jL zC) dV kV doc pm an cdv ct),osl⟩)
  (hcd:PySem.W.codeIn K cdv "LowwaterError.__init__" = true) (T:Txt mg):FnOk P w K mg base CX0 1 f (PySem.W.fnOf "__init__" "LowwaterError.__init__" (vQ zC) (vG zC) (jL zC) dV kV doc pm an cdv ct) ["self","text"] (LwE.spInit K):=by
 refine uU lk hcd ZF (λvs H Q E h=>?_) (λA outer s H vs Q E hr h=>?_)
 ·obtain⟨e,C,fI,bl,nid,v,rfl,_⟩:=h
  rfl
 ·obtain⟨e,C,fI,bl,nid,v,rfl,he,c,q⟩:=h;refine⟨_,(jE (xM (LwE.pe_baseInit (pl:=_) (jA (pv 0) (jA (pv 1) jC)) (hm:=T.verr)))).nox, ?_⟩;exact⟨_,rfl,_,rfl,e,C,fI,bl,nid,v,rfl,he,c,q⟩
theorem KO{dV kV doc pm cdv ct:Value}{an:Option Addr}{T:Addr}{oc:Value}{od:Option Addr}{its:Array Value}{n:Nat}{sl:Array (Option Value)}(hd:dV=.ref T)(lk:K.lookup T=some ⟨oc,od,.seq its n,sl⟩)(hn:its.size=1) :
  L2.Binds K (PySem.W.fnOf "__init__" "LowwaterError.__init__" (vQ zC) (vG zC) (jL zC) dV kV doc pm an cdv ct) ["self","text"] []:=by
 intro s us KI hl
 match us,hl with
 | [a,b],_=>
  subst hd;obtain⟨l⟩:=its
  match l,hn with
  | [d],_=>exact PySem.W.binds_K KI rfl lk rfl rfl rfl
structure Cls8(K:tX)(mg:Str->Option Value)(fI C D c1 c2 c3 c4 c5 c6 c7:Addr)(bl bd:List Value):Prop where
 q:LwE.XCls K C fI bl "ValueError.__new__"
 d:LwE.XCls K D fI bd "ValueError.__new__"
 up:bl.contains (.ref D)=true
 ve:PySem.W.kitOne K (.ref C) (.type "ValueError")=some true
 no:PySem.W.kitAny K (.ref C) [.ref c1,.ref c2,.ref c3,.ref c4,.ref c5,.ref c6,.ref c7]=some false
 mq:mg "NotStraight" = some (.ref C)
 md:mg "LowwaterError" = some (.ref D)
 m1:mg "NoLine" = some (.ref c1)
 m2:mg "NoQuotient" = some (.ref c2)
 m3:mg "NoRow" = some (.ref c3)
 m4:mg "NoText" = some (.ref c4)
 m5:mg "NotSecond" = some (.ref c5)
 m6:mg "TooGreat" = some (.ref c6)
 m7:mg "TooMany" = some (.ref c7)
open LwF
def Bent(ts:List Trm):Prop:=∃x∈ts,1<x.ns.sum
def BE(C:Addr):Sp:=λvs H _ E=>∃(a:Addr) (xs:List V) (aa:Nat) (z:Sz) (ad:List (List Trm)),vs=[.ref a]/\RimsP H a xs aa z ad/\aa<=4/\z.n<=1000/\z.D<=1000/\(∃ts∈ad,Bent ts)/\∀H',Same H H'->E (.ref C) none H'
inductive RxI(H:Hp)(a:Addr)(ad:List (List Trm))(i:Nat):L2.St->Hp->Prop where
 | mk {H':Hp} {u:Option V} (s:Same H H') (q:∀ts∈ad.take i,¬Bent ts):RxI H a ad i [some (.ref a),u] H'
theorem XT{m:Int}(h0:0<=m)(h1:m<=1000):m.natAbs.log2<1920:=by
 by_cases z:m.natAbs=0
 ·rw[z];decide
 ·exact(Nat.log2_lt z).mpr (mB (show m.natAbs<2^10 by omega) (gU (by decide) (by decide)))
theorem BU{a:Int}(h:a.natAbs<10^4):(toString a).length<=10:=by
 have:=int_text_length_le10 (k:=4) (by decide) h;omega
theorem WF{fD C fI:Addr}{fdD fdI:FuncData}{bl:List Value}(F:Fun K "refuse_bent" "refuse_bent" uM f fd)(DD:Df K mg "degree" wO ["one"] fD fdD)(GD:FnOk P w K mg base CX0 1 fD fdD ["one"] spDeg)(c:LwE.XCls K C fI bl "ValueError.__new__")(G:FnOk P w K mg base CX0 1 fI fdI ["self","text"] (LwE.spInit K))(b:L2.Binds K fdI ["self","text"] [])(hm:mg "NotStraight" = some (.ref C)) :
  FnOk P w K mg base (LwE.CXF P w) 3 f fd ["some"] (BE C):=by
 obtain⟨oc,od,kV,doc,pm,an,cdv,ct,osl,rfl,lk,hcd⟩:=F.ex;refine uU lk hcd scRb (λvs H Q E h=>?_) (λA outer s H vs Q E hr h=>?_)
 ·obtain⟨a,xs,aa,z,ad,rfl,_⟩:=h
  rfl
 ·obtain⟨a,xs,aa,z,ad,rfl,hR,m4,zn,zD,hb,go⟩:=h;have hr1:Room 1 _:=hr.mono (by decide);refine⟨_,jE (qZ PassesOwn.leaving rfl (kX (pv 0)) (jI (i:=1) scRb.nd rfl (Or.inl rfl)) (jE (kU (jT uP (jG GD hr1 rfl DD.m DD.F.kp DD.b .nil jR (jA (pv 1) jC)) jD (jY _)) (jE (LwE.ps_raise c G b hr rfl hm (pe_f2 (by decide) (jG GD hr1 rfl DD.m DD.F.kp DD.b .nil jR (jA (pv 1) jC))))) kC))), ?_⟩;try dsimp only[cxK]
  refine⟨_,rfl,a,rfl,⟨_,SqL.of hR.at'⟩,vP (K:=K) (a:=a) (xs:=xs) (RxI H a ad) (.mk (Same.refl _) (λts h=>nomatch h)) (λi σ H1 _ h=>?_) (λi x σ H1 hx h=>?_) (fun σ H1 h=>?_)⟩
  ·obtain⟨s1,_⟩:=h;exact SqL.of (s1 _ _ hR.at')
  ·obtain⟨s1,q1⟩:=h;obtain⟨ts,hts,p,rfl,hP⟩:=Paired.at hR.pr hx;refine⟨_,rfl,p,aa,z,ts,rfl,hP.kp (Kp.of s1),m4,zn,zD,λm H2 s2 hm h0 hs=>⟨_,_,rfl,rfl,_,rfl, ?_⟩⟩;refine AG (λ_=>?_) (λc=>?_)
   ·refine⟨_,rfl,p,aa,z,ts,rfl,hP.kp (Kp.of (s1.trans s2)),m4,zn,zD,λm2 H3 s3 hm2 h2 _=>⟨m2,rfl,XT h2 (by omega),by decide, ?_,_,rfl,go H3 (s1.trans (s2.trans s3))⟩⟩;rw[Str.length_append];have:=BU (a:=m2) (by omega);show 16+(Str.ofString (toString m2)).length<=_;rw[PySem.ofString_length,sizeLine_eq];omega
   ·refine .mk (s1.trans s2) λt ht=>?_;rw[mJ,hts]at ht;rcases nB.mp ht with ht | ht
    ·exact q1 t ht
    ·have:t=ts:=by simpa using ht
     rintro⟨y,hy,hy1⟩;subst this;have:=hs y hy;exact c (nG (by omega))
  ·obtain⟨s1,q1⟩:=h;obtain⟨ts,ht,hB⟩:=hb;rw[Paired.length hR.pr,mS]at q1;exact absurd hB (q1 ts ht)
def wC(C:Addr):Sp:=λvs H _ E=>∃(p a:Addr) (xs:List V) (aa:Nat) (z1 z:Sz) (ts1:List Trm) (ad:List (List Trm)),vs=[.ref p,.ref a]/\Poly H p aa z1 ts1/\RimsP H a xs aa z ad/\aa<=4/\z1.n<=1000/\z.n<=1000/\z1.D<=1000/\z.D<=1000/\ad.length<=10/\(Bent ts1∨∃ts∈ad,Bent ts)/\∀H',Same H H'->E (.ref C) none H'
theorem WI{fB C:Addr}{fdB:FuncData}(F:Fun K "low_end" "low_end" xW f fd)(DB:Df K mg "refuse_bent" uM ["some"] fB fdB)(GB:FnOk P w K mg base (LwE.CXF P w) 3 fB fdB ["some"] (BE C)):FnOk P w K mg base (LwE.CXF P w) 4 f fd ["one","rims"] (wC C):=by
 obtain⟨oc,od,kV,doc,pm,an,cdv,ct,osl,rfl,lk,hcd⟩:=F.ex;refine uU lk hcd scLe (λvs H Q E h=>?_) (λA outer s H vs Q E hr h=>?_)
 ·obtain⟨p,a,xs,aa,z1,z,ts1,ad,rfl,_⟩:=h
  rfl
 ·obtain⟨p,a,xs,aa,z1,z,ts1,ad,rfl,hP,hR,m4,n1,n2,d1,d2,l6,hb,go⟩:=h;refine⟨_,jB (xM (jG GB hr rfl DB.m DB.F.kp DB.b .nil LwE.pass_fly (jA (jK qY (kM (jA (pv 0) jC)) (pv 1)) jC))) zR, ?_⟩;try dsimp only[cxK]
  have lx:xs.length=ad.length:=Paired.length hR.pr;refine⟨_,rfl,uX,λl1 H1 n1' s1 e1=>⟨_,rfl,l1,a,_,_,rfl,rfl,e1,s1 _ _ hR.at',by rw[gR,lx,sizeLine_eq];omega,λl2 H2 n2' s2 e2=>?_⟩⟩;have s02:=s1.trans s2;refine⟨l2,_,aa,⟨1000,z1.v+z.v,z1.S+z.S,1000⟩,ts1::ad,rfl,⟨e2,.cons ⟨p,rfl,(hP.kp (Kp.of s02)).up d1 (Nat.le_add_right ..) (Nat.le_add_right ..) n1⟩ (Paired.to (λ_ _ ⟨q,e,h⟩=>⟨q,e,(h.kp (Kp.of s02)).up d2 (Nat.le_add_left ..) (Nat.le_add_left ..) n2⟩) hR.pr)⟩,m4,tL _,tL _, ?_,λH3 s3=>go H3 (s02.trans s3)⟩;rcases hb with hb | ⟨ts,ht,hb⟩
  ·exact⟨ts1,mF ..,hb⟩
  ·exact⟨ts,gT _ ht,hb⟩
theorem SJ{fB C:Addr}{fdB:FuncData}(F:Fun K "kept" "kept" HG f fd)(DB:Df K mg "refuse_bent" uM ["some"] fB fdB)(GB:FnOk P w K mg base (LwE.CXF P w) 3 fB fdB ["some"] (BE C)):FnOk P w K mg base (LwE.CXF P w) 4 f fd ["rims"] (BE C):=by
 obtain⟨oc,od,kV,doc,pm,an,cdv,ct,osl,rfl,lk,hcd⟩:=F.ex;refine uU lk hcd scKp (λvs H Q E h=>?_) (λA outer s H vs Q E hr h=>?_)
 ·obtain⟨a,xs,aa,z,ad,rfl,_⟩:=h
  rfl
 ·have h0:=h;obtain⟨a,xs,aa,z,ad,rfl,_⟩:=h0;exact⟨_,jB (xM (jG GB hr rfl DB.m DB.F.kp DB.b .nil LwE.pass_fly (jA (pv 0) jC))) zR,_,rfl,h⟩
theorem SF{fL C:Addr}{fdL:FuncData}(F:Fun K "over" "over" HF f fd)(DL:Df K mg "low_end" xW ["one","rims"] fL fdL)(GL:FnOk P w K mg base (LwE.CXF P w) 4 fL fdL ["one","rims"] (wC C)):FnOk P w K mg base (LwE.CXF P w) 5 f fd ["one","rims"] (wC C):=by
 obtain⟨oc,od,kV,doc,pm,an,cdv,ct,osl,rfl,lk,hcd⟩:=F.ex;refine uU lk hcd scOv (λvs H Q E h=>?_) (λA outer s H vs Q E hr h=>?_)
 ·obtain⟨p,a,xs,aa,z1,z,ts1,ad,rfl,_⟩:=h
  rfl
 ·have h0:=h;obtain⟨p,a,xs,aa,z1,z,ts1,ad,rfl,_⟩:=h0;exact⟨_,jB (jM (i:=2) scOv.nd rfl (Or.inl rfl) (jG GL hr rfl DL.m DL.F.kp DL.b .nil LwE.pass_fly (jA (pv 0) (jA (pv 1) jC)))) zR,_,rfl,_,rfl,h⟩
theorem OR{fL C:Addr}{fdL:FuncData}(F:Fun K "reach" "reach" BH f fd)(DL:Df K mg "low_end" xW ["one","rims"] fL fdL)(GL:FnOk P w K mg base (LwE.CXF P w) 4 fL fdL ["one","rims"] (wC C)):FnOk P w K mg base (LwE.CXF P w) 5 f fd ["one","rims"] (wC C):=by
 obtain⟨oc,od,kV,doc,pm,an,cdv,ct,osl,rfl,lk,hcd⟩:=F.ex;refine uU lk hcd scRe (λvs H Q E h=>?_) (λA outer s H vs Q E hr h=>?_)
 ·obtain⟨p,a,xs,aa,z1,z,ts1,ad,rfl,_⟩:=h
  rfl
 ·have h0:=h;obtain⟨p,a,xs,aa,z1,z,ts1,ad,rfl,_⟩:=h0;exact⟨_,jE (jP (jG GL hr rfl DL.m DL.F.kp DL.b .nil LwE.pass_fly (jA (pv 0) (jA (pv 1) jC)))),_,rfl,_,rfl,h⟩
def wdL:Nat->List Str
 | 0=>["kept","none"]
 | 1=>["so","below","none"]
 | _=>["least","falls","none"]
def Wd(H:Hp)(p:Addr)(way:Nat):Prop:=∃(wd:Str) (r:List V),H p=some (.tup (.str wd::r))/\(wdL way).any (λy=>y==wd)=true
theorem KepK.word{K:tX}{H0 H:Hp}{aa:Nat}{ad:List (List Trm)}{p:Addr}{b:Bool}(h:KepK K H0 H aa ad p b):Wd H p 0:=by
 cases h with
 | kept e=>exact⟨_,_,e,by decide⟩
 | none e=>exact⟨_,_,e,by decide⟩
theorem OvrK.word{K:tX}{H0 H:Hp}{aa:Nat}{ad:List (List Trm)}{N:List Rat}{p:Addr}{wd:Nat}(h:OvrK K H0 H aa ad N p wd):Wd H p 1:=by
 cases h with
 | none e=>exact⟨_,_,e,by decide⟩
 | below e=>exact⟨_,_,e,by decide⟩
 | so e=>exact⟨_,_,e,by decide⟩
theorem LowK.word{K:tX}{H0 H:Hp}{aa:Nat}{ad:List (List Trm)}{N:List Rat}{p:Addr}{wd:Nat}(h:LowK K H0 H aa ad N p wd):Wd H p 2:=by
 cases h with
 | none e=>exact⟨_,_,e,by decide⟩
 | falls e=>exact⟨_,_,e,by decide⟩
 | least e=>exact⟨_,_,e,by decide⟩
structure Asked(H:Hp)(p a:Addr)(xs:List V)(aa:Nat)(z1 z:Sz)(ts1:List Trm)(ad:List (List Trm)):Prop where
 P:Poly H p aa z1 ts1
 R:RimsP H a xs aa z ad
 m1:1<=aa
 m3:aa<=3
 v1:z1.v+z1.S<=2200
 v:z.v+z.S<=2200
 n1:z1.n<=1000
 n:z.n<=1000
 d1:z1.D<=1000
 d:z.D<=1000
 t1:1<=ad.length
 t6:ad.length<=6
def Str8(way aa:Nat)(z1 z:Sz)(ts1:List Trm)(ad:List (List Trm)):Prop:=z.D<=1/\(∀ts∈ad,NumsB aa ts 200)/\(way=0∨(z1.D<=1/\NumsB aa ts1 650))
def Bnt8(way:Nat)(ts1:List Trm)(ad:List (List Trm)):Prop:=(∃ts∈ad,Bent ts)∨(way≠0/\Bent ts1)
def HD(C:Addr):Sp:=λvs H Q E=>∃(way:Nat) (p a:Addr) (xs:List V) (aa:Nat) (z1 z:Sz) (ts1:List Trm) (ad:List (List Trm)),vs=[.int way,.ref p,.ref a]/\way<=2/\Asked H p a xs aa z1 z ts1 ad/\
 ((Str8 way aa z1 z ts1 ad/\∀(r:Addr) (H':Hp),Same H H'->Wd H' r way->Q (.ref r) H')∨(Bnt8 way ts1 ad/\∀H',Same H H'->E (.ref C) none H'))
theorem scCal:FnScope ["way","one","rims"] ["way","one","rims"] (jL AQ):=⟨rfl,rfl,rfl,by decide +kernel,rfl,by decide +kernel,by decide +kernel⟩
theorem OW{fK fO fR C:Addr}{fdK fdO fdR:FuncData}(F:Fun K "_law_called" "_law_called" AQ f fd)(DK:Df K mg "kept" HG ["rims"] fK fdK)(K0:FnOk P w K mg base CX0 7 fK fdK ["rims"] (QW K))(KX:FnOk P w K mg base (LwE.CXF P w) 4 fK fdK ["rims"] (BE C))(DO:Df K mg "over" HF ["one","rims"] fO fdO)(O0:FnOk P w K mg base CX0 8 fO fdO ["one","rims"] (QV K))(OX:FnOk P w K mg base (LwE.CXF P w) 5 fO fdO ["one","rims"] (wC C))
  (DR:Df K mg "reach" BH ["one","rims"] fR fdR) (R0:FnOk P w K mg base CX0 8 fR fdR ["one","rims"] (yY K)) (RX:FnOk P w K mg base (LwE.CXF P w) 5 fR fdR ["one","rims"] (wC C)):FnOk P w K mg base (LwE.CXF P w) 9 f fd ["way","one","rims"] (HD C):=by
 have GK:=FnOk.both K0 KX (n:=7) (by decide) (by decide);have GO:=FnOk.both O0 OX (n:=8) (by decide) (by decide);have GR:=FnOk.both R0 RX (n:=8) (by decide) (by decide);obtain⟨oc,od,kV,doc,pm,an,cdv,ct,osl,rfl,lk,hcd⟩:=F.ex;refine uU lk hcd scCal (λvs H Q E h=>?_) (λA outer s H vs Q E hr h=>?_)
 ·obtain⟨way,p,a,xs,aa,z1,z,ts1,ad,rfl,_⟩:=h
  rfl
 ·obtain⟨way,p,a,xs,aa,z1,z,ts1,ad,rfl,hw,hA,go⟩:=h;have hr7:Room 7 _:=hr.mono (by decide);refine⟨_,jB (kU (jT xX (pv 0) jD (jY _)) (jE (jP (jG GK hr7 rfl DK.m DK.F.kp DK.b .nil LwE.pass_fly (jA (pv 2) jC)))) kC) (jE (jP (RY (jQ jW (kM (jA (qB (v:=.ref fO) rfl DO.m rfl) (jA (qB (v:=.ref fR) rfl DR.m rfl) jC))) (jK zH (pv 0) jD) (λ_ _=>rfl)) GO GR hr hr DO.F.kp DR.F.kp DO.b DR.b LwE.pass_fly LwE.pass_fly (jA (pv 1) (jA (pv 2) jC))))), ?_⟩;try dsimp only[cxK]
  have m4:aa<=4:=by have:=hA.m3;omega
  have t10:ad.length<=10:=by have:=hA.t6;omega
  obtain rfl | rfl | rfl:way=0∨way=1∨way=2:=by omega
  ·refine⟨_,rfl,rfl,_,rfl,vS (by rfl) ⟨_,rfl, ?_⟩⟩;rcases go with⟨hs,go⟩ | ⟨hb,go⟩
   ·exact .inl ⟨a,xs,aa,z,ad,rfl,hA.R,hs.1,hA.m1,hA.m3,hA.v,hA.n,hA.t1,hA.t6,hs.2.1,λr H' _ s' k=>go r H' s' k.word⟩
   ·rcases hb with hb | hb
    ·exact .inr ⟨a,xs,aa,z,ad,rfl,hA.R,m4,hA.n,hA.d,hb,go⟩
    ·exact absurd rfl hb.1
  ·refine⟨_,rfl,rfl,_,rfl,vF (by rfl) ⟨uY,λl H1 n1 s1 e1=>⟨_,rfl,_,_,rfl,rfl,l,_,_,_,rfl,rfl,SqL.of e1,rfl,.inl ⟨rfl,_,rfl,_,rfl, ?_⟩⟩⟩⟩;have hP:=hA.P.kp (Kp.of s1);have hR:=hA.R.same s1;rcases go with⟨⟨h1,h2,h3⟩,go⟩ | ⟨hb,go⟩
   ·rcases h3 with z | ⟨h3,h4⟩
    ·cases z
    exact .inl ⟨p,a,xs,aa,z1,z,ts1,ad,rfl,hP,hR,h3,h1,hA.m1,hA.m3,hA.v1,hA.v,hA.n1,hA.n,hA.t6,h4,h2,λr H' _ s' k=>go r H' (s1.trans s') k.word⟩
   ·exact .inr ⟨p,a,xs,aa,z1,z,ts1,ad,rfl,hP,hR,m4,hA.n1,hA.n,hA.d1,hA.d,t10,hb.elim .inr (λh=>.inl h.2),λH' s'=>go H' (s1.trans s')⟩
  ·refine⟨_,rfl,rfl,_,rfl,vF (by rfl) ⟨uY,λl H1 n1 s1 e1=>⟨_,rfl,_,_,rfl,rfl,l,_,_,_,rfl,rfl,SqL.of e1,rfl,.inr ⟨rfl,_,rfl,_,rfl, ?_⟩⟩⟩⟩;have hP:=hA.P.kp (Kp.of s1);have hR:=hA.R.same s1;rcases go with⟨⟨h1,h2,h3⟩,go⟩ | ⟨hb,go⟩
   ·rcases h3 with z | ⟨h3,h4⟩
    ·cases z
    exact .inl ⟨p,a,xs,aa,z1,z,ts1,ad,rfl,hP,hR,h3,h1,hA.m1,hA.m3,hA.v1,hA.v,hA.n1,hA.n,hA.t6,h4,h2,λr H' _ s' k=>go r H' (s1.trans s') k.word⟩
   ·exact .inr ⟨p,a,xs,aa,z1,z,ts1,ad,rfl,hP,hR,m4,hA.n1,hA.n,hA.d1,hA.d,t10,hb.elim .inr (λh=>.inl h.2),λH' s'=>go H' (s1.trans s')⟩
def spWord:Sp:=λvs H Q _=>∃(way:Nat) (p a:Addr) (xs:List V) (aa:Nat) (z1 z:Sz) (ts1:List Trm) (ad:List (List Trm)),vs=[.int way,.ref p,.ref a]/\way<=2/\Asked H p a xs aa z1 z ts1 ad/\
 ((Str8 way aa z1 z ts1 ad/\∀(wd:Str) (H':Hp),Same H H'->(wdL way).any (λy=>y==wd)=true->Q (.str wd) H')∨(Bnt8 way ts1 ad/\∀H',Same H H'->Q (.str "") H'))
theorem scWord:FnScope ["way","one","rims","caught","told","e"] ["way","one","rims"] (jL LP):=⟨rfl,rfl,rfl,by decide +kernel,rfl,by decide +kernel,by decide +kernel⟩
theorem WB{fA fI C D c1 c2 c3 c4 c5 c6 c7:Addr}{fdA:FuncData}{bl bd:List Value}(F:Fun K "_law_word" "_law_word" LP f fd)(T:Txt mg)(DA:Df K mg "_law_called" AQ ["way","one","rims"] fA fdA)(GA:FnOk P w K mg base (LwE.CXF P w) 9 fA fdA ["way","one","rims"] (HD C))(c:Cls8 K mg fI C D c1 c2 c3 c4 c5 c6 c7 bl bd):FnOk P w K mg base CX0 10 f fd ["way","one","rims"] spWord:=by
 refine F.ok scWord (λvs H Q E h=>?_) (λcdv A outer s H vs Q E hr h=>?_)
 ·obtain⟨way,p,a,xs,aa,z1,z,ts1,ad,rfl,_⟩:=h
  rfl
 ·obtain⟨way,p,a,xs,aa,z1,z,ts1,ad,rfl,hw,hA,go⟩:=h;refine⟨_,jB (jM (i:=3) scWord.nd rfl (Or.inl rfl) FE) (jB (jM (i:=4) scWord.nd rfl (Or.inl rfl) FE)
   (jB (LwE.ps_catch (j:=5) rfl rfl rfl rfl c.d rfl c.md scWord.nd rfl rfl (LwE.pbx_set (i:=4) rfl scWord.nd rfl rfl GA hr rfl DA.m DA.F.kp DA.b (jA (pv 0) (jA (pv 1) (jA (pv 2) jC)))) (λe=>jE (jM (i:=3) scWord.nd rfl (Or.inl rfl) (pv 5))))
   (jB (kU (wF (KA (pv 3))) (jE (jP (jQ kI (pv 4) jD (λ_ _=>rfl)))) kC)
   (jB (kU (JW (qC LwE.call_isXT (by rfl) T.isi boot_isinstance (jA (pv 3) (jA (jV (jA (qB (v:=.ref c1) rfl c.m1 rfl) (jA (qB (v:=.ref c2) rfl c.m2 rfl) (jA (qB (v:=.ref c3) rfl c.m3 rfl) (jA (qB (v:=.ref c4) rfl c.m4 rfl)
    (jA (qB (v:=.ref c5) rfl c.m5 rfl) (jA (qB (v:=.ref c6) rfl c.m6 rfl) (jA (qB (v:=.ref c7) rfl c.m7 rfl) jC)))))))) jC)))) (jE (jP qP)) kC)
   (jE (jP (jQ jW (kM (jA qP (jA qP jC))) (qN EC (by rfl) T.int boot_int (jA (SB (qC LwE.call_isX (by rfl) T.isi boot_isinstance (jA (pv 3) (jA (qB (v:=.ref C) rfl c.mq rfl) jC)))
    (JZ (qC LwE.call_isX (by rfl) T.isi boot_isinstance (jA (pv 3) (jA (VW (v:=.ty "ValueError") rfl T.verr PyProof.Rows.Boot.«ValueError» rfl) jC))))) jC)) (λ_ _=>rfl)))))))), ?_⟩
  try dsimp only[cxK]
  rcases go with⟨hs,go⟩ | ⟨hb,go⟩
  ·refine⟨λ_ _ _=>False,⟨_,rfl,_,rfl,_,rfl,way,p,a,xs,aa,z1,z,ts1,ad,rfl,hw,hA,.inl ⟨hs,λr H' s' ⟨wd,rr,e,k⟩=>?_⟩⟩,λ_ _ h=>h.elim⟩;refine⟨_,rfl,_,rfl,vS (by rfl) ⟨_,rfl,r,_,_,_,rfl,rfl,SqT.of e,yS (j:=0) rfl,go wd H' s' k⟩⟩
  ·refine⟨λx _ H'=>x=.ref C/\Same H H',⟨_,rfl,_,rfl,_,rfl,way,p,a,xs,aa,z1,z,ts1,ad,rfl,hw,hA,.inr ⟨hb,λH' s'=>⟨rfl,s'⟩⟩⟩, ?_⟩;rintro x H' ⟨rfl,s'⟩;refine⟨C,fI,bl,_,rfl,c.q,c.up,λe hn=>?_⟩;have s1:Same H' (upd H' e (LwE.excH e C)):=kF _ hn;have e1:(upd H' e (LwE.excH e C)) e=some (LwE.excH e C):=jF;generalize upd H' e (LwE.excH e C)=H1 at s1 e1;refine⟨_,rfl,_,rfl,_,rfl,vF (by rfl) ?_⟩;refine⟨_,rfl,(by show 7<=sizeLine;decide),λtp H3 n3 s3 e3=>?_⟩;refine⟨e,C,fI,tp,bl,_,_,_,false,rfl,s3 _ _ e1,c.q,e3,.cons rfl (.cons rfl (.cons rfl (.cons rfl (.cons rfl (.cons rfl (.cons rfl .nil)))))),c.no, ?_⟩;refine⟨_,rfl,AF ?_⟩;refine⟨uY,λl H4 n4 s4 e4=>?_⟩;refine⟨_,rfl,e,C,fI,bl,_,_,_,true,rfl,(s3.trans s4) _ _ e1,c.q,rfl,(by unfold PySem.W.kitOne;simp),_,rfl,FP ?_⟩;refine⟨_,rfl,e,C,fI,bl,_,_,_,true,rfl,(s3.trans s4) _ _ e1,c.q,rfl,c.ve,.inr ⟨_,rfl,l,_,_,_,rfl,rfl,SqL.of e4,rfl, ?_⟩⟩;exact go H4 (s'.trans (s1.trans (s3.trans s4)))
def spWR:Sp:=λvs H Q _=>∃(way:Nat) (good:Bool) (wd:Str),vs=[.int way,.bl good,.str wd]/\way<=2/\(if good=true then(wdL way).any (λy=>y==wd)=true else wd="")/\∀H',Same H H'->Q (.bl true) H'
theorem pe_w2{X:Cx}{a b:Str}{k1 k2:Nat}{p1 p2 pos:Pos} :PE X (.List [.Constant (.str a) k1 p1,.Constant (.str b) k2 p2] pos) (CS (qX (tC (.str a)) (qX (tC (.str b)) tNil))):=kM (jA qP (jA qP jC))
theorem pe_w3{X:Cx}{a b c:Str}{k1 k2 k3:Nat}{p1 p2 p3 pos:Pos} :PE X (.List [.Constant (.str a) k1 p1,.Constant (.str b) k2 p2,.Constant (.str c) k3 p3] pos) (CS (qX (tC (.str a)) (qX (tC (.str b)) (qX (tC (.str c)) tNil)))):=kM (jA qP (jA qP (jA qP jC)))
structure Bx(p:Prop):Prop where
 h:p
theorem bx_w2{X:Cx}{a b:Str}{k1 k2:Nat}{p1 p2 pos:Pos} :Bx (PE X (.List [.Constant (.str a) k1 p1,.Constant (.str b) k2 p2] pos) (CS (qX (tC (.str a)) (qX (tC (.str b)) tNil)))):=⟨pe_w2⟩
theorem YU{X:Cx}{a b c:Str}{k1 k2 k3:Nat}{p1 p2 p3 pos:Pos} :Bx (PE X (.List [.Constant (.str a) k1 p1,.Constant (.str b) k2 p2,.Constant (.str c) k3 p3] pos) (CS (qX (tC (.str a)) (qX (tC (.str b)) (qX (tC (.str c)) tNil))))):=⟨pe_w3⟩
theorem UY{X:Cx}{u1 u2 u3:List Expr}{t1 t2 t3:TE}{p1 p2 p3 pos:Pos}(h1:Bx (PE X (.List u1 p1) t1))(h2:Bx (PE X (.List u2 p2) t2))(h3:Bx (PE X (.List u3 p3) t3)):Bx (PE X (.List [.List u1 p1,.List u2 p2,.List u3 p3] pos) (CS (qX t1 (qX t2 (qX t3 tNil))))):=⟨kM (jA h1.h (jA h2.h (jA h3.h jC)))⟩
theorem bx_set{X:Cx}{i:Nat}{x:Str}{es:List Expr}{te:TE}{p pos' pos:Pos}(hN:X.N.Nodup)(hi:X.N[i]? = some x)(hx:Loc X.env.scope x)(he:Bx (PE X (.List es p) te))(hf:X.env.scope.names.lookup x=some .local):Bx (PS X (.Assign [.Name x pos'] (.List es p) pos) (yC te (kR i))):=⟨jM hN hi hx he.h rfl (.inr hf)⟩
theorem XX{X:Cx}{st:Stmt}{rest:List Stmt}{t u:TS}(h1:Bx (PS X st t))(h2:Bx (PSs X rest u)):Bx (PSs X (st::rest) (xD t u)):=⟨jB h1.h h2.h⟩
theorem bx_ex{X:Cx}{l:List Stmt}{R:TS->Prop}(h:∃t,Bx (PSs X l t)/\R t):∃t,PSs X l t/\R t:=by
 obtain⟨t,⟨h⟩,r⟩:=h;exact⟨t,h,r⟩
theorem scWR:FnScope ["way","good","word","words"] ["way","good","word"] (jL AK):=⟨rfl,rfl,rfl,by decide +kernel,rfl,by decide +kernel,by decide +kernel⟩
theorem ok_wr(F:Fun K "_law_word_right" "_law_word_right" AK f fd):FnOk P w K mg base CX0 1 f fd ["way","good","word"] spWR:=by
 refine F.ok scWR (λvs H Q E h=>?_) (λcdv A outer s H vs Q E hr h=>?_)
 ·obtain⟨way,good,wd,rfl,_⟩:=h
  rfl
 ·obtain⟨way,good,wd,rfl,hw,hg,go⟩:=h;refine bx_ex ⟨_,XX (bx_set (i:=3) scWR.nd rfl (Or.inl rfl) (UY bx_w2 YU YU) rfl) ⟨jB (kU (JW (pv 1)) (jE (jP (zS ZW (pv 2) (jQ jW (pv 3) (pv 0) (λ_ _=>rfl)) (by with_unfolding_all rfl)))) kC) (jE (jP (zS xX (pv 2) qP (jY _))))⟩, ?_⟩;try dsimp only[cxK]
  refine⟨uY,λl1 H1 n1 s1 e1=>⟨uZ,λl2 H2 n2 s2 e2=>⟨uZ,λl3 H3 n3 s3 e3=>⟨uZ,λl4 H4 n4 s4 e4=>?_⟩⟩⟩⟩;refine⟨_,rfl,_,rfl, ?_⟩;have s04:=s1.trans (s2.trans (s3.trans s4));cases good with
  | false=>
   refine AF ?_;have hg:wd="":=hg;subst hg;exact⟨_,rfl,rfl,go H4 s04⟩
  | true=>
   have hg:(wdL way).any (λy=>y==wd)=true:=hg;obtain rfl | rfl | rfl:way=0∨way=1∨way=2:=by omega
   ·exact FP ⟨_,rfl,_,rfl,_,rfl,l4,_,_,_,rfl,rfl,SqL.of e4,rfl,l1,wd,wdL 0,rfl,rfl,SqL.of ((s2.trans (s3.trans s4)) _ _ e1),by rw[hg];exact go H4 s04⟩
   ·exact FP ⟨_,rfl,_,rfl,_,rfl,l4,_,_,_,rfl,rfl,SqL.of e4,rfl,l2,wd,wdL 1,rfl,rfl,SqL.of ((s3.trans s4) _ _ e2),by rw[hg];exact go H4 s04⟩
   ·exact FP ⟨_,rfl,_,rfl,_,rfl,l4,_,_,_,rfl,rfl,SqL.of e4,rfl,l3,wd,wdL 2,rfl,rfl,SqL.of (s4 _ _ e3),by rw[hg];exact go H4 s04⟩
theorem at_get{ns:List Int}{i:Int}(h0:0<=i)(h1:i<ns.length):∃c:Int,atI (ns.map V.int) i=some (.int c)/\ns[i.toNat]? = some c:=by
 obtain⟨j,rfl⟩:=gI h0;have hj:j<ns.length:=by omega
 exact⟨ns[j],yS (by simp [hj]),by simp [hj]⟩
theorem LK:∀{ns:List Int} {j:Nat} {c:Int},ns[j]? = some c->(ns.set j (c+1)).sum=ns.sum+1
 | [],j,c,h=>by simp at h
 | n::r,0,c,h=>by
  simp only[List.getElem?_cons_zero,Option.some.injEq]at h;rw[List.set_cons_zero,nU,nU,h];omega
 | n::r,j+1,c,h=>by
  have ih:=LK (ns:=r) (j:=j) (c:=c) (by simpa using h);rw[List.set_cons_succ,nU,nU,ih];omega
theorem pl_mem{E:List Ent}{m:List Int} :m∈(pl E).map (·.1)↔m∈E.map Ent.ns:=by
 unfold pl;rw[tJ];exact Iff.rfl
theorem DB.key{H:Hp}{aa:Nat}{z:Sz}{E:List Ent}(h:DB H aa z E){m:List Int} :cf (pl E) m≠0↔m∈E.map Ent.ns:=by
 refine⟨λn=>pl_mem.mp (cf_in n),λhm=>?_⟩;obtain⟨e,he,rfl⟩:=tD.mp hm;have k:=h.each e he;have c:cf (pl E) e.ns=(e.t:Rat)/(e.b:Rat):=cf_one (by unfold pl;rw[tJ];exact h.nd) (x:=e.pr) (List.mem_map_of_mem he);rw[c];have hb:(e.b:Rat)≠0:=by simpa using (show e.b≠0 by have:=k.pos;omega)
 have ht:(e.t:Rat)≠0:=by simpa using k.nz
 intro z;apply ht
 grind
theorem SV{H:Hp}{aa:Nat}{z y:Sz}{E E':List Ent}{ns:List Int}{c:Rat}(h:DB H aa z E)(h':DB H aa y E')(hc:c≠0)(hn:ns∉E.map Ent.ns)(e:∀m,cf (pl E') m=cf (pl E) m+if ns=m then c else 0):E'.length=E.length+1/\ns∈E'.map Ent.ns:=by
 have n0:cf (pl E) ns=0:=by
  refine gD λz=>hn (h.key.mp z)
 have mem:∀m,m∈E'.map Ent.ns↔m∈ns::E.map Ent.ns:=λm=>by
  rw[<-h'.key,e,nP,<-h.key];by_cases q:ns=m
  ·subst q;rw[tW rfl,n0,tE];exact⟨λ_=>.inl rfl,λ_=>hc⟩
  ·rw[tV q,tF];exact⟨.inr,λo=>o.elim (λo=>absurd o.symm q) id⟩
 have p:=(List.perm_ext_iff_of_nodup h'.nd (List.nodup_cons.mpr ⟨hn,h.nd⟩)).mpr mem;have l:=p.length_eq;rw[mT,mY,mY]at l;exact⟨l,(mem ns).mpr (mF ..)⟩
def spRaised:Sp:=λvs H Q _=>∃(tp d:Addr) (aa:Nat) (B:Int) (E:List Ent),vs=[.ref tp,.int aa,.ref d]/\1<=aa/\aa<=3/\Rd H d (.dT (E.map Ent.kv))/\DB H aa ⟨1,40,56,4⟩ E/\∃cl,Tape cl H tp B/\B<2^31/\
 ∀(d':Addr) (E':List Ent) (H':Hp),H d'=none->But tp H H'->Tape cl H' tp (B+10)->H' d'=some (.dT (E'.map Ent.kv))->DB H' aa ⟨4,41,56,5⟩ E'->E'.length=E.length+1->(∃e∈E',1<e.ns.sum)->Q (.ref d') H'
inductive RaI(H:Hp)(cl tp d d' l:Addr)(aa:Nat)(B:Int)(E:List Ent)(i:Nat):L2.St->Hp->Prop where
 | mk {x y:Option V} {H':Hp} {ns:List Int} (b:But tp H H') (T:Tape cl H' tp (B+1+i)) (e:H' d'=some (.dT (E.map Ent.kv))) (db:DB H' aa ⟨1,40,56,4⟩ E) (el:H' l=some (.lst (ns.map V.int))) (ln:ns.length=aa) (nn:∀n∈ns,0<=n) (sm:ns.sum=i) :
  RaI H cl tp d d' l aa B E i [some (.ref tp),some (.int aa),some (.ref d),some (.ref d'),some (.ref l),x,y] H'
theorem scRai:FnScope ["tape","many","one","found","powers","turn","letter"] ["tape","many","one"] (jL AM):=⟨rfl,rfl,rfl,by decide +kernel,rfl,by decide +kernel,by decide +kernel⟩
theorem OS{fD fP:Addr}{fdD fdP:FuncData}(F:Fun K "_law_raised" "_law_raised" AM f fd)(T:Txt mg)(DD:Df K mg "_law_draw" BI ["tape","many"] fD fdD)(GD:FnOk P w K mg base CX0 1 fD fdD ["tape","many"] spDraw)(DP:Df K mg "_law_put" VN ["found","powers","number"] fP fdP)(GP:FnOk P w K mg base CX0 2 fP fdP ["found","powers","number"] spPut):FnOk P w K mg base CX0 3 f fd ["tape","many","one"] spRaised:=by
 refine F.ok scRai (λvs H Q E h=>?_) (λcdv A outer s H vs Q E hr h=>?_)
 ·obtain⟨tp,d,aa,B,E,rfl,_⟩:=h
  rfl
 ·obtain⟨tp,d,aa,B,E,rfl,m1,m3,hd,db,cl,hT,hB,go⟩:=h;have hr1:Room 1 _:=hr.mono (by decide);refine⟨_,jB (jM (i:=3) scRai.nd rfl (Or.inl rfl) (qN LwD.KZ (by rfl) T.dct boot_dict (jA (pv 2) jC))) (jB (jM (i:=4) scRai.nd rfl (Or.inl rfl) (jK KD (kM (jA jD jC)) (pv 1))) (jB (qZ PassesOwn.never rfl (vH (by rfl) T.rng (jA (jK kJ jD (jG GD hr1 rfl DD.m DD.F.kp DD.b .nil jR (jA (pv 0) (jA jD jC)))) jC)) (jI (i:=5) scRai.nd rfl (Or.inl rfl)) (jB (jM (i:=6) scRai.nd rfl (Or.inl rfl) (jG GD hr1 rfl DD.m DD.F.kp DD.b .nil jR (jA (pv 0) (jA (pv 1) jC)))) (jE (qL (jK kJ (jQ jW (pv 4) (pv 6) (λ_ _=>rfl)) jD) (zF (pv 4) (pv 6) vZ)))))
   (jB (xM (jG GP hr rfl DP.m DP.F.kp DP.b .nil jR (jA (pv 3) (jA (qN vY (by rfl) T.tup boot_tuple (jA (pv 4) jC)) (jA (jV (jA (jK kJ jD (jG GD hr1 rfl DD.m DD.F.kp DD.b .nil jR (jA (pv 0) (jA jD jC)))) (jA jD jC))) jC))))) (jE (jP (pv 3)))))), ?_⟩
  try dsimp only[cxK]
  refine⟨_,rfl,d,aa,_,rfl,hd,m1,by omega,db.keyS (by show 1<=8;decide),λd' H1 n1 s1 e1=>?_⟩;have p30:(2:Int)^31+300<2^37:=by decide
  refine⟨uX,λz0 H3 n3 s3 e3=>⟨_,rfl,z0,aa,[.int 0],rfl,rfl,e3,by omega,by omega, ?_,λl nl=>?_⟩⟩
  ·show 1*(aa:Int).toNat<=sizeLine;exact nY (show 1*(aa:Int).toNat<=4 by omega) (by decide)
  have T3:=hT.mono (s1.trans s3) uW ;have lo:=T3.off nl;have hnl:H l=none:=(s1.trans s3).free nl;have hl0:(List.replicate (aa:Int).toNat [V.int 0]).flatten=(List.replicate aa (0:Int)).map V.int:=by simp
  rw[hl0];have s4:Same H3 (upd H3 l (.lst ((List.replicate aa (0:Int)).map V.int))):=kF _ nl;have e4:(upd H3 l (.lst ((List.replicate aa (0:Int)).map V.int))) l=some (.lst ((List.replicate aa (0:Int)).map V.int)):=jF;generalize upd H3 l (.lst ((List.replicate aa (0:Int)).map V.int))=H4 at s4 e4;have s04:=s1.trans (s3.trans s4);have T4:=T3.mono s4 uW ;have e14:=(s3.trans s4) _ _ e1;have dn:=T4.ne e14 (λ_ z=>by cases z);refine NF rfl T4 (by omega) (by decide) (by decide) λn H5 n0 n1' T5 b5=>⟨_,_,rfl,rfl,_,rfl,by omega,by omega, ?_⟩;refine yJ (RaI H cl tp d d' l aa B E) (.mk ((But.of s04).trans b5) (T5.mono (Same.refl _) (by omega)) (b5 _ _ e14 dn.1) (db.kp ((Kp.of s04).trans (Kp.butT b5 T4))) (b5 _ _ e4 lo.1) (by simp) (λn hn=>by rw[(List.mem_replicate.mp hn).2];exact tQ _) (by simp)) (λj σ H6 hj h=>?_) (fun σ H6 h=>?_)
  ·obtain⟨b6,T6,e6,db6,el,ln,hns,hsm⟩:=h;rename_i ns;have hj4:j<4:=by omega
   refine⟨_,rfl,_,rfl,tp,aa,_,rfl,cl,T6,by omega,by omega,by omega,λr' H9 r0' r1' T9 b9=>?_⟩;have e9:=b9 _ _ el lo.1;obtain⟨c',hc',hcm⟩:=at_get (ns:=ns) r0' (by rw[ln];exact r1');have dn6:=T6.ne e6 (λ_ z=>by cases z);have ld:d'≠l:=λz=>by rw[z,el]at e6;cases e6
   refine⟨_,rfl,_,rfl,l,_,r',_,rfl,rfl,SqL.of e9,hc',_,_,rfl,rfl,_,rfl,_,rfl,l,_,r',r'.toNat,rfl,rfl,e9, ?_, ?_⟩
   ·unfold ixN;rw[tW r0',tW (by rw[mY,ln];exact r1')]
   ·refine .mk (ns:=ns.set r'.toNat (c'+1)) (FY (b6.trans b9) hnl) (T9.upd _ lo.1 lo.2 (by omega)) (by rw[jH ld];exact b9 _ _ e6 dn6.1) (db6.kp ((Kp.butT b9 T6).trans (Kp.upd e9 trivial))) (by rw[jF,List.map_set]) (by rw[List.length_set];exact ln) (λn hn=>?_) ?_
    ·rcases List.mem_or_eq_of_mem_set hn with hn | rfl
     ·exact hns n hn
     ·have:=hns c' (gS hcm);omega
    ·rw[LK hcm,hsm];omega
  ·obtain⟨b6,T6,e6,db6,el,ln,hns,hsm⟩:=h;rename_i ns;refine⟨_,rfl,_,rfl,l,_,rfl,.inl ⟨SqL.of el,λb nb=>?_⟩⟩;have sb:Same H6 (upd H6 b (.tup (ns.map V.int))):=kF _ nb;have eb:(upd H6 b (.tup (ns.map V.int))) b=some (.tup (ns.map V.int)):=jF;generalize upd H6 b (.tup (ns.map V.int))=H7 at sb eb;have T7:=T6.mono sb uW ;have bo:=T6.off nb;have dn7:=T7.ne (sb _ _ e6) (λ_ z=>by cases z);refine NF rfl T7 (by omega) (by decide) (by decide) λr H8 r0 r1 T8 b8=>⟨_,_,rfl,rfl,uY,λq H9 nq s9 e9=>?_⟩;have d8:=s9 _ _ (b8 _ _ (sb _ _ e6) dn7.1);have k9:=(Kp.of sb).trans ((Kp.butT b8 T7).trans (Kp.of s9));have db9:=(db6.kp k9).up (z':=⟨4,40,56,4⟩) (by decide) uV uV uV ;have T9:=T8.mono s9 uW ;have dn9:=T9.ne d8 (λ_ z=>by cases z);refine⟨d',b,q,ns,1+r,1,aa,0,_,E,λ_=>56,rfl,d8,db9,db9.kb,by show 56<=40000;decide,by decide,by decide,by decide,s9 _ _ (b8 _ _ eb bo.1),ln,hns,by show ns.sum<=((4:Nat):Int);omega,e9,by decide,by decide, ?_,λE' H10 b10 e10 db10 _ cf10=>?_⟩
   ·show(1+r).natAbs<=2^40*(1:Int).natAbs;have:(9:Nat)<=2^40:=by decide
    have:(1:Int).natAbs=1:=rfl;omega
   have hn2:ns∉E.map Ent.ns:=λhm=>by
    obtain⟨e,he,z⟩:=tD.mp hm;have:=(db.each e he).deg;have z1:(((⟨1,40,56,4⟩:Sz).D:Nat):Int)=1:=rfl;rw[z,z1]at this;omega
   have hc:((1+r:Int):Rat)/((1:Int):Rat)≠0:=by
    have:((1+r:Int):Rat)≠0:=λz=>by
     have:(1+r:Int)=0:=Rat.intCast_inj.mp (by rw[z];rfl);omega
    intro z;apply this;have o:((1:Int):Rat)=1:=rfl;rw[o]at z
    grind
   have bt:But tp H H10:=λc o hc hn=>b10 _ _ (s9 _ _ (b8 _ _ (sb _ _ (b6 _ _ hc hn)) hn)) (λz=>by rw[z,n1]at hc;cases hc);have kE:DB H10 aa ⟨4,40,56,4⟩ E:=⟨db9.nd,λe he=>by
    have k:=db9.each e he;exact⟨k.len,k.nn,k.deg,b10 _ _ k.at' (λz=>by have:=k.at';rw[z]at this;rw[At2,d8]at this;cases this),k.pos,k.nz,k.sb,k.st⟩,db9.sum,db9.few⟩
   obtain⟨l1,mm⟩:=SV kE db10 hc hn2 cf10;obtain⟨e,he,en⟩:=tD.mp mm;exact⟨_,rfl,go d' E' H10 n1 bt ((T9.aside b10 dn9.1 dn9.2).mono (Same.refl _) (by omega)) e10 db10 l1 ⟨e,he,by rw[en];omega⟩⟩
theorem op_or{X:Cx}{op:Value->Value->Sem Value}{r1 r2:R2}(h1:OpR X op r1)(h2:OpR X op r2):OpR X op (λx y H Q=>r1 x y H Q∨r2 x y H Q):=λac s σ H x y v u Q I rx ry h=>h.elim (h1 ac s σ H x y v u Q I rx ry) (h2 ac s σ H x y v u Q I rx ry)
theorem ME{H:Hp}{p:Addr}{aa b:Nat}{z:Sz}{ts:List Trm}(h:Poly H p aa z ts)(hb:z.v+z.S<=b):NumsB aa ts b:=by
 have pb:=wR λx hx=>⟨(h.each x hx).pos,(h.each x hx).sb⟩;exact WQ h (nY (FT (TC (HU h)) pb.1) (nY pb.2.1 (gU (by decide) h.sum))) hb
theorem Paired.set{α β:Type}{F:α->β->Prop}{x:α}{y:β}(h:F x y):∀{a:List α} {b:List β} (j:Nat),Paired F a b->Paired F (a.set j x) (b.set j y)
 | _,_,_,.nil=>.nil
 | _,_,0,.cons _ t=>.cons h t
 | _,_,j+1,.cons q t=>.cons q (Paired.set h j t)
def z5:Nat->Sz
 | 1=>⟨1,40,56,4⟩
 | D=>⟨D,41,56,5⟩
structure Dct(H:Hp)(aa D:Nat)(d:Addr)(E:List Ent):Prop where
 at':H d=some (.dT (E.map Ent.kv))
 db:DB H aa (z5 D) E
theorem Dct.same{H H':Hp}{aa D:Nat}{d:Addr}{E:List Ent}(h:Dct H aa D d E)(s:Same H H'):Dct H' aa D d E:=⟨s _ _ h.at',h.db.kp (Kp.of s)⟩
theorem Dct.but{H H':Hp}{aa D:Nat}{d cl tp:Addr}{B:Int}{E:List Ent}(h:Dct H aa D d E)(b:But tp H H')(T:Tape cl H tp B):Dct H' aa D d E:=⟨b _ _ h.at' (T.ne h.at' (λ_ z=>by cases z)).1,h.db.kp (Kp.butT b T)⟩
theorem Dct.upd{H:Hp}{aa D:Nat}{d q:Addr}{E:List Ent}{xs ys:List V}(h:Dct H aa D d E)(e:H q=some (.lst xs)):Dct (upd H q (.lst ys)) aa D d E:=⟨by rw[jH λz=>by have:=h.at';rw[z,e]at this;cases this];exact h.at',h.db.kp (Kp.upd e trivial)⟩
theorem Dct.up4{H:Hp}{aa:Nat}{d:Addr}{E:List Ent}(h:Dct H aa 1 d E):Dct H aa 4 d E:=⟨h.at',h.db.up (by decide) (by decide) (by decide) (by decide)⟩
def BentE(E:List Ent):Prop:=∃e∈E,1<e.ns.sum
theorem NK{ts:List Trm}{E:List Ent}(p:(tl ts).Perm (pl E))(h:BentE E):Bent ts:=by
 obtain⟨e,he,h1⟩:=h;have:e.pr∈tl ts:=p.mem_iff.mpr (List.mem_map_of_mem he);obtain⟨x,hx,ex⟩:=tD.mp this;refine⟨x,hx, ?_⟩;have:x.ns=e.ns:=congrArg Prod.fst ex;rw[this];exact h1
structure LstD(H:Hp)(aa D:Nat)(l:Addr)(ds:List Addr)(Es:List (List Ent)):Prop where
 at':H l=some (.lst (ds.map V.ref))
 pr:Paired (Dct H aa D) ds Es
theorem LstD.same{H H':Hp}{aa D:Nat}{l:Addr}{ds:List Addr}{Es:List (List Ent)}(h:LstD H aa D l ds Es)(s:Same H H'):LstD H' aa D l ds Es:=⟨s _ _ h.at',Paired.to (λ_ _ k=>k.same s) h.pr⟩
def Unl(H:Hp)(ds2 ds:List Addr):Prop:=∀(i:Nat) (a b:Addr),ds2[i]? = some a->ds[i]? = some b->a=b∨∃ag kvt:List (List Key×V),Rd H a (.dT ag)/\Rd H b (.dT kvt)/\ag.length≠kvt.length
theorem Unl.same{H H':Hp}{ds2 ds:List Addr}(h:Unl H ds2 ds)(s:Same H H'):Unl H' ds2 ds:=λi a b h1 h2=>by
 rcases h i a b h1 h2 with z | ⟨k1,k2,r1,r2,n⟩
 ·exact .inl z
 ·exact .inr ⟨k1,k2,Lw.Rd.same r1 s,Lw.Rd.same r2 s,n⟩
structure S35(H:Hp)(aa:Nat)(l l2 d1 d4:Addr)(ds ds2:List Addr)(Es Es2:List (List Ent))(E1 E4:List Ent):Prop where
 m1:1<=aa
 m3:aa<=3
 R:LstD H aa 1 l ds Es
 R2:LstD H aa 4 l2 ds2 Es2
 O:Dct H aa 1 d1 E1
 O4:Dct H aa 4 d4 E4
 b2:∃E∈Es2,BentE E
 b4:BentE E4
 ln:E4.length=E1.length+1
 l1:1<=ds.length
 l6:ds.length<=6
 l2:ds2.length=ds.length
 un:Unl H ds2 ds
 ne:ds2≠ds
theorem S35.same{H H':Hp}{aa:Nat}{l l2 d1 d4:Addr}{ds ds2:List Addr}{Es Es2:List (List Ent)}{E1 E4:List Ent}(h:S35 H aa l l2 d1 d4 ds ds2 Es Es2 E1 E4)(s:Same H H'):S35 H' aa l l2 d1 d4 ds ds2 Es Es2 E1 E4:=⟨h.m1,h.m3,h.R.same s,h.R2.same s,h.O.same s,h.O4.same s,h.b2,h.b4,h.ln,h.l1,h.l6,h.l2,h.un.same s,h.ne⟩
structure P35(H:Hp)(aa:Nat)(l d1:Addr)(ds:List Addr)(E1:List Ent)(f1 l':Addr)(fs ss:Bool)(ds':List Addr)(Es':List (List Ent))(F1:List Ent):Prop where
 F:Dct H aa (if fs=true then 1 else 4) f1 F1
 R:LstD H aa (if ss=true then 1 else 4) l' ds' Es'
 O:Dct H aa 1 d1 E1
 L:H l=some (.lst (ds.map V.ref))
 fT:fs=true->f1=d1
 fF:fs=false->BentE F1/\F1.length≠E1.length
 sT:ss=true->ds'=ds
 sF:ss=false->(∃E∈Es',BentE E)/\ds'≠ds
 un:Unl H ds' ds
 len:ds'.length=ds.length
 l1:1<=ds.length
 l6:ds.length<=6
theorem P35.same{H H':Hp}{aa:Nat}{l d1:Addr}{ds:List Addr}{E1:List Ent}{f1 l':Addr}{fs ss:Bool}{ds':List Addr}{Es':List (List Ent)}{F1:List Ent}(h:P35 H aa l d1 ds E1 f1 l' fs ss ds' Es' F1)(s:Same H H'):P35 H' aa l d1 ds E1 f1 l' fs ss ds' Es' F1:=⟨h.F.same s,h.R.same s,h.O.same s,s _ _ h.L,h.fT,h.fF,h.sT,h.sF,h.un.same s,h.len,h.l1,h.l6⟩
theorem GZ{H:Hp}{ds:List Addr} :Unl H ds ds:=λi a b h1 h2=>.inl (Option.some.inj (h1.symm.trans h2))
theorem S35.pick{H:Hp}{aa:Nat}{l l2 d1 d4:Addr}{ds ds2:List Addr}{Es Es2:List (List Ent)}{E1 E4:List Ent}(S:S35 H aa l l2 d1 d4 ds ds2 Es Es2 E1 E4){t0 t1 t2 t3:Addr}(e0:H t0=some (.tup [.ref d1,.ref l]))(e1:H t1=some (.tup [.ref d4,.ref l]))(e2:H t2=some (.tup [.ref d1,.ref l2]))(e3:H t3=some (.tup [.ref d4,.ref l2])){i:Nat}{x:V}(hx:[V.ref t0,.ref t1,.ref t2,.ref t3][i]? = some x) :
  ∃(q f1 l':Addr) (fs ss:Bool) (ds':List Addr) (Es':List (List Ent)) (F1:List Ent),x=.ref q/\H q=some (.tup [.ref f1,.ref l'])/\P35 H aa l d1 ds E1 f1 l' fs ss ds' Es' F1:=by
 have u:=S.ln;have nn:E4.length≠E1.length:=by omega
 match i,hx with
 | 0,hx=>cases hx;exact⟨t0,d1,l,true,true,ds,Es,E1,rfl,e0,S.O,S.R,S.O,S.R.at',λ_=>rfl,(λz=>nomatch z),λ_=>rfl,(λz=>nomatch z),GZ,rfl,S.l1,S.l6⟩
 | 1,hx=>cases hx;exact⟨t1,d4,l,false,true,ds,Es,E4,rfl,e1,S.O4,S.R,S.O,S.R.at',(λz=>nomatch z),λ_=>⟨S.b4,nn⟩,λ_=>rfl,(λz=>nomatch z),GZ,rfl,S.l1,S.l6⟩
 | 2,hx=>cases hx;exact⟨t2,d1,l2,true,false,ds2,Es2,E1,rfl,e2,S.O,S.R2,S.O,S.R.at',λ_=>rfl,(λz=>nomatch z),(λz=>nomatch z),λ_=>⟨S.b2,S.ne⟩,S.un,S.l2,S.l1,S.l6⟩
 | 3,hx=>cases hx;exact⟨t3,d4,l2,false,false,ds2,Es2,E4,rfl,e3,S.O4,S.R2,S.O,S.R.at',(λz=>nomatch z),λ_=>⟨S.b4,nn⟩,(λz=>nomatch z),λ_=>⟨S.b2,S.ne⟩,S.un,S.l2,S.l1,S.l6⟩
 | i+4,hx=>simp at hx
theorem LstD.but{H H':Hp}{aa D:Nat}{l cl tp:Addr}{B:Int}{ds:List Addr}{Es:List (List Ent)}(h:LstD H aa D l ds Es)(b:But tp H H')(T:Tape cl H tp B)(lt:l≠tp):LstD H' aa D l ds Es:=⟨b _ _ h.at' lt,Paired.to (λ_ _ k=>k.but b T) h.pr⟩
theorem UQ(xs:List V){k:Nat}(h:k<=xs.length):xJ xs none (some (k:Int))=xs.take k:=by
 unfold xJ;rw[HT.sIx_nat,HT.sIx_none,Nat.min_eq_left h,List.drop_zero,Nat.sub_zero]
theorem QB{ds:List Addr}{k:Nat}{d:Addr}(hk:k<ds.length):xJ (ds.map V.ref) none (some (k:Int))++[V.ref d]++xJ (ds.map V.ref) (some ((k:Int)+1)) none=(ds.set k d).map V.ref:=by
 rw[UQ _ (by rw[mY];omega),show((k:Int)+1)=((k+1:Nat):Int) by omega,zL,List.set_eq_take_append_cons_drop,tW hk,mZ,nO,nV,List.map_drop,mK]
 rfl
theorem VH{H:Hp}{aa k:Nat}{ds:List Addr}{Es:List (List Ent)}{d3:Addr}{E3 Ek:List Ent}(R:Paired (Dct H aa 1) ds Es)(h3:Dct H aa 4 d3 E3)(hk:Es[k]? = some Ek)(ln:E3.length=Ek.length+1):Unl H (ds.set k d3) ds:=λi a b h1 h2=>by
 by_cases c:k=i
 ·subst c;rw[List.getElem?_set_self (gE.mp h2).1]at h1;cases h1;obtain⟨E,hE,hD⟩:=Paired.at R h2;rw[hk]at hE;cases hE;exact .inr ⟨_,_,.inl h3.at',.inl hD.at',by rw[mY,mY];omega⟩
 ·rw[List.getElem?_set_ne c]at h1;exact .inl (Option.some.inj (h1.symm.trans h2))
structure RmC(H1:Hp)(cl tp q:Addr)(aa:Nat)(B:Int)(i:Nat)(ys:List V)(H':Hp):Prop where
 b:But tp H1 H'
 T:Tape cl H' tp (B+28*i)
 e:H' q=some (.lst ys)
 ex:∃(ds:List Addr) (Es:List (List Ent)),ys=ds.map V.ref/\Paired (Dct H' aa 1) ds Es
structure Hn(H1:Hp)(q:Addr)(aa D:Nat)(Es:List (List Ent))(i:Nat)(ys:List V)(H':Hp):Prop where
 s:Same H1 H'
 e:H' q=some (.lst ys)
 ex:∃(ps:List Addr) (ad:List (List Trm)),ys=ps.map V.ref/\Paired (λv ts=>∃p,v=V.ref p/\Poly H' p aa (z5 D) ts) ys ad/\Paired (λts E=>(tl ts).Perm (pl E)) ad (Es.take i)
theorem Hn.next{H1 H8 H9:Hp}{hd p:Addr}{aa D j m:Nat}{xs ys:List V}{x:V}{Es:List (List Ent)}{Ei:List Ent}{ts:List Trm}(h:Hn H1 hd aa D Es j ys H8)(n7:H1 hd=none)(hx:xs[j]? = some x)(hm:m=xs.length-j)(hy:ys.length=j)(hEi:Es[j]? = some Ei)(s9:Same H8 H9)(hP:Poly H9 p aa (z5 D) ts)(pm:(tl ts).Perm (pl Ei)) :
  H9 hd=some (.lst ys)/\∃m',m'<m/\CompW xs (Hn H1 hd aa D Es) (j+1) m' (ys++[.ref p]) (upd H9 hd (.lst (ys++[.ref p]))):=by
 obtain⟨s8,e8,ps,ad,ey,pr,pp⟩:=h;have e9:=s9 _ _ e8;have k10:Kp H9 (upd H9 hd (.lst (ys++[.ref p]))):=Kp.upd e9 trivial;refine qA hx hm hy e9 ⟨kQ (s8.trans s9) n7,jF,ps++[p],ad++[ts],by rw[ey,mZ];rfl, ?_, ?_⟩
 ·exact Paired.app (Paired.to (λ_ _ ⟨p,e,q⟩=>⟨p,e,q.kp ((Kp.of s9).trans k10)⟩) pr) (.cons ⟨p,rfl,hP.kp k10⟩ .nil)
 ·rw[mJ,hEi];exact Paired.app pp (.cons pm .nil)
theorem YE(D:Nat):(z5 D).n<=5/\(z5 D).S=56/\(z5 D).v<=41/\(z5 D).D=D:=by
 unfold z5;split
 ·exact⟨by decide,rfl,by decide,rfl⟩
 ·exact⟨tL 5,rfl,tL 41,rfl⟩
theorem dWord{way:Nat}{p a:Addr}{xs:List V}{aa:Nat}{z1 z:Sz}{ts1:List Trm}{ad:List (List Trm)}{vs:List V}{H:Hp}{Q:VK}{X:XK}(g:Bool)(hv:vs=[.int way,.ref p,.ref a])(hw:way<=2)(hA:Asked H p a xs aa z1 z ts1 ad)(h:if g=true then Str8 way aa z1 z ts1 ad else Bnt8 way ts1 ad)(k:∀(wd:Str) (H':Hp),Same H H'->(if g=true then(wdL way).any (λy=>y==wd)=true else wd="")->Q (.str wd) H'):spWord vs H Q X:=by
 cases g with
 | false=>exact⟨way,p,a,xs,aa,z1,z,ts1,ad,hv,hw,hA,.inr ⟨h,λH' s=>k _ H' s rfl⟩⟩
 | true=>exact⟨way,p,a,xs,aa,z1,z,ts1,ad,hv,hw,hA,.inl ⟨h,λwd H' s q=>k wd H' s q⟩⟩
theorem BM{α β:Type}{F:α->β->Prop} :∀{a:List α} {b:List β},Paired F a b->∀y∈b,∃x∈a,F x y
 | _,_,.nil,y,h=>nomatch h
 | _,_,.cons q t,y,h=>by
  rcases nP.mp h with rfl | h
  ·exact⟨_,mF ..,q⟩
  ·obtain⟨x,hx,k⟩:=BM t y h;exact⟨x,gT _ hx,k⟩
theorem P35.way{H:Hp}{aa:Nat}{l d1:Addr}{ds:List Addr}{E1:List Ent}{f1 l':Addr}{fs ss:Bool}{ds':List Addr}{Es':List (List Ent)}{F1:List Ent}(h:P35 H aa l d1 ds E1 f1 l' fs ss ds' Es' F1){ts1:List Trm}{ad:List (List Trm)}(p1:(tl ts1).Perm (pl F1))(ps:Paired (λts E=>(tl ts).Perm (pl E)) ad Es')(n1:NumsB aa ts1 200)(n2:∀ts∈ad,NumsB aa ts 200)(way:Nat) :
  if (ss&&(decide (way=0)||fs))=true then Str8 way aa (z5 (if fs=true then 1 else 4)) (z5 (if ss=true then 1 else 4)) ts1 ad else Bnt8 way ts1 ad:=by
 have up:NumsB aa ts1 650:=⟨nY n1.D (gU (by decide) (by decide)),λz hz=>nY (n1.T z hz) (gU (by decide) (by decide))⟩;cases ss with
 | false=>
  refine vF (by rfl) (.inl ?_);obtain⟨E,hE,hb⟩:=(h.sF rfl).1;obtain⟨ts,ht,p⟩:=BM ps E hE;exact⟨ts,ht,NK p hb⟩
 | true=>
  by_cases hw:way=0
  ·refine vS (by rw[nG hw];rfl) ⟨tL _,n2,.inl hw⟩
  ·cases fs with
   | true=>exact vS (by rw[Bool.or_true];rfl) ⟨tL _,n2,.inr ⟨tL _,up⟩⟩
   | false=>exact vF (by rw[nA hw];rfl) (.inr ⟨hw,NK p1 (h.fF rfl).1⟩)
theorem cut63(ns:List Int):∃ms:List Int,xJ (ns.map V.int) none (some 63)=ms.map V.int/\ms.length<=63:=by
 refine⟨(ns.drop (HT.sIx (ns.map V.int).length 0 none)).take (HT.sIx (ns.map V.int).length (ns.map V.int).length (some 63)-HT.sIx (ns.map V.int).length 0 none), ?_, ?_⟩
 ·unfold xJ;rw[<-List.map_drop,<-nV]
 ·rw[mQ];have:HT.sIx (ns.map V.int).length (ns.map V.int).length (some 63)<=63:=by
   have:=HT.sIx_nat (ns.map V.int).length (ns.map V.int).length 63;rw[show((63:Nat):Int)=63 from rfl]at this;rw[this];exact Nat.min_le_left _ _
  omega
theorem QZ{A1 R:TS}{D:Ends}{σ:L2.St}{H:Hp}(J:L2.St->Hp->Prop)(h:∀TT:TS,(∀σ H,J σ H->TT D σ H)->xD A1 TT D σ H)(tl:∀σ H,J σ H->R D σ H):xD A1 R D σ H:=h R tl
theorem HE{A1 A2 A3 R:TS}{D:Ends}{σ:L2.St}{H:Hp}(J:L2.St->Hp->Prop)(h:∀TT:TS,(∀σ H,J σ H->TT D σ H)->xD A1 (xD A2 (xD A3 TT)) D σ H)(tl:∀σ H,J σ H->R D σ H):xD A1 (xD A2 (xD A3 R)) D σ H:=h R tl
inductive I35(a cl tp:Addr)(i:Nat):L2.St->Hp->Prop where
 | mk {u2 u3 u4 u5 u6 u7 u8 u9 u10 u11 u12 u13 u14 u15 u16:Option V} {H:Hp} (T:Tape cl H tp (300*i)):I35 a cl tp i [some (.ref a),some (.ref tp),u2,u3,u4,u5,u6,u7,u8,u9,u10,u11,u12,u13,u14,u15,u16] H
inductive A35(a cl tp:Addr)(B:Int):L2.St->Hp->Prop where
 | mk {aa:Nat} {l d1:Addr} {ds:List Addr} {Es:List (List Ent)} {E1:List Ent} {u2 u6 u7 u8 u9 u10 u11 u12 u13 u14 u15 u16:Option V} {H:Hp} (m1:1<=aa) (m3:aa<=3) (T:Tape cl H tp (B+200)) (lt:l≠tp) (R:LstD H aa 1 l ds Es) (O:Dct H aa 1 d1 E1) (l1:1<=ds.length) (l6:ds.length<=6):A35 a cl tp B [some (.ref a),some (.ref tp),u2,some (.int aa),some (.ref l),some (.ref d1),u6,u7,u8,u9,u10,u11,u12,u13,u14,u15,u16] H
inductive J35(a cl tp:Addr)(B:Int):L2.St->Hp->Prop where
 | mk {aa:Nat} {l l2 d1 d4:Addr} {ds ds2:List Addr} {Es Es2:List (List Ent)} {E1 E4:List Ent} {u2 u6 u9 u10 u11 u12 u13 u14 u15 u16:Option V} {H:Hp} (T:Tape cl H tp (B+290)) (S:S35 H aa l l2 d1 d4 ds ds2 Es Es2 E1 E4):J35 a cl tp B [some (.ref a),some (.ref tp),u2,some (.int aa),some (.ref l),some (.ref d1),u6,some (.ref l2),some (.ref d4),u9,u10,u11,u12,u13,u14,u15,u16] H
inductive Q35(H0:Hp)(a tp:Addr)(u2 u6:Option V)(aa:Nat)(l d1 l2 d4:Addr)(i:Nat):L2.St->Hp->Prop where
 | mk {u9 u10 u11 u12 u13 u14 u15 u16:Option V} {H:Hp} (s:Same H0 H):Q35 H0 a tp u2 u6 aa l d1 l2 d4 i [some (.ref a),some (.ref tp),u2,some (.int aa),some (.ref l),some (.ref d1),u6,some (.ref l2),some (.ref d4),u9,u10,u11,u12,u13,u14,u15,u16] H
inductive W35(H0:Hp)(u0 u1 u2 u3 u4 u5 u6 u7 u8 u9 u10 u11 u12 u13:Option V)(i:Nat):L2.St->Hp->Prop where
 | mk {u14 u15 u16:Option V} {H:Hp} (s:Same H0 H):W35 H0 u0 u1 u2 u3 u4 u5 u6 u7 u8 u9 u10 u11 u12 u13 i [u0,u1,u2,u3,u4,u5,u6,u7,u8,u9,u10,u11,u12,u13,u14,u15,u16] H
inductive G35(H0:Hp)(u0 u1 u2 u3 u4 u5 u6 u7 u8 u9 u10 u11 u12 u13 u14 u15:Option V)(g:Bool):L2.St->Hp->Prop where
 | mk {H:Hp} (s:Same H0 H):G35 H0 u0 u1 u2 u3 u4 u5 u6 u7 u8 u9 u10 u11 u12 u13 u14 u15 g [u0,u1,u2,u3,u4,u5,u6,u7,u8,u9,u10,u11,u12,u13,u14,u15,some (.bl g)] H
theorem scLaw:FnScope ["script","tape","turn","many","rims","one","at","bent","high","first","some","given","handed","old","way","word","good"] ["script"] (jL JO):=⟨rfl,rfl,rfl,by decide +kernel,rfl,by decide +kernel,by decide +kernel⟩
set_option maxHeartbeats 40000000 in
theorem ok_law{fD fS fL fA fW fY:Addr}{fdD fdS fdL fdA fdW fdY:FuncData}(F:Fun K "law" "law" JO f fd)(T:Txt mg)(DD:Df K mg "_law_draw" BI ["tape","many"] fD fdD)(GD:FnOk P w K mg base CX0 1 fD fdD ["tape","many"] spDraw)(DS:Df K mg "_law_sum" LV ["many","one"] fS fdS)(GS:FnOk P w K mg base CX0 2 fS fdS ["many","one"] spLSum)(DL:Df K mg "_law_line" LU ["tape","many"] fL fdL)(GL:FnOk P w K mg base CX0 3 fL fdL ["tape","many"] spLine)
  (DA:Df K mg "_law_raised" AM ["tape","many","one"] fA fdA) (GA:FnOk P w K mg base CX0 3 fA fdA ["tape","many","one"] spRaised) (DW:Df K mg "_law_word" LP ["way","one","rims"] fW fdW) (GW:FnOk P w K mg base CX0 10 fW fdW ["way","one","rims"] spWord) (DY:Df K mg "_law_word_right" AK ["way","good","word"] fY fdY) (GY:FnOk P w K mg base CX0 1 fY fdY ["way","good","word"] spWR):FnOk P w K mg base CX0 11 f fd ["script"] (LN K):=by
 refine F.ok scLaw (λvs H Q E h=>?_) (λcdv A outer s H vs Q E hr h=>?_)
 ·obtain⟨a,ns,rfl,_⟩:=h
  rfl
 ·obtain⟨a,ns,rfl,hS,hlen,go⟩:=h;have hr1:Room 1 _:=hr.mono (by decide);have hr2:Room 2 _:=hr.mono (by decide);have hr3:Room 3 _:=hr.mono (by decide);have hr10:Room 10 _:=hr.mono (by decide);have hu0:=hr.units0;have hu1:_+1<cLine:=hU (Nat.add_le_add_left (by decide:1<=64) _) hr.units;refine⟨_,jB (jM (i:=1) scLaw.nd rfl (Or.inr rfl) (kM (jA (qN CF (by rfl) T.lst boot_list (jA (qM qK (pv 0) vW (qG jD)) jC)) (jA jD (jA jD (jA jD jC)))))) (jB (qZ PassesOwn.never rfl (vH (by rfl) T.rng (jA jD jC)) (jI (i:=2) scLaw.nd rfl (Or.inl rfl)) (jB (qL (jK kJ jD (jG GD hr1 rfl DD.m DD.F.kp DD.b .nil jR (jA (pv 1) (jA jD jC)))) (jI (i:=3) scLaw.nd rfl (Or.inr rfl))) (jB (yN (i:=4) scLaw.nd rfl (Or.inl rfl) (own:=1) (idx:=[1,3]) (N:=["k","tape","many"]) rfl rfl rfl (by decide +kernel) (by decide +kernel) (vV (by intro y hy;simp only[nP,mR,or_false]at hy;rcases hy with rfl | rfl<;>rfl)) (vO rfl) rfl (EL rfl rfl ⟨rfl,rfl,rfl,rfl⟩ ⟨rfl,rfl,rfl,rfl⟩) (vH (by rfl) T.rng (jA (jK kJ jD (jG GD hr1 rfl DD.m DD.F.kp DD.b .nil jR (jA (pv 1) (jA (jQ jW (kM (jA jD (jA jD (jA jD jC)))) (jK zH (pv 3) jD) (λ_ _=>rfl)) jC)))) jC)) (λC fp s2 H2=>(jI (i:=0) (show List.Nodup (["k","tape","many"]:List Str) by decide +kernel) rfl (Or.inl rfl) (Or.inr rfl))) (λC fp s2 H2=>jG GL hr3 rfl DL.m DL.F.kp DL.b .nil jR (jA (pv 1) (jA (pv 2) jC)))) (jB (jM (i:=5) scLaw.nd rfl (Or.inl rfl) (jG GL hr3 rfl DL.m DL.F.kp DL.b .nil jR (jA (pv 1) (jA (pv 3) jC)))) (jB (jM (i:=6) scLaw.nd rfl (Or.inl rfl) (jG GD hr1 rfl DD.m DD.F.kp DD.b .nil jR (jA (pv 1) (jA (qC qS (by rfl) T.len PySem.boot_len (jA (pv 4) jC)) jC)))) (jB (jM (i:=7) scLaw.nd rfl (Or.inl rfl) (jK qY (jK qY (qM qK (pv 4) vW (qG (pv 6))) (kM (jA (jG GA hr3 rfl DA.m DA.F.kp DA.b .nil jR (jA (pv 1) (jA (pv 3) (jA (jQ jW (pv 4) (pv 6) (λ_ _=>rfl)) jC)))) jC))) (qM qK (pv 4) (qG (jK kJ (pv 6) jD)) vW))) (jB (jM (i:=8) scLaw.nd rfl (Or.inl rfl) (jG GA hr3 rfl DA.m DA.F.kp DA.b .nil jR (jA (pv 1) (jA (pv 3) (jA (pv 5) jC))))) (jE (qZ PassesOwn.never rfl (kX (kM (jA (jV (jA (pv 5) (jA (pv 4) jC))) (jA (jV (jA (pv 8) (jA (pv 4) jC))) (jA (jV (jA (pv 5) (jA (pv 7) jC))) (jA (jV (jA (pv 8) (jA (pv 7) jC))) jC)))))) (qW rfl (jO (jI (i:=9) scLaw.nd rfl (Or.inl rfl)) (jO (jI (i:=10) scLaw.nd rfl (Or.inl rfl)) kS))) (jB (jM (i:=11) scLaw.nd rfl (Or.inl rfl) (jG GS hr2 rfl DS.m DS.F.kp DS.b .nil jR (jA (pv 3) (jA (pv 9) jC)))) (jB (yN (i:=12) scLaw.nd rfl (Or.inl rfl) (own:=1) (idx:=[3]) (N:=["rim","many"]) rfl rfl rfl (by decide +kernel) (by decide +kernel) (vV (by intro y hy;simp only[nP,mR,or_false]at hy;rcases hy with rfl;rfl)) (vO rfl) rfl (xN rfl ⟨rfl,rfl,rfl,rfl⟩) (kX (pv 10)) (λC fp s2 H2=>(jI (i:=0) (show List.Nodup (["rim","many"]:List Str) by decide +kernel) rfl (Or.inl rfl) (Or.inr rfl))) (λC fp s2 H2=>jG GS hr2 rfl DS.m DS.F.kp DS.b .nil jR (jA (pv 1) (jA (pv 0) jC)))) (jB (jM (i:=13) scLaw.nd rfl (Or.inl rfl) (qN CF (by rfl) T.lst boot_list (jA (pv 12) jC))) (jE (qZ PassesOwn.never rfl (vH (by rfl) T.rng (jA jD jC)) (jI (i:=14) scLaw.nd rfl (Or.inl rfl)) (jB (jM (i:=15) scLaw.nd rfl (Or.inl rfl) (jG GW hr10 rfl DW.m DW.F.kp DW.b .nil jR (jA (pv 14) (jA (pv 11) (jA (pv 12) jC))))) (jB (kU (jT (ZV hu1) (pv 12) (pv 13) (jY _)) (jE (jP SA)) kC) (jB (jM (i:=16) scLaw.nd rfl (Or.inl rfl) (SB (zS (LwD.VY hu1) (pv 10) (pv 4) (jY _)) (JZ (pe_or (zS xX (pv 14) jD (jY _)) (JZ (zS (op_or (LwD.ZX hu1) (LwD.ZY hu0)) (pv 9) (pv 5) (jY _))))))) (jE (kU (ZK (JW (jG GY hr1 rfl DY.m DY.F.kp DY.b .nil jR (jA (pv 14) (jA (pv 16) (jA (pv 15) jC)))))) (jE (jP SA)) kC))))))))))))))))))) (jE (jP SA))), ?_⟩
  try dsimp only[cxK]
  obtain⟨cs,em,hm⟩:=cut63 ns;refine⟨_,rfl,_,rfl,a,_,rfl,hS,λp1 H1 n1 s1 e1=>?_⟩;refine⟨p1,_,rfl,.inl (SqL.of e1),λcl H2 n2 s2 e2=>⟨(by show 4<=sizeLine;decide),λtp H3 n3 s3 e3=>?_⟩⟩;have T3:Tape cl H3 tp 0:=⟨cs,0,0,0,e3,by rw[s3 _ _ e2,em],hm,by decide,by decide⟩;have p30:(10000:Int)<2^30:=by decide
  have p31:(10000:Int)<2^31:=by decide
  have p40:(10000:Int)<2^40:=by decide
  refine⟨2,rfl,by omega,by omega,yJ (n:=2) (I35 a cl tp) (.mk (T3.mono (Same.refl _) (by decide))) (λi σ H4 hi h=>?_) (fun σ H4 h=>?_)⟩
  ·obtain⟨T4⟩:=h;have hi2:(i:Int)<2:=by omega
   dsimp only[kR];refine HE (A35 a cl tp (300*i)) (λTT hTT=>?_) ?_
   ·refine NF rfl T4 (by omega) (by decide) (by decide) λr H5 r0 r1 T5 b5=>⟨_,_,rfl,rfl, ?_⟩;obtain⟨rn,rfl⟩:=gI r0;have em:(1:Int)+(rn:Int)=((rn+1:Nat):Int):=by omega
    dsimp only;rw[em];have m1:1<=rn+1:=by omega
    have m3:rn+1<=3:=by omega
    generalize rn+1=aa at m1 m3;obtain⟨c,hc,c0,c6⟩:∃c:Int,atI [V.int 6,.int 6,.int 4] ((aa:Int)-1)=some (.int c)/\0<c/\c<=6:=by
     obtain rfl | rfl | rfl:aa=1∨aa=2∨aa=3:=by omega
     ·exact⟨6,rfl,by decide,by decide⟩
     ·exact⟨6,rfl,by decide,by decide⟩
     ·exact⟨4,rfl,by decide,by decide⟩
    refine⟨_,rfl,uZ,λll H6 n6 s6 e6=>⟨_,rfl,_,_,rfl,rfl,ll,_,_,_,rfl,rfl,SqL.of e6,hc,tp,c,_,rfl,cl,T5.mono s6 uW,by omega,c0,by omega,λr H7 r0' r1' T7 b7=>⟨_,_,rfl,rfl,_,rfl,by omega,by omega,λq H8 n8 s8 e8=>?_⟩⟩⟩;have qt:=T7.off n8;have cn:(1+r).toNat<=6:=by omega
    have c1:1<=(1+r).toNat:=by omega
    refine zM (n:=(1+r).toNat) (RmC H7 cl tp q aa (300*i+2)) (by rw[sizeLine_eq];omega) ⟨But.of s8,T7.mono s8 (by omega),e8,[],[],rfl,.nil⟩ (λ_ _ _ h=>h.e) ?_ ?_
    ·intro k m' ys x H9 hx hm' hy h;obtain⟨_,hk⟩:=BA hx;obtain⟨ds,Es,ey,pr⟩:=h.ex;refine⟨uT,_,rfl,_,rfl,tp,aa,_,rfl,m1,m3,cl,h.T,by omega,λd E H10 nd b10 T10 e10 db10=>?_⟩;have eq10:=b10 _ _ h.e qt.1;refine qA hx hm' hy eq10 ⟨λc o h' n=>?_,T10.upd _ qt.1 qt.2 (by omega),jF,ds++[d],Es++[E],by rw[ey,mZ];rfl, ?_⟩
     ·rw[jH (jX h' n8)];exact b10 _ _ (h.b _ _ h' n) n
     ·exact Paired.app (Paired.to (λ_ _ k=>(k.but b10 h.T).upd eq10) pr) (.cons (Dct.upd ⟨e10,db10⟩ eq10) .nil)
    ·rintro ys H9 hy ⟨b9,T9,e9,ds,Es,rfl,pr⟩;rw[mY]at hy;dsimp only[kR];refine⟨_,rfl,_,rfl,tp,aa,_,rfl,m1,m3,cl,T9,by omega,λd1 E1 H10 nd b10 T10 e10 db10=>?_⟩;exact hTT _ _ (.mk m1 m3 (T10.mono (Same.refl _) (by omega)) qt.1 ⟨b10 _ _ e9 qt.1,Paired.to (λ_ _ k=>k.but b10 T9) pr⟩ ⟨e10,db10⟩ (by omega) (by omega))
   rintro _ _ ⟨m1,m3,T5,lt,R,O,l1,l6⟩;rename_i H5 aa l d1 ds Es E1 u2 u6 u7 u8 u9 u10 u11 u12 u13 u14 u15 u16;refine HE (J35 a cl tp (300*i)) (λTT hTT=>?_) ?_
   ·refine⟨_,rfl,_,rfl,l,_,rfl,.inl (SqL.of R.at'),tp,_,_,rfl,cl,T5,by omega,by rw[mY];omega,by rw[mY];omega,λr H6 r0 r1 T6 b6=>?_⟩;rw[mY]at r1;obtain⟨k,rfl⟩:=gI r0;have hk:k<ds.length:=by omega
    have R6:LstD H6 aa 1 l ds Es:=⟨b6 _ _ R.at' lt,Paired.to (λ_ _ q=>q.but b6 T5) R.pr⟩;have O6:=O.but b6 T5;dsimp only[kR];have T6':=T6;obtain⟨Ek,hEk,hDk⟩:=Paired.at R6.pr (gG hk);have lE:Es.length=ds.length:=(Paired.length R6.pr).symm;refine⟨_,rfl,_,rfl,_,rfl,l,_,rfl,SqL.of R6.at',λq1 H7 n7 s7 e7=>?_⟩;have T7:=T6.mono s7 uW ;have q1t:=T6.off n7;have R7:=R6.same s7;refine⟨_,rfl,_,rfl,_,rfl,_,rfl,l,_,_,_,rfl,rfl,SqL.of R7.at',yS (by rw[mH,gG hk];rfl),tp,_,aa,_,Ek,rfl,m1,m3,.inl (s7 _ _ hDk.at'),(hDk.same s7).db,cl,T7,by omega,λd3 E3 H8 n8 b8 T8 e8 db8 ln8 be8=>?_⟩;refine⟨uX,λq2 H9 n9 s9 e9=>?_⟩;have lc:(xJ (ds.map V.ref) none (some (k:Int))).length<=6:=by
     rw[UQ _ (by rw[mY];omega),mQ,mY];omega
    refine⟨q1,q2,_,_,rfl,rfl,s9 _ _ (b8 _ _ e7 q1t.1),e9,by rw[sizeLine_eq];show _+1<=_;omega,λq3 H10 n10 s10 e10=>?_⟩;have R8:=R7.but b8 T7 lt;have O8:=(O6.same s7).but b8 T7;have R10:=R8.same (s9.trans s10);refine⟨_,rfl,_,rfl,_,_,rfl,rfl,_,rfl,l,_,rfl,SqL.of R10.at',λq4 H11 n11 s11 e11=>?_⟩;have ld:(xJ (ds.map V.ref) (some ((k:Int)+1)) none).length<=6:=by
     rw[show((k:Int)+1)=((k+1:Nat):Int) by omega,zL,List.length_drop,mY];omega
    refine⟨q3,q4,_,_,rfl,rfl,s11 _ _ e10,e11,by rw[sizeLine_eq,hV];show _+1+_<=_;omega,λl2 H12 n12 s12 e12=>?_⟩;rw[QB hk]at e12;have s812:=s9.trans (s10.trans (s11.trans s12));have T12:=T8.mono s812 uW ;have l2t:=(T8.mono (s9.trans (s10.trans s11)) uW).off n12;have O12:=O8.same s812;have d12:Dct H12 aa 4 d3 E3:=Dct.same ⟨e8,db8⟩ s812;have R12:=R8.same s812;refine⟨_,rfl,_,rfl,_,rfl,tp,d1,aa,_,E1,rfl,m1,m3,.inl O12.at',O12.db,cl,T12,by omega,λd4 E4 H13 n13 b13 T13 e13 db13 ln13 be13=>?_⟩;have R13:=R12.but b13 T12 lt;have d13:=d12.but b13 T12;have ne3:ds.set k d3≠ds:=λz=>by
     have g:(ds.set k d3)[k]? = ds[k]? :=by rw[z]
     rw[List.getElem?_set_self hk,gG hk]at g;have g:=Option.some.inj g;have:=(s7 _ _ hDk.at');rw[<-g,n8]at this;cases this
    exact hTT _ _ (.mk (T13.mono (Same.refl _) (by omega)) ⟨m1,m3,R13,⟨b13 _ _ e12 l2t.1,Paired.set d13 k (Paired.to (λ_ _ q=>q.up4) R13.pr)⟩,O12.but b13 T12,⟨e13,db13⟩,⟨E3,List.mem_set (by omega) _,be8⟩,be13,ln13,l1,l6,List.length_set,VH R13.pr d13 hEk ln8,ne3⟩)
   rintro _ _ ⟨T6,S⟩;rename_i H6 aa l l2 d1 d4 ds ds2 Es Es2 E1 E4 u2 u6 u9 u10 u11 u12 u13 u14 u15 u16;refine⟨_,rfl,_,rfl,uY,λt0 H7 n7 s7 e7=>⟨_,rfl,_,rfl,uY,λt1 H8 n8 s8 e8=>⟨_,rfl,_,rfl,uY,λt2 H9 n9 s9 e9=>⟨_,rfl,_,rfl,uY,λt3 H10 n10 s10 e10=>⟨(by show 4<=sizeLine;decide),λL H11 n11 s11 e11=>⟨L,rfl,⟨_,SqL.of e11⟩, ?_⟩⟩⟩⟩⟩⟩;have S11:=S.same (s7.trans (s8.trans (s9.trans (s10.trans s11))));have e7:=(s8.trans (s9.trans (s10.trans s11))) _ _ e7;have e8:=(s9.trans (s10.trans s11)) _ _ e8;have e9:=(s10.trans s11) _ _ e9;have e10:=s11 _ _ e10;have T11:=T6.mono (s7.trans (s8.trans (s9.trans (s10.trans s11)))) uW ;clear s7 s8 s9 s10 s11 S T6;refine vP (K:=K) (a:=L) (xs:=[V.ref t0,.ref t1,.ref t2,.ref t3]) (Q35 H11 a tp u2 u6 aa l d1 l2 d4) (.mk (Same.refl _)) (λj σ H12 _ h=>?_) (λj x σ H12 hx h=>?_) (fun σ H12 h=>?_)
   ·obtain⟨s12⟩:=h;exact SqL.of (s12 _ _ e11)
   ·obtain⟨s12⟩:=h;obtain⟨q,f1,l',fs,ss,ds',Es',F1,rfl,eq,P⟩:=(S11.same s12).pick (s12 _ _ e7) (s12 _ _ e8) (s12 _ _ e9) (s12 _ _ e10) hx;refine gT2 (SqT.of eq) rfl ?_;have zf:=YE (if fs=true then 1 else 4);have zs:=YE (if ss=true then 1 else 4);refine⟨_,rfl,_,rfl,f1,aa,_,F1,rfl,.inl P.F.at',P.F.db,S11.m1,by omega,by omega,λp ts1 H13 n13 s13 hP1 pm1=>?_⟩;have P13:=P.same s13;refine⟨_,rfl,l',rfl,⟨_,SqL.of P13.R.at'⟩,λhd H14 n14 s14 e14=>?_⟩;refine xU (K:=K) (a:=l') (xs:=ds'.map V.ref) (Hn H13 hd aa (if ss=true then 1 else 4) Es') (by rw[mY,P.len,sizeLine_eq];have:=P.l6;omega) ⟨s14,e14,[],[],rfl,.nil,.nil⟩ (λj ys H9 h=>⟨SqL.of (h.s _ _ P13.R.at'),h.e⟩) ?_ ?_
    ·intro j m ys x H15 hx hm' hy h;rw[mH]at hx;obtain⟨di,hdi,rfl⟩:=Option.map_eq_some_iff.mp hx;obtain⟨Ei,hEi,hD⟩:=Paired.at P13.R.pr hdi;have hD:=hD.same h.s;refine⟨uT,_,rfl,_,rfl,di,aa,_,Ei,rfl,.inl hD.at',hD.db,S11.m1,by omega,by omega,λp' ts H16 n16 s16 hP pm=>?_⟩;exact h.next n14 (by rw[mH];exact hx) hm' hy hEi s16 hP pm
    ·rintro ys H15 hy ⟨s15,e15,ps,ad,rfl,pr,pp⟩;have lds:Es'.length=ds'.length:=(Paired.length P.R.pr).symm;rw[mY,<-lds,mS]at pp;dsimp only[kR];refine⟨_,rfl,hd,_,rfl,.inl (SqL.of e15),λod H16 n16 s16 e16=>?_⟩;have P16:=P13.same (s15.trans s16);have hP16:=hP1.kp (Kp.of (s15.trans s16));have R16:RimsP H16 hd (ps.map V.ref) aa (z5 (if ss=true then 1 else 4)) ad:=RimsP.same ⟨e15,pr⟩ s16;have lt:ad.length=ds.length:=by rw[Paired.length pp,lds,P.len]
     have nb1:NumsB aa ts1 200:=ME hP16 (by omega);have nb2:∀ts∈ad,NumsB aa ts 200:=λts ht=>by
      obtain⟨v,hv,p2,e,k⟩:=BM R16.pr ts ht;exact ME k (by omega)
     have way:=P16.way pm1 pp nb1 nb2;have dz:∀b:Bool,(if b=true then 1 else 4)<=1000:=λb=>by cases b<;>decide
     have as16:Asked H16 p hd (ps.map V.ref) aa _ _ ts1 ad:=⟨hP16,R16,S11.m1,S11.m3,by omega,by omega,by omega,by omega,by rw[zf.2.2.2];exact dz fs,by rw[zs.2.2.2];exact dz ss,by rw[lt];exact P.l1,by rw[lt];exact P.l6⟩;have e16h:=R16.at';refine⟨3,rfl,by omega,by omega,yJ (n:=3) (W35 H16 (some (.ref a)) (some (.ref tp)) u2 (some (.int aa)) (some (.ref l)) (some (.ref d1)) u6 (some (.ref l2)) (some (.ref d4)) (some (.ref f1)) (some (.ref l')) (some (.ref p)) (some (.ref hd)) (some (.ref od))) (.mk (Same.refl _)) (λk σ H17 hk h=>?_) (fun σ H17 h=>?_)⟩
     ·obtain⟨s17⟩:=h;dsimp only[kR];have wk:=way k;generalize hg:(ss&&(decide (k=0)||fs))=g at wk;refine⟨_,rfl,_,rfl,_,rfl, ?_⟩;dsimp only[tNil,List.append_nil];have as17:Asked H17 p hd (ps.map V.ref) aa _ _ ts1 ad:={ as16 with P:=as16.P.kp (Kp.of s17),R:=as16.R.same s17 };refine dWord g (by rw[Int.zero_add];rfl) (by omega) as17 wk λwd H18 s18 hw=>?_;have s1618:=s17.trans s18;refine⟨_,rfl,_,rfl,hd,od,ps,rfl,rfl,s1618 _ _ e16h,s1618 _ _ e16,_,rfl,AF ?_⟩;have P18:=P16.same s1618;dsimp only[tNext];refine QZ (G35 H18 (some (.ref a)) (some (.ref tp)) u2 (some (.int aa)) (some (.ref l)) (some (.ref d1)) u6 (some (.ref l2)) (some (.ref d4)) (some (.ref f1)) (some (.ref l')) (some (.ref p)) (some (.ref hd)) (some (.ref od)) (some (.int (0+(k:Int)))) (some (.str wd)) g) (λTT hTT=>?_) ?_
      ·refine⟨_,rfl,_,rfl,l',l,ds',ds,rfl,rfl,P18.R.at',P18.L,P18.len,P18.un,_,rfl, ?_⟩;cases ss with
       | false=>
        refine vF (nA (P.sF rfl).2) (hTT _ _ ?_);rw[show g=false from hg.symm];exact .mk (Same.refl _)
       | true=>
        refine vS (nG (P.sT rfl)) ?_;refine⟨_,rfl,rfl,_,rfl, ?_⟩;rw[vR];by_cases c0:k=0
        ·refine vS (nG (by omega)) (hTT _ _ ?_);rw[show g=true by rw[<-hg,nG c0];rfl];exact .mk (Same.refl _)
        refine vF (nA (by omega)) ?_;cases fs with
        | true=>
         have z:=P.fT rfl;subst z;refine⟨_,rfl,_,rfl,.inl ⟨f1,_,rfl,rfl,.inl P18.F.at',λq hq=>?_,hTT _ _ ?_⟩⟩
         ·obtain⟨e,_,rfl⟩:=tD.mp hq;exact⟨_,rfl⟩
         ·rw[show g=true by rw[<-hg,Bool.or_true];rfl];exact .mk (Same.refl _)
        | false=>
         refine⟨_,rfl,_,rfl,.inr ⟨f1,d1,_,_,rfl,rfl,.inl P18.F.at',.inl P18.O.at',by rw[mY,mY];exact(P.fF rfl).2,hTT _ _ ?_⟩⟩;rw[show g=false by rw[<-hg,nA c0];rfl];exact .mk (Same.refl _)
      ·rintro _ _ ⟨s19⟩;refine⟨_,rfl,_,rfl,_,rfl,k,g,wd,by rw[Int.zero_add];rfl,by omega,hw,λH20 s20=>?_⟩;exact⟨_,rfl,AF (.mk (s1618.trans (s19.trans s20)))⟩
     ·obtain⟨s17⟩:=h;exact .mk (s12.trans (s13.trans (s15.trans (s16.trans s17))))
   ·obtain⟨s12⟩:=h;exact .mk (T11.mono s12 (by omega))
  ·obtain⟨_⟩:=h;exact go _
end Lw
namespace Lw
open PySem PySem.Spec PyProof.Rows L2
theorem len1{us:List Value}(h:us.length=1):∃a,us=[a]:=by cases us with | nil=>cases h | cons a r=>have e:r=[]:=List.length_eq_zero_iff.mp (by simpa using h);subst e;exact⟨a,rfl⟩
theorem len2{us:List Value}(h:us.length=2):∃a b,us=[a,b]:=by cases us with | nil=>cases h | cons a r=>obtain⟨b,rfl⟩:=len1 (us:=r) (by simpa using h);exact⟨a,b,rfl⟩
theorem len3{us:List Value}(h:us.length=3):∃a b c,us=[a,b,c]:=by cases us with | nil=>cases h | cons a r=>obtain⟨b,c,rfl⟩:=len2 (us:=r) (by simpa using h);exact⟨a,b,c,rfl⟩
abbrev fo(x:Str)(st:Stmt)(kV dc pm:Value)(an:Option Addr)(cd ct:Value):FuncData:=PySem.W.fnOf x x (vQ st) (vG st) (jL st) .none kV dc pm an cd ct
abbrev BdA(x:Str)(st:Stmt)(ps:List Str)(us:List Value):Prop:=∀(kV dc pm:Value) (an:Option Addr) (cd ct:Value),bindArgs (fo x st kV dc pm an cd ct) ⟨us,[]⟩=pure (ps.zip us)
theorem bd1{x:Str}{st:Stmt}{ps:List Str}(hp:ps.length=1)(h:∀a,BdA x st ps [a]):∀us:List Value,us.length=ps.length->BdA x st ps us:=λus e=>by obtain⟨_,rfl⟩:=len1 (e.trans hp);exact λ_ _ _ _ _ _=>h ..
theorem bd2{x:Str}{st:Stmt}{ps:List Str}(hp:ps.length=2)(h:∀a b,BdA x st ps [a,b]):∀us:List Value,us.length=ps.length->BdA x st ps us:=λus e=>by obtain⟨_,_,rfl⟩:=len2 (e.trans hp);exact λ_ _ _ _ _ _=>h ..
theorem bd3{x:Str}{st:Stmt}{ps:List Str}(hp:ps.length=3)(h:∀a b c,BdA x st ps [a,b,c]):∀us:List Value,us.length=ps.length->BdA x st ps us:=λus e=>by obtain⟨_,_,_,rfl⟩:=len3 (e.trans hp);exact λ_ _ _ _ _ _=>h ..
theorem df{K:tX}{h:Heap}{mg:Str->Option Value}{x:Str}{st:Stmt}(X:K.In h)(G:h.Ns mainGlobals mg)(A:FnAt K x st)(ps:List Str)(b:∀us:List Value,us.length=ps.length->BdA x st ps us):∃f fd,Df K mg x st ps f fd:=by
 obtain⟨a,l,c,k⟩:=A;exact⟨_,_,KR l c k,(KR l c k).binds λkV dc pm an cd ct us h=>b us h kV dc pm an cd ct,nW X G a⟩
theorem all_mk{l:PySem.W.OpenLaw}{w:World}{K:tX}{h:Heap}{mg:Str->Option Value}{fa:Addr}(X:K.In h)(G:h.Ns mainGlobals mg)(hfa:mg "law" = some (.ref fa))(A:Facts K) :
  ∃fd:FuncData,(∀(s:Shared) (v:Value),BindsTo s fd ⟨[v],[]⟩ [("script",v)])/\∀base:Heap,K.In base->base.Ns mainGlobals mg->FnOk l.prog w K mg base CX0 11 fa fd ["script"] (LN K):=by
 obtain @⟨f36,oc36,kV36,dc36,pm36,cd36,ct36,od36,an36,sl36,a36,l36,c36,k36⟩:=A.f36;obtain⟨v1⟩:=A.v1;obtain⟨n1a,n1b⟩:=A.n1;obtain⟨n2a,n2b⟩:=A.n2;have e:=hfa.symm.trans (nW X G a36);cases e;have T:Txt mg:={ isi:=mG X G A.z1,len:=mG X G A.z2,int:=mG X G A.z3,bool:=mG X G A.z4,tup:=mG X G A.z5,lst:=mG X G A.z6,abs:=mG X G A.z7,rng:=mG X G A.z8,lbits:=⟨_,nW X G v1⟩,sum:=mG X G A.z9,zip:=mG X G A.z10,sorted:=mG X G A.z11,enum:=mG X G A.z13,dct:=mG X G A.z15,max:=mG X G A.z12,rev:=mG X G A.z14,verr:=mG X G A.z16 };have N:Ngt K mg:=⟨_,nW X G n1a,λH=>.inr ⟨_,_,_,n1b,rfl,rfl,by show 2<=sizeLine;decide,.cons ⟨_,rfl⟩ (.cons ⟨_,rfl⟩ .nil)⟩⟩;have O:One1 K mg:=⟨_,nW X G n2a,λH=>.inr ⟨_,_,_,n2b,rfl,rfl,by show 2<=sizeLine;decide,.cons ⟨_,rfl⟩ (.cons ⟨_,rfl⟩ .nil)⟩⟩;obtain⟨m1,m2,m3,m4,m5,m6,m7,m8,m9,wqo,wqb,wqe,wqa,wqn,wqi,wqk,wqg,wqh,wqc,wqm,wdo,wdb,wde,wda,wdn,wdi,wdk,wdg,wdh,wdc,wdm,iL,iC,iT,iN,iF,up,ve,no⟩:=A.c8;have xq:LwE.XCls K _ _ _ "ValueError.__new__":=⟨⟨_,_,_,_,_,_,_,_,_,_,_,_,_,_,_,wqo⟩,wqb,wqe,wqa,wqn,wqi,iF,wqk,wqg,wqh,wqc,wqm⟩;have xd:LwE.XCls K _ _ _ "ValueError.__new__":=⟨⟨_,_,_,_,_,_,_,_,_,_,_,_,_,_,_,wdo⟩,wdb,wde,wda,wdn,wdi,iF,wdk,wdg,wdh,wdc,wdm⟩;have c8:Cls8 K mg _ _ _ _ _ _ _ _ _ _ _ _:=⟨xq,xd,up,ve,no,nW X G m1,nW X G m2,nW X G m3,nW X G m4,nW X G m5,nW X G m6,nW X G m7,nW X G m8,nW X G m9⟩
 have F36:=KR (st:=JO) l36 c36 k36;obtain⟨f1,d1,D1⟩:=df X G A.f1 ["one","other"] (bd2 rfl λ_ _ _ _ _ _ _ _=>rfl);obtain⟨f2,d2,D2⟩:=df X G A.f2 ["one","other"] (bd2 rfl λ_ _ _ _ _ _ _ _=>rfl);obtain⟨f3,d3,D3⟩:=df X G A.f3 ["one","other"] (bd2 rfl λ_ _ _ _ _ _ _ _=>rfl);obtain⟨f4,d4,D4⟩:=df X G A.f4 ["one","other"] (bd2 rfl λ_ _ _ _ _ _ _ _=>rfl);obtain⟨f5,d5,D5⟩:=df X G A.f5 ["one"] (bd1 rfl λ_ _ _ _ _ _ _=>rfl);obtain⟨f6,d6,D6⟩:=df X G A.f6 ["some"] (bd1 rfl λ_ _ _ _ _ _ _=>rfl);obtain⟨f7,d7,D7⟩:=df X G A.f7 ["one"] (bd1 rfl λ_ _ _ _ _ _ _=>rfl);obtain⟨f8,d8,D8⟩:=df X G A.f8 ["rim","at","count"] (bd3 rfl λ_ _ _ _ _ _ _ _ _=>rfl);obtain⟨f9,d9,D9⟩:=df X G A.f9 ["one","count"] (bd2 rfl λ_ _ _ _ _ _ _ _=>rfl);obtain⟨f10,d10,D10⟩:=df X G A.f10 ["rims"] (bd1 rfl λ_ _ _ _ _ _ _=>rfl);obtain⟨f11,d11,D11⟩:=df X G A.f11 ["up","down","letter"] (bd3 rfl λ_ _ _ _ _ _ _ _ _=>rfl);obtain⟨f12,d12,D12⟩:=df X G A.f12 ["rows","letter","many"] (bd3 rfl λ_ _ _ _ _ _ _ _ _=>rfl);obtain⟨f13,d13,D13⟩:=df X G A.f13 ["rows","many"] (bd2 rfl λ_ _ _ _ _ _ _ _=>rfl);obtain⟨f14,d14,D14⟩:=df X G A.f14 ["numbers","known"] (bd2 rfl λ_ _ _ _ _ _ _ _=>rfl);obtain⟨f15,d15,D15⟩:=df X G A.f15 ["rows","letter","known"] (bd3 rfl λ_ _ _ _ _ _ _ _ _=>rfl);obtain⟨f16,d16,D16⟩:=df X G A.f16 ["found","many","level"] (bd3 rfl λ_ _ _ _ _ _ _ _ _=>rfl);obtain⟨f17,d17,D17⟩:=df X G A.f17 ["row","many","bottom"] (bd3 rfl λ_ _ _ _ _ _ _ _ _=>rfl);obtain⟨f18,d18,D18⟩:=df X G A.f18 ["rows","many"] (bd2 rfl λ_ _ _ _ _ _ _ _=>rfl)
 obtain⟨f19,d19,D19⟩:=df X G A.f19 ["rows","many"] (bd2 rfl λ_ _ _ _ _ _ _ _=>rfl);obtain⟨f20,d20,D20⟩:=df X G A.f20 ["rows","many"] (bd2 rfl λ_ _ _ _ _ _ _ _=>rfl);obtain⟨f21,d21,D21⟩:=df X G A.f21 ["one","rims"] (bd2 rfl λ_ _ _ _ _ _ _ _=>rfl);obtain⟨f22,d22,D22⟩:=df X G A.f22 ["rims"] (bd1 rfl λ_ _ _ _ _ _ _=>rfl);obtain⟨f23,d23,D23⟩:=df X G A.f23 ["one","rims"] (bd2 rfl λ_ _ _ _ _ _ _ _=>rfl);obtain⟨f24,d24,D24⟩:=df X G A.f24 ["one","rims"] (bd2 rfl λ_ _ _ _ _ _ _ _=>rfl);obtain⟨f25,d25,D25⟩:=df X G A.f25 ["tape","many"] (bd2 rfl λ_ _ _ _ _ _ _ _=>rfl);obtain⟨f26,d26,D26⟩:=df X G A.f26 ["top","bottom"] (bd2 rfl λ_ _ _ _ _ _ _ _=>rfl);obtain⟨f27,d27,D27⟩:=df X G A.f27 ["one","other"] (bd2 rfl λ_ _ _ _ _ _ _ _=>rfl);obtain⟨f28,d28,D28⟩:=df X G A.f28 ["found","powers","number"] (bd3 rfl λ_ _ _ _ _ _ _ _ _=>rfl);obtain⟨f29,d29,D29⟩:=df X G A.f29 ["many","one"] (bd2 rfl λ_ _ _ _ _ _ _ _=>rfl);obtain⟨f30,d30,D30⟩:=df X G A.f30 ["tape"] (bd1 rfl λ_ _ _ _ _ _ _=>rfl);obtain⟨f31,d31,D31⟩:=df X G A.f31 ["tape","many"] (bd2 rfl λ_ _ _ _ _ _ _ _=>rfl);obtain⟨f32,d32,D32⟩:=df X G A.f32 ["way","one","rims"] (bd3 rfl λ_ _ _ _ _ _ _ _ _=>rfl);obtain⟨f33,d33,D33⟩:=df X G A.f33 ["way","one","rims"] (bd3 rfl λ_ _ _ _ _ _ _ _ _=>rfl);obtain⟨f34,d34,D34⟩:=df X G A.f34 ["tape","many","one"] (bd3 rfl λ_ _ _ _ _ _ _ _ _=>rfl);obtain⟨f35,d35,D35⟩:=df X G A.f35 ["way","good","word"] (bd3 rfl λ_ _ _ _ _ _ _ _ _=>rfl);refine⟨PySem.W.fnOf "law" "law" (vQ JO) (vG JO) (jL JO) .none kV36 dc36 pm36 an36 cd36 ct36,λs v=>.of_eq rfl,λbase _ _=>?_⟩
 have GI:=WL (P:=l.prog) (w:=w) (base:=base) (mg:=mg) iL iC T;have G_gcd:=KF (P:=l.prog) (w:=w) (base:=base) (mg:=mg) D1.F T;have G_low:=SH (P:=l.prog) (w:=w) (base:=base) (mg:=mg) D26.F T;have G_draw:=MD (P:=l.prog) (w:=w) (base:=base) (mg:=mg) D25.F T;have G_mul:=SG (P:=l.prog) (w:=w) (base:=base) (mg:=mg) D3.F T D1;have G_divN:=WM (P:=l.prog) (w:=w) (base:=base) (mg:=mg) D4.F T D3 D1;have G_addF:=WO (P:=l.prog) (w:=w) (base:=base) (mg:=mg) D2.F T D1;have G_number:=OT (P:=l.prog) (w:=w) (base:=base) (mg:=mg) D30.F T D25 D26;have G_plus:=MC (P:=l.prog) (w:=w) (base:=base) (mg:=mg) D27.F;have G_put:=ok_put (P:=l.prog) (w:=w) (base:=base) (mg:=mg) D28.F D27;have G_lsum:=WH (P:=l.prog) (w:=w) (base:=base) (mg:=mg) D29.F T D26 G_low;have G_rw:=ok_rw (P:=l.prog) (w:=w) (base:=base) (mg:=mg) D14.F T N D2 G_addF D3 G_mul;have G_nr:=ok_nr (P:=l.prog) (w:=w) (base:=base) (mg:=mg) D15.F T N D2 G_addF D3 G_mul D4 G_divN D14 G_rw;have G_spot:=WD (P:=l.prog) (w:=w) (base:=base) (mg:=mg) D16.F T O D15 G_nr;have G_comb:=WN (P:=l.prog) (w:=w) (base:=base) (mg:=mg) D11.F T;have G_tk:=ok_tk (P:=l.prog) (w:=w) (base:=base) (mg:=mg) D12.F T D11 G_comb;have G_stg:=ok_stg (P:=l.prog) (w:=w) (base:=base) (mg:=mg) D13.F T D12 G_tk;have G_whole:=SC (P:=l.prog) (w:=w) (base:=base) (mg:=mg) D7.F T N D4 G_divN;have G_rimrow:=OQ (P:=l.prog) (w:=w) (base:=base) (mg:=mg) D8.F T D7 G_whole;have G_rimrows:=KE (P:=l.prog) (w:=w) (base:=base) (mg:=mg) D10.F T D8 G_rimrow
 have G_degree:=OV (P:=l.prog) (w:=w) (base:=base) (mg:=mg) D5.F T;have G_refb:=WE (P:=l.prog) (w:=w) (base:=base) (mg:=mg) D6.F D5 G_degree;have G_sho:=ok_sho (P:=l.prog) (w:=w) (base:=base) (mg:=mg) D17.F D4 G_divN;have G_brk:=ok_brk (P:=l.prog) (w:=w) (base:=base) (mg:=mg) D18.F D17 G_sho;have G_level:=SI (P:=l.prog) (w:=w) (base:=base) (mg:=mg) D9.F D7 G_whole;have G_tight:=SD (P:=l.prog) (w:=w) (base:=base) (mg:=mg) D19.F;have G_wayd:=WC (P:=l.prog) (w:=w) (base:=base) (mg:=mg) D20.F N D13 G_stg D16 G_spot;have G_lowend:=OU (P:=l.prog) (w:=w) (base:=base) (mg:=mg) D21.F T D6 G_refb D10 G_rimrows D9 G_level D13 G_stg D18 G_brk D19 G_tight D16 G_spot D20 G_wayd D4 G_divN D17 G_sho;have G_line:=WJ (P:=l.prog) (w:=w) (base:=base) (mg:=mg) D31.F T D25 G_draw D30 G_number;have G_kept:=WK (P:=l.prog) (w:=w) (base:=base) (mg:=mg) D22.F N D6 G_refb D10 G_rimrows D13 G_stg D18 G_brk D16 G_spot;have G_over:=WG (P:=l.prog) (w:=w) (base:=base) (mg:=mg) D23.F D21 G_lowend;have G_reach:=SE (P:=l.prog) (w:=w) (base:=base) (mg:=mg) D24.F D21 G_lowend;have G_refX:=WF (P:=l.prog) (w:=w) (base:=base) (mg:=mg) D6.F D5 G_degree c8.q GI (KO rfl iT iN) c8.mq;have G_lowX:=WI (P:=l.prog) (w:=w) (base:=base) (mg:=mg) D21.F D6 G_refX;have G_keptX:=SJ (P:=l.prog) (w:=w) (base:=base) (mg:=mg) D22.F D6 G_refX;have G_overX:=SF (P:=l.prog) (w:=w) (base:=base) (mg:=mg) D23.F D21 G_lowX;have G_reachX:=OR (P:=l.prog) (w:=w) (base:=base) (mg:=mg) D24.F D21 G_lowX
 have G_called:=OW (P:=l.prog) (w:=w) (base:=base) (mg:=mg) D32.F D22 G_kept G_keptX D23 G_over G_overX D24 G_reach G_reachX;have G_word:=WB (P:=l.prog) (w:=w) (base:=base) (mg:=mg) D33.F T D32 G_called c8;have G_wr:=ok_wr (P:=l.prog) (w:=w) (base:=base) (mg:=mg) D35.F;have G_raised:=OS (P:=l.prog) (w:=w) (base:=base) (mg:=mg) D34.F T D25 G_draw D28 G_put;exact ok_law F36 T D25 G_draw D29 G_lsum D31 G_line D34 G_raised D33 G_word D35 G_wr
theorem walk{l:PySem.W.OpenLaw}{q:Program}{loose:List Str}{XP:(Str->Option Value)->Heap->Prop}{YP:World->Heap->Prop}{d:DefRec}{K:Params->tX}(hn:l.most=some 63)(hdf:d.params.defaults=[])
  (hY:∀(w:World) (h:Heap),YP w h->(K w.params).In h)
  (F:∀(w:World) (mg:Str->Option Value) (fa:Addr) (h:Heap),(K w.params).In h->h.Ns mainGlobals mg->mg d.name=some (.ref fa)->
   ∃fd:FuncData,(∀(s:Shared) (u:Value),BindsTo s fd ⟨[u],[]⟩ [("script",u)])/\∀base:Heap,(K w.params).In base->base.Ns mainGlobals mg->FnOk l.prog w (K w.params) mg base CX0 11 fa fd ["script"] (LN (K w.params))) :
  PySem.W.WalkO q loose XP YP l.row.toRowW d [] (λf vs=>PySem.call f vs):=
 L2.VD (n:=63) (k:=11) (x:="script") (CX:=λ_=>CX0) (sp:=λw=>LN (K w.params)) hn (by decide) hdf ⟨rfl,by decide,by decide⟩ hY F (λ_ _ a ns hl _ hS=>⟨a,ns,rfl,hS,hl,λ_=>rfl⟩) λ_ _ _ _ _ z=>z
end Lw
open PySem PySem.W PyProof.Rows
set_option maxRecDepth 100000 in
theorem PySem.Challenge.cw_lowwater_k35_not_straight_holds : PySem.Challenge.rw_lowwater_k35_not_straight.Holds := by
 refine Lw.head λK YP d A hY hd hn=>Lw.walk (l:=PySem.Challenge.rw_lowwater_k35_not_straight) rfl hd hY λw mg fa h KX G hmg=>?_;rw[hn]at hmg;exact Lw.all_mk KX G hmg (A w.params)
end
