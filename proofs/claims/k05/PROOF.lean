import PyProof.Rows.All
import Wide.All
import OpenK.AllK
import Wide.FinOn
import Lean
import PyProof.EqAt
import PyProof.EqKinds
import PyProof.TupleCall
import PySem.Challenge.RW_lowwater_k05_sums_added_and_multiplied
set_option Elab.async false
set_option linter.all false
set_option compiler.extract_closed false
set_option genSizeOfSpec false
set_option maxRecDepth 100000
set_option maxHeartbeats 4000000
noncomputable section
section
open PySem PySem.Spec PyProof PyProof.Rows
theorem uU{n:Nat}:n<=n:=Nat.le_refl n
theorem uV:0<=sizeLine:=by decide
theorem uW:1<=sizeLine:=by decide
theorem uX:2<=sizeLine:=by decide
theorem uY:type_of%@List.getD_eq_getElem?_getD:=@List.getD_eq_getElem?_getD
theorem uZ:type_of%@List.getElem?_append_right:=@List.getElem?_append_right
theorem gA:type_of%@Classical.byContradiction:=@Classical.byContradiction
theorem gB:type_of%@List.getElem?_eq_some_iff:=@List.getElem?_eq_some_iff
theorem gC:type_of%@List.getElem?_append_left:=@List.getElem?_append_left
theorem gD:type_of%@List.getElem?_eq_getElem:=@List.getElem?_eq_getElem
theorem gE:type_of%@List.getElem?_take_of_lt:=@List.getElem?_take_of_lt
theorem gF:type_of%@Int.eq_ofNat_of_zero_le:=@Int.eq_ofNat_of_zero_le
theorem gH:type_of%@Heap.get?_push_of_some:=@Heap.get?_push_of_some
theorem gI:type_of%@List.take_of_length_le:=@List.take_of_length_le
theorem gJ:type_of%@List.mem_append_right:=@List.mem_append_right
theorem gK:type_of%@List.length_replicate:=@List.length_replicate
theorem gL:type_of%@List.mem_iff_getElem?:=@List.mem_iff_getElem?
theorem gM:type_of%@List.mem_of_getElem?:=@List.mem_of_getElem?
theorem gN:type_of%@List.mem_cons_of_mem:=@List.mem_cons_of_mem
theorem gO:type_of%@Nat.pow_le_pow_right:=@Nat.pow_le_pow_right
theorem gP:type_of%@Nat.pow_lt_pow_right:=@Nat.pow_lt_pow_right
theorem gQ:type_of%@Nat.mul_le_mul_right:=@Nat.mul_le_mul_right
theorem gR:type_of%@List.mem_of_mem_take:=@List.mem_of_mem_take
theorem gT:type_of%@Heap.get?_push_size:=@Heap.get?_push_size
theorem gU:type_of%@Nat.lt_of_le_of_lt:=@Nat.lt_of_le_of_lt
theorem gW:type_of%@Bool.false_ne_true:=@Bool.false_ne_true
theorem gX:type_of%@Nat.lt_of_lt_of_le:=@Nat.lt_of_lt_of_le
theorem gY:type_of%@List.mem_singleton:=@List.mem_singleton
theorem gZ:type_of%@List.mem_cons_self:=@List.mem_cons_self
theorem hJ:type_of%@PySem.W.mg_none_of:=@PySem.W.mg_none_of
theorem hU:type_of%@List.getElem?_map:=@List.getElem?_map
theorem hV:type_of%@List.size_toArray:=@List.size_toArray
theorem hW:type_of%@List.take_add_one:=@List.take_add_one
theorem hX:type_of%@of_decide_eq_true:=@of_decide_eq_true
theorem mB:type_of%@List.nodup_append:=@List.nodup_append
theorem mC:type_of%@Int.gcd_dvd_right:=@Int.gcd_dvd_right
theorem mD:type_of%@List.length_take:=@List.length_take
theorem mF:type_of%@List.not_mem_nil:=@List.not_mem_nil
theorem mG:type_of%@List.take_length:=@List.take_length
theorem mH:type_of%@List.length_cons:=@List.length_cons
theorem mI:type_of%@Bool.and_eq_true:=@Bool.and_eq_true
theorem mJ:type_of%@Int.gcd_dvd_left:=@Int.gcd_dvd_left
theorem mK:type_of%@List.filter_cons:=@List.filter_cons
theorem mL:type_of%@List.length_map:=@List.length_map
theorem mM:type_of%@List.map_append:=@List.map_append
theorem mN:type_of%@decide_eq_false:=@decide_eq_false
theorem mO:type_of%@List.mem_append:=@List.mem_append
theorem mP:type_of%@decide_eq_true:=@decide_eq_true
theorem mQ:type_of%@Int.natAbs_mul:=@Int.natAbs_mul
theorem mR:type_of%@List.mem_range:=@List.mem_range
theorem mS:type_of%@Nat.mul_le_mul:=@Nat.mul_le_mul
theorem mT:type_of%@Int.natAbs_neg:=@Int.natAbs_neg
theorem mU:type_of%@List.nodup_nil:=@List.nodup_nil
theorem mV:type_of%@Heap.size_push:=@Heap.size_push
theorem mW:type_of%@List.map_cons:=@List.map_cons
theorem mX:type_of%@List.mem_cons:=@List.mem_cons
theorem mY:type_of%@Nat.lt_irrefl:=@Nat.lt_irrefl
theorem mZ:type_of%@List.sum_cons:=@List.sum_cons
theorem nA:type_of%@List.map_take:=@List.map_take
theorem nH:type_of%@PySem.W.mg_of:=@PySem.W.mg_of
theorem nJ:type_of%@Heap.lt_size:=@Heap.lt_size
theorem nN:type_of%@Nat.le_trans:=@Nat.le_trans
theorem nO:type_of%@Nat.ne_of_lt:=@Nat.ne_of_lt
theorem nP:type_of%@List.mem_map:=@List.mem_map
theorem nQ:type_of%@Rat.add_zero:=@Rat.add_zero
theorem nT:type_of%@List.map_map:=@List.map_map
theorem nU:type_of%@Nat.le_of_lt:=@Nat.le_of_lt
theorem nV:type_of%@Nat.add_zero:=@Nat.add_zero
theorem nW:type_of%@Int.mul_comm:=@Int.mul_comm
theorem nX:type_of%@Nat.le_refl:=@Nat.le_refl
theorem nY:type_of%@Nat.zero_le:=@Nat.zero_le
theorem nZ:type_of%@Int.mul_pos:=@Int.mul_pos
theorem tD:type_of%@Int.le_refl:=@Int.le_refl
theorem tF:type_of%@wpAny_bind:=@wpAny_bind
theorem tG:type_of%@wpAny_pure:=@wpAny_pure
theorem tH:type_of%@wpAny_mono:=@wpAny_mono
theorem tJ:type_of%@if_neg:=@if_neg
theorem tK:type_of%@if_pos:=@if_pos
abbrev tL:=PySem.W.Frag
end
namespace L2
open PySem PySem.Spec PyProof.Rows
def inClass(s:Stmt)(j:Nat):Stmt:=match s with
 | .ClassDef _ _ _ body _ _ _ _ _ _ _=>body.getD j (.Pass ⟨0,0,0,0⟩)
 | _=>.Pass ⟨0,0,0,0⟩
def vY(s:Stmt):Arguments:=match s with
 | .FunctionDef _ a _ _ _ _ _ _ _ _=>a
 | _=>{ posonlyargs:=[],args:=[],vararg:=none,kwonlyargs:=[],kw_defaults:=[],kwarg:=none,defaults:=[] }
def vM(s:Stmt):List Stmt:=match s with
 | .FunctionDef _ _ b _ _ _ _ _ _ _=>b
 | _=>[]
def jK(s:Stmt):Scope:=match s with
 | .FunctionDef _ _ _ _ _ _ sc _ _ _=>sc
 | _=>{ kind:=.function,names:=[],isGenerator:=false,isCoroutine:=false }
end L2
namespace Lw
open PySem PySem.Spec PyProof.Rows L2
def top(i:Nat):Stmt:=PySem.Challenge.pw_lowwater_k05_sums_added_and_multiplied.main.body.getD i (.Pass ⟨0,0,0,0⟩)
abbrev RW:Stmt:=top 15
abbrev JT:Stmt:=top 16
abbrev RU:Stmt:=top 17
abbrev VI:Stmt:=top 18
abbrev wP:Stmt:=top 25
abbrev uO:Stmt:=top 26
abbrev OI:Stmt:=top 27
abbrev zP:Stmt:=top 28
abbrev yE:Stmt:=top 29
abbrev uN:Stmt:=top 30
abbrev OM:Stmt:=top 31
abbrev IC:Stmt:=top 32
abbrev uM:Stmt:=top 33
abbrev DZ:Stmt:=top 34
abbrev DY:Stmt:=top 35
abbrev BX:Stmt:=top 36
abbrev IA:Stmt:=top 37
abbrev BC:Stmt:=top 39
abbrev RV:Stmt:=top 40
abbrev OL:Stmt:=top 41
abbrev FO:Stmt:=top 42
abbrev RT:Stmt:=top 43
abbrev EB:Stmt:=top 44
abbrev OK:Stmt:=top 45
abbrev zQ:Stmt:=top 46
abbrev FN:Stmt:=top 47
abbrev BY:Stmt:=top 48
abbrev yP:Stmt:=top 49
abbrev IE:Stmt:=top 50
abbrev OJ:Stmt:=top 51
abbrev EA:Stmt:=top 52
abbrev VH:Stmt:=top 53
abbrev BW:Stmt:=top 54
abbrev ON:Stmt:=top 55
abbrev IB:Stmt:=top 56
abbrev BV:Stmt:=top 57
abbrev ID:Stmt:=top 58
abbrev MD:Stmt:=top 59
inductive FnAt(K:tL)(x:Str)(st:Stmt):Prop
 | mk {f:Addr} {oc kV dc pm cd ct:Value} {od an:Option Addr} {sl:Array (Option Value)} (a:PySem.W.nsIn K mainGlobals x=some (some (.ref f))) (l:K.lookup f=some ⟨oc,od,.func (PySem.W.fnOf x x (vY st) (vM st) (jK st) .none kV dc pm an cd ct),sl⟩) (c:PySem.W.codeIn K cd x=true) (k:PySem.W.keepIn K (.ref f)=true)
inductive PrAt(K:tL)(x:Str)(i j:Int):Prop
 | mk {f:Addr} {od:Option Addr} {sl:Array (Option Value)} {t u:Tok} {n:Nat} (a:PySem.W.nsIn K mainGlobals x=some (some (.ref f))) (l:K.lookup f=some ⟨.type "tuple",od,.seq #[.int i t,.int j u] n,sl⟩)
inductive IntAt(K:tL)(x:Str)(i:Int):Prop
 | mk {t:Tok} (a:PySem.W.nsIn K mainGlobals x=some (some (.int i t)))
abbrev zS:Stmt:=inClass (top 1) 0
inductive C8At(K:tL)(st:Stmt):Prop
 | mk {fI tI cq cD e1 e2 e3 e4 e5 e6 e7 Nq Nd:Addr} {odI anI odt:Option Addr} {slI slt:Array (Option Value)} {itt:Array Value} {nt:Nat} {ocI kVI dcI pmI cdI ctI oct:Value} {bl bd:List Value}
  (m1:PySem.W.nsIn K mainGlobals "TooGreat" = some (some (.ref cq)))
  (m2:PySem.W.nsIn K mainGlobals "LowwaterError" = some (some (.ref cD)))
  (m3:PySem.W.nsIn K mainGlobals "NoLine" = some (some (.ref e1)))
  (m4:PySem.W.nsIn K mainGlobals "NoQuotient" = some (some (.ref e2)))
  (m5:PySem.W.nsIn K mainGlobals "NoRow" = some (some (.ref e3)))
  (m6:PySem.W.nsIn K mainGlobals "NoText" = some (some (.ref e4)))
  (m7:PySem.W.nsIn K mainGlobals "NotSecond" = some (some (.ref e5)))
  (m8:PySem.W.nsIn K mainGlobals "NotStraight" = some (some (.ref e6)))
  (m9:PySem.W.nsIn K mainGlobals "TooMany" = some (some (.ref e7)))
  {nmq qnq:Str} {bsq subq:List Value} {hdq abq:Bool} {snq:List Str} {colq:Option Bool} {ddq:Option Addr} {x0q x1q x2q x3q x5q:Option Value}
  (wqo:K.lookup cq=some (excClassObj nmq qnq cq Nq bsq bl hdq snq subq abq colq ddq x0q x1q x2q x3q x5q "ValueError.__new__"))
  (wqb:bl.contains (.type "ValueError")=true)
  (wqe:bl.contains (.type "BaseException")=true)
  (wqa:bl.contains (.type "AttributeError")=false)
  (wqn:bl.contains (.type "NameError")=false)
  (wqi:PySem.W.findIn K (.ref cq) "__init__" = some (some (.ref fI)))
  (wqk:PySem.W.keepIn K (.ref cq)=true)
  (wqg:PySem.W.findIn K (.ref cq) "__getattribute__" = some (some (.builtin "BaseException.__getattribute__")))
  (wqh:PySem.W.findIn K (.ref cq) "__getattr__" = some none)
  (wqc:PySem.W.findIn K (.ref cq) "__class__" = some (some (.builtin "object.__class__")))
  (wqm:PySem.W.mroIn K cq (.type "object")=some true)
  {nmd qnd:Str} {bsd subd:List Value} {hdd abd:Bool} {snd:List Str} {cold:Option Bool} {ddd:Option Addr} {x0d x1d x2d x3d x5d:Option Value}
  (wdo:K.lookup cD=some (excClassObj nmd qnd cD Nd bsd bd hdd snd subd abd cold ddd x0d x1d x2d x3d x5d "ValueError.__new__"))
  (wdb:bd.contains (.type "ValueError")=true)
  (wde:bd.contains (.type "BaseException")=true)
  (wda:bd.contains (.type "AttributeError")=false)
  (wdn:bd.contains (.type "NameError")=false)
  (wdi:PySem.W.findIn K (.ref cD) "__init__" = some (some (.ref fI)))
  (wdk:PySem.W.keepIn K (.ref cD)=true)
  (wdg:PySem.W.findIn K (.ref cD) "__getattribute__" = some (some (.builtin "BaseException.__getattribute__")))
  (wdh:PySem.W.findIn K (.ref cD) "__getattr__" = some none)
  (wdc:PySem.W.findIn K (.ref cD) "__class__" = some (some (.builtin "object.__class__")))
  (wdm:PySem.W.mroIn K cD (.type "object")=some true)
  (iL:K.lookup fI=some ⟨ocI,odI,.func (PySem.W.fnOf "__init__" "LowwaterError.__init__" (vY st) (vM st) (jK st) (.ref tI) kVI dcI pmI anI cdI ctI),slI⟩)
  (iC:PySem.W.codeIn K cdI "LowwaterError.__init__" = true)
  (iT:K.lookup tI=some ⟨oct,odt,.seq itt nt,slt⟩)
  (iN:itt.size=1)
  (iF:PySem.W.typeIn K (.ref fI)=some (.type "function"))
  (up:bl.contains (.ref cD)=true)
  (ve:PySem.W.kitOne K (.ref cq) (.type "ValueError")=some true)
  (no:PySem.W.kitAny K (.ref cq) [.ref e1,.ref e2,.ref e3,.ref e4,.ref e5,.ref e6,.ref e7]=some false)
  (nn:PySem.W.kitAny K (.type "NoneType") [.ref e1,.ref e2,.ref e3,.ref e4,.ref e5,.ref e6,.ref e7]=some false)
structure Facts(K:tL):Prop where
 f1:FnAt K "greatest_divisor" RW
 f2:FnAt K "added" JT
 f3:FnAt K "multiplied" RU
 f4:FnAt K "divided" VI
 f5:FnAt K "degree" wP
 f6:FnAt K "packed" uO
 f7:FnAt K "unpacked" OI
 f8:FnAt K "table_of" zP
 f9:FnAt K "sum_of" yE
 f10:FnAt K "tables_added" uN
 f11:FnAt K "levelled" OM
 f12:FnAt K "heap_total" IC
 f13:FnAt K "tables_multiplied" uM
 f14:FnAt K "plus" DZ
 f15:FnAt K "times" DY
 f16:FnAt K "scaled" BX
 f17:FnAt K "slope" IA
 f18:FnAt K "_law_draw" BC
 f19:FnAt K "_law_low" RV
 f20:FnAt K "_law_plus" OL
 f21:FnAt K "_law_mul" FO
 f22:FnAt K "_law_put" RT
 f23:FnAt K "_law_added" EB
 f24:FnAt K "_law_product" OK
 f25:FnAt K "_law_scaled" zQ
 f26:FnAt K "_law_sum" FN
 f27:FnAt K "_law_number" BY
 f28:FnAt K "_law_fraction" yP
 f29:FnAt K "_law_drawn" IE
 f30:FnAt K "_law_too_great" OJ
 f31:FnAt K "_law_asked" EA
 f32:FnAt K "_law_due" VH
 f33:FnAt K "_law_sloped" BW
 f34:FnAt K "_law_grid" ON
 f35:FnAt K "_law_rows" IB
 f36:FnAt K "_law_whole_parts" BV
 f37:FnAt K "_law_great_right" ID
 f38:FnAt K "law" MD
 z1:PySem.W.nsIn K mainGlobals "isinstance" = some none
 z2:PySem.W.nsIn K mainGlobals "len" = some none
 z3:PySem.W.nsIn K mainGlobals "int" = some none
 z4:PySem.W.nsIn K mainGlobals "bool" = some none
 z5:PySem.W.nsIn K mainGlobals "tuple" = some none
 z6:PySem.W.nsIn K mainGlobals "list" = some none
 z7:PySem.W.nsIn K mainGlobals "abs" = some none
 z8:PySem.W.nsIn K mainGlobals "range" = some none
 z9:PySem.W.nsIn K mainGlobals "sum" = some none
 z10:PySem.W.nsIn K mainGlobals "zip" = some none
 z11:PySem.W.nsIn K mainGlobals "sorted" = some none
 z12:PySem.W.nsIn K mainGlobals "max" = some none
 z13:PySem.W.nsIn K mainGlobals "enumerate" = some none
 z14:PySem.W.nsIn K mainGlobals "reversed" = some none
 z15:PySem.W.nsIn K mainGlobals "dict" = some none
 z16:PySem.W.nsIn K mainGlobals "ValueError" = some none
 v1:IntAt K "LONG_BITS" 8000
 v2:IntAt K "MOST_DEGREE" 16
 v3:IntAt K "MOST_TERMS" 500
 v4:IntAt K "PACK" 256
 v5:IntAt K "SHORT_BITS" 1500
 n1:PrAt K "NOUGHT" 0 1
 c8:C8At K zS
end Lw
section
open PySem PySem.W PyProof.Rows
namespace Lw
def view05:Program:={ PySem.Challenge.pw_lowwater_k05_sums_added_and_multiplied with main:={ PySem.Challenge.pw_lowwater_k05_sums_added_and_multiplied.main with body:=([1,2,3,4,5,6,7,8,9,11,12,13,14,15,16,17,18,20,21,22,23,24,25,26,27,28,29,30,31,32,33,34,35,36,37,39,40,41,42,43,44,45,46,47,48,49,50,51,52,53,54,55,56,57,58,59]:List Nat).filterMap λi=>PySem.Challenge.pw_lowwater_k05_sums_added_and_multiplied.main.body[i]? } }
end Lw
set_option maxRecDepth 100000 in
set_option maxHeartbeats 0 in
theorem Lw.said:OpenLaw.wellSaid PySem.Challenge.rw_lowwater_k05_sums_added_and_multiplied=true:=by kernel_rfl
local macro_rules | `(tactic| o_law)=>`(tactic| refine holds_law Lw.said λsaid=>?_)
local macro_rules | `(tactic| o_head $H)=>`(tactic| refine holds_open (q:=Lw.view05) (loose:=[Str.ofString "LowwaterError"]) (Xt:=λs=>xlAt Lw.view05 [] s&&recOk (RowW.records (PySem.Challenge.rw_lowwater_k05_sums_added_and_multiplied).row.toRowW) s) (XP:=XL Lw.view05 []) (Yf:=Hook.obs $H) (Ya:=Hook.val $H) (YP:=Hook.says $H) (N:=6772) (λw=>by unfold openEnds fencedOpening topFrom;rw[PySem.W.Fast.te10274390034422433532,PySem.W.Fast.te14082659384304107361,PySem.W.Fast.te1435165496053646825,PySem.W.Fast.te14289696077712309145,PySem.W.Fast.te8920871248978507458,PySem.W.Fast.te14364793385576792824,PySem.W.Fast.te4187177175401517315];kernel_rfl) (Hook.of $H) (Hook.keeps $H) (λs e=>xl_of s (Bool.and_eq_true_iff.mp e).1) XL.keeps (by rfl) (by rfl) (by rfl) (λs e=>recFacts_of (Bool.and_eq_true_iff.mp e).2) (by rfl) (by first | assumption | decide +kernel) (by decide +kernel) ⟨rfl,rfl,rfl,rfl,rfl,by decide +kernel⟩ ?hw ?hc)
set_option maxRecDepth 100000 in
set_option maxHeartbeats 0 in
theorem Lw.head(hn:∀(K:Params->Frag) (YP:World->Heap->Prop) (d:DefRec),(∀p,Lw.Facts (K p))->(∀w h,YP w h->(K w.params).In h)->d.params.defaults=[]->d.name="law"->WalkO Lw.view05 [Str.ofString "LowwaterError"] (XL Lw.view05 []) YP PySem.Challenge.rw_lowwater_k05_sums_added_and_multiplied.row.toRowW d [] λf vs=>PySem.call f vs):PySem.Challenge.rw_lowwater_k05_sums_added_and_multiplied.Holds:=by
 w_on;o_law;k_head;(case hw=>w_witness2)
 k_fill
 refine hn _ _ _ ?f (λw h Y=>kIn_of Y) rfl rfl;case f=>
  intro p;constructor;case c8=>
   refine' .mk ?m1 ?m2 ?m3 ?m4 ?m5 ?m6 ?m7 ?m8 ?m9 ?wqo ?wqb ?wqe ?wqa ?wqn ?wqi ?wqk ?wqg ?wqh ?wqc ?wqm ?wdo ?wdb ?wde ?wda ?wdn ?wdi ?wdk ?wdg ?wdh ?wdc ?wdm ?iL ?iC ?iT ?iN ?iF ?up ?ve ?no ?nn
   (case m1=>first | k_is | rfl | decide +kernel)
   (case m2=>first | k_is | rfl | decide +kernel)
   (case m3=>first | k_is | rfl | decide +kernel)
   (case m4=>first | k_is | rfl | decide +kernel)
   (case m5=>first | k_is | rfl | decide +kernel)
   (case m6=>first | k_is | rfl | decide +kernel)
   (case m7=>first | k_is | rfl | decide +kernel)
   (case m8=>first | k_is | rfl | decide +kernel)
   (case m9=>first | k_is | rfl | decide +kernel)
   (case wqo=>first | k_is | rfl | decide +kernel)
   (case wqb=>first | k_is | rfl | decide +kernel)
   (case wqe=>first | k_is | rfl | decide +kernel)
   (case wqa=>first | k_is | rfl | decide +kernel)
   (case wqn=>first | k_is | rfl | decide +kernel)
   (case wqi=>first | k_is | rfl | decide +kernel)
   (case wqk=>first | k_is | rfl | decide +kernel)
   (case wqg=>first | k_is | rfl | decide +kernel)
   (case wqh=>first | k_is | rfl | decide +kernel)
   (case wqc=>first | k_is | rfl | decide +kernel)
   (case wqm=>first | k_is | rfl | decide +kernel)
   (case wdo=>first | k_is | rfl | decide +kernel)
   (case wdb=>first | k_is | rfl | decide +kernel)
   (case wde=>first | k_is | rfl | decide +kernel)
   (case wda=>first | k_is | rfl | decide +kernel)
   (case wdn=>first | k_is | rfl | decide +kernel)
   (case wdi=>first | k_is | rfl | decide +kernel)
   (case wdk=>first | k_is | rfl | decide +kernel)
   (case wdg=>first | k_is | rfl | decide +kernel)
   (case wdh=>first | k_is | rfl | decide +kernel)
   (case wdc=>first | k_is | rfl | decide +kernel)
   (case wdm=>first | k_is | rfl | decide +kernel)
   (case iL=>first | k_is | rfl | decide +kernel)
   (case iC=>first | k_is | rfl | decide +kernel)
   (case iT=>first | k_is | rfl | decide +kernel)
   (case iN=>first | k_is | rfl | decide +kernel)
   (case iF=>first | k_is | rfl | decide +kernel)
   (case up=>first | k_is | rfl | decide +kernel)
   (case ve=>first | k_is | rfl | decide +kernel)
   (case no=>first | k_is | rfl | decide +kernel)
   (case nn=>first | k_is | rfl | decide +kernel)
  all_goals first | (refine' .mk ?a ?l ?c ?k;(case a=>k_is);(case l=>k_is);(case c=>k_is);(case k=>k_is)) | (refine' .mk ?a ?l;(case a=>k_is);(case l=>k_is)) | (refine' .mk ?v;(case v=>k_is)) | k_is
end
set_option hygiene false in
local macro_rules|`(#[0])=>`(by omega)|`(#[1])=>`(by decide)|`(#[2])=>`(model X.prog X.w)|`(#[3])=>`(λcdv A outer s H vs Q E hr h=>?_)|`(#[4])=>`(model prog w)
namespace L2
open PySem PySem.Spec PyProof.Rows
abbrev Key:=Sum Int Str
def EQ:Key->Value->Bool
 | .inl k,v=>Value.isInt k v
 | .inr x,v=>Value.isStrOf x v
def keyH(w:World):Key->Int
 | .inl k=>hashInt k
 | .inr x=>hashStr w x
theorem qB:∀{k:Key} {v:Value},EQ k v=true->(∃i t,k=Sum.inl i/\v=Value.int i t)∨(∃x t,k=Sum.inr x/\v=Value.str x t)
 | .inl i,v,h=>by
  obtain⟨t,e⟩:=Value.isInt_shape (k:=i) (v:=v) h;exact .inl ⟨i,t,rfl,e⟩
 | .inr x,v,h=>by
  obtain⟨t,e⟩:=Value.isStrOf_shape (x:=x) (v:=v) h;exact .inr ⟨x,t,rfl,e⟩
theorem SW(i:Int)(t:Tok):EQ (.inl i) (.int i t)=true:=by simp [EQ,Value.isInt]
theorem SV(x:Str)(t:Tok):EQ (.inr x) (.str x t)=true:=by simp [EQ,Value.isStrOf]
theorem key_ll(a b:Int):decide ((Sum.inl a:Key)=Sum.inl b)=(a==b):=by
 by_cases e:a=b
 ·subst e;simp
 ·have h:¬(Sum.inl a:Key)=Sum.inl b:=λq=>e (Sum.inl.inj q);rw[mN h];exact(beq_eq_false_iff_ne.mpr e).symm
theorem key_rr(a b:Str):decide ((Sum.inr a:Key)=Sum.inr b)=decide (a=b):=by
 by_cases e:a=b
 ·subst e;simp
 ·have h:¬(Sum.inr a:Key)=Sum.inr b:=λq=>e (Sum.inr.inj q);rw[mN h,mN e]
theorem key_lr(a:Int)(b:Str):decide ((Sum.inl a:Key)=Sum.inr b)=false:=mN (λq=>nomatch q)
theorem key_rl(a:Str)(b:Int):decide ((Sum.inr a:Key)=Sum.inl b)=false:=mN (λq=>nomatch q)
def kC(prog:Program)(w:World):PySem.KeyKind prog w Key where
 is:=EQ
 hash:=keyH w
 inj:=λv a b ha hb=>by
  rcases qB ha with⟨i,t,rfl,rfl⟩ | ⟨x,t,rfl,rfl⟩
  ·rcases qB hb with⟨j,u,rfl,e⟩ | ⟨y,u,rfl,e⟩
   ·injection e with e1 _;rw[e1]
   ·exact nomatch e
  ·rcases qB hb with⟨j,u,rfl,e⟩ | ⟨y,u,rfl,e⟩
   ·exact nomatch e
   ·injection e with e1 _;rw[e1]
 byValue:=λk v h=>by
  rcases qB h with⟨i,t,rfl,rfl⟩ | ⟨x,t,rfl,rfl⟩<;>rfl
 pyHash:=λhv h=>by
  rcases qB hv with⟨i,t,rfl,rfl⟩ | ⟨x,t,rfl,rfl⟩
  ·exact wpAny_pyHash_int h
  ·exact wpAny_pyHash_str h
 eqBool:=λhu hv h=>by
  rcases qB hu with⟨i,t,rfl,rfl⟩ | ⟨x,t,rfl,rfl⟩
  ·rcases qB hv with⟨j,u,rfl,rfl⟩ | ⟨y,u,rfl,rfl⟩
   ·rw[key_ll]at h;exact wpAny_eqBool_int h
   ·rw[key_lr]at h;exact SeqAt.EqAt.int_str i t y u _ _ _ _ h
  ·rcases qB hv with⟨j,u,rfl,rfl⟩ | ⟨y,u,rfl,rfl⟩
   ·rw[key_rl]at h;exact SeqAt.EqAt.str_int x t j u _ _ _ _ h
   ·rw[key_rr]at h;exact wpAny_eqBool_str h
 «strs» :=λk x t v h=>by
  rcases qB h with⟨i,u,rfl,e⟩ | ⟨y,u,rfl,e⟩
  ·exact nomatch e
  ·injection e with e1 _
   subst e1;cases v<;>rfl
theorem KN(prog:Program)(w:World)(i:Int)(t:Tok):(kC prog w).is (.inl i) (.int i t)=true:=SW i t
theorem KM(prog:Program)(w:World)(x:Str)(t:Tok):(kC prog w).is (.inr x) (.str x t)=true:=SV x t
inductive V where
 | non | bl (b:Bool) | int (i:Int) | str (x:Str) | byt (b:Array UInt8) | flt (b:UInt64) | ref (a:Addr) | ty (n:String)
 deriving DecidableEq
def RelV:V->Value->Prop
 | .non,u=>u=Value.none
 | .bl b,u=>u=Value.bool b
 | .int i,u=>∃t,u=Value.int i t
 | .str x,u=>∃t,u=Value.str x t
 | .byt b,u=>∃t,u=Value.bytes b t
 | .flt b,u=>∃t,u=Value.float b t
 | .ref a,u=>u=Value.ref a
 | .ty n,u=>u=Value.type n
abbrev Vals:List V->List Value->Prop:=Paired RelV
theorem Vals.length{xs:List V}{us:List Value}(r:Vals xs us):xs.length=us.length:=Paired.length r
theorem Vals.get:∀{xs:List V} {us:List Value} {i:Nat} {x:V},Vals xs us->xs[i]? = some x->∃u,us[i]? = some u/\RelV x u
 | _,_,_,_,.nil,e=>by simp at e
 | _,_,0,_,.cons r _,e=>by simp at e;subst e;exact⟨_,rfl,r⟩
 | _,_,i+1,x,.cons _ t,e=>by
  obtain⟨u,h1,h2⟩:=Vals.get (i:=i) (x:=x) t (by simpa using e);exact⟨u,by simpa using h1,h2⟩
theorem Vals.set{x:V}{u:Value}(r:RelV x u):∀{xs:List V} {us:List Value} (i:Nat),Vals xs us->Vals (xs.set i x) (us.set i u)
 | _,_,_,.nil=>.nil
 | _,_,0,.cons _ t=>.cons r t
 | _,_,i+1,.cons q t=>.cons q (Vals.set r i t)
theorem Vals.append:∀{xs ys:List V} {us ws:List Value},Vals xs us->Vals ys ws->Vals (xs++ys) (us++ws)
 | _,_,_,_,.nil,s=>s
 | _,_,_,_,.cons r t,s=>.cons r (Vals.append t s)
theorem Vals.take:∀{xs:List V} {us:List Value} (n:Nat),Vals xs us->Vals (xs.take n) (us.take n)
 | _,_,0,_=>.nil
 | _,_,_+1,.nil=>.nil
 | _,_,n+1,.cons r t=>.cons r (Vals.take n t)
theorem Vals.drop:∀{xs:List V} {us:List Value} (n:Nat),Vals xs us->Vals (xs.drop n) (us.drop n)
 | _,_,0,r=>r
 | _,_,_+1,.nil=>.nil
 | _,_,n+1,.cons _ t=>Vals.drop n t
def RelO:Option V->Option Value->Prop
 | some v,some u=>RelV v u
 | none,none=>True
 | _,_=>False
def KV{κ:Type} :List (κ×V)->List (κ×Value)->Prop:=Paired λ(p:κ×V) (q:κ×Value)=>p.1=q.1/\RelV p.2 q.2
def kV:Key->V
 | .inl i=>.int i
 | .inr x=>.str x
inductive HO where
 | lst (xs:List V)
 | tup (xs:List V)
 | dK (ah:List (Key×V)) | dT (ah:List (List Key×V))
 | set (S:Int->Bool) (n:Nat)
 | ins (C dx:Addr) (fs:List (Str×V))
 | own (x:Addr)
 | xd (fs:List (Str×V))
 | met (f x:Addr)
 | rng (lo hi:Int)
 | frz (o:Obj) (u:HO)
 | tbl (ps:Array Value)
 | ext (φ:Heap->Prop)
abbrev Hp:=Addr->Option HO
def upd(H:Hp)(a:Addr)(o:HO):Hp:=λb=>if b=a then some o else H b
theorem jE{H:Hp}{a:Addr}{o:HO} :upd H a o a=some o:=by unfold upd;rw[tK rfl]
theorem jG{H:Hp}{a b:Addr}{o:HO}(h:b≠a):upd H a o b=H b:=by unfold upd;rw[tJ h]
theorem ne_of{H:Hp}{a b:Addr}{o u:HO}(h:H a=some o)(h':H b=some u)(d:o≠u):a≠b:=by
 intro e;subst e;rw[h]at h';exact d (Option.some.inj h')
theorem jQ{H:Hp}{a b:Addr}{o:HO}(h:H a=some o)(h':H b=none):a≠b:=by
 intro e;subst e;rw[h]at h';cases h'
def NoD(h:Heap)(a:Addr):Prop:=∀o,h.get? a=some o->o.dict=none
theorem NoD.of{h:Heap}{a:Addr}{o:Obj}(e:h.get? a=some o)(d:o.dict=none):NoD h a:=λo' e'=>by rw[e]at e';cases e';exact d
section
variable(P:Program)(w:World)
def ObjOk(H:Hp)(h:Heap)(a:Addr):HO->Prop
 | .lst xs=>xs.length<=sizeLine/\∃(its:List Value) (n:Nat),Vals xs its/\h.get? a=some { cls:=.type "list",data:=.seq its.toArray n }
 | .tup xs=>xs.length<=sizeLine/\∃its:List Value,Vals xs its/\IsTup h a its.toArray/\NoD h a
 | .dK ah=>ah.length<=sizeLine/\(a==sysModules)=false/\∃vs,KV ah vs/\h.DictOf (kC P w) a vs
 | .dT ah=>ah.length<=sizeLine/\(a==sysModules)=false/\∃xs:List (List Key×Addr×Value),
   Paired (λ(p:List Key×V) (q:List Key×Addr×Value)=>p.1=q.1/\H q.2.1=some (.tup (p.1.map kV))/\RelV p.2 q.2.2) ah xs/\
   ∃o es ep,h.get? a=some o/\o.ExactDict/\o.data=.dict es ep/\es.toList=xs.map (entryOfKey (tupleKind (kC P w)))/\(xs.map (·.1)).Nodup
 | .set S n=>h.SetOf (intKind P w) a S n
 | .ins C dx fs=>H dx=some (.own a)/\fs.length<=1000/\dx≠a/\h.get? a=some (PySem.W.instObj C dx)/\
   ∃mA,h.Ns1 dx mA/\(∀f,RelO (fs.lookup f) (mA f))/\PySem.Within mA (fs.map (·.1))
 | .own _=>∃o,h.get? a=some o
 | .xd fs=>∃mA,h.Ns1 a mA/\∀f,RelO (fs.lookup f) (mA f)
 | .rng lo hi=>∃t u v,h.get? a=some { cls:=.type "range",data:=.fields #[.int lo t,.int hi u,.int 1 v] }
 | .frz o u=>h.get? a=some o/\ObjOk H h a u
 | .tbl ps=>h.get? a=some { cls:=.none,data:=.fields ps }
 | .met f x=>h.get? a=some (PySem.W.methodObj (.ref f) (.ref x))
 | .ext φ=>φ h/\(∃o,h.get? a=some o)/\∀h1 h2:Heap,φ h1->(∀o,h1.get? a=some o->h2.get? a=some o)->φ h2
def HOk(H:Hp)(h:Heap):Prop:=∀a o,H a=some o->ObjOk P w H h a o
end
section
variable{P:Program}{w:World}{H H':Hp}{h h':Heap}{a:Addr}{o:HO}
theorem ObjOk.lt(x:ObjOk P w H h a o):a<h.objs.size:=by
 cases o with
 | lst xs=>obtain⟨_,_,_,_,e⟩:=x;exact nJ e
 | tup xs=>obtain⟨_,_,_,p⟩:=x;exact p.1.lt
 | dK ah=>obtain⟨_,_,_,_,o,_,_,e,_⟩:=x;exact nJ e
 | dT ah=>obtain⟨_,_,_,_,o,_,_,e,_⟩:=x;exact nJ e
 | set S n=>obtain⟨o,_,_,_,e,_⟩:=x;exact nJ e
 | ins C dx fs=>obtain⟨_,_,_,e,_⟩:=x;exact nJ e
 | own y=>obtain⟨_,e⟩:=x;exact nJ e
 | xd fs=>obtain⟨_,⟨_,_,_,e,_⟩,_⟩:=x;exact nJ e
 | rng lo hi=>obtain⟨_,_,_,e⟩:=x;exact nJ e
 | frz ob u=>obtain⟨e,_⟩:=x;exact nJ e
 | tbl ps=>exact nJ (show h.get? a=some _ from x)
 | met f y=>exact nJ (show h.get? a=some _ from x)
 | ext φ=>obtain⟨_,⟨_,e⟩,_⟩:=x;exact nJ e
theorem Paired.mapP{α β:Type}{F G:α->β->Prop} :∀{l₁:List α} {l₂:List β},Paired F l₁ l₂->(∀a b,F a b->G a b)->Paired G l₁ l₂
 | _,_,.nil,_=>.nil
 | _,_,.cons r t,f=>.cons (f _ _ r) (Paired.mapP t f)
theorem ObjOk.stay(x:ObjOk P w H h a o)(k:∀b u,(b=a∨H b=some (.own a))->h.get? b=some u->h'.get? b=some u)
  (ho:∀b,H b=some (.own a)->H' b=some (.own a)) (ht:∀b xs,H b=some (.tup xs)->H' b=some (.tup xs)):ObjOk P w H' h' a o:=by
 induction o with
 | lst xs=>obtain⟨z,its,n,r,e⟩:=x;exact⟨z,its,n,r,k _ _ (.inl rfl) e⟩
 | tup xs=>obtain⟨z,its,r,⟨ob,e,c⟩,nd⟩:=x;exact⟨z,its,r,⟨ob,k _ _ (.inl rfl) e,c⟩,.of (k _ _ (.inl rfl) e) (nd _ e)⟩
 | dK ah=>obtain⟨z,y,vs,r,ob,es,ep,e,c⟩:=x;exact⟨z,y,vs,r,ob,es,ep,k _ _ (.inl rfl) e,c⟩
 | dT ah=>
  obtain⟨z,y,xs,r,ob,es,ep,e,c⟩:=x;exact⟨z,y,xs,Paired.mapP r λp q z=>⟨z.1,ht _ _ z.2.1,z.2.2⟩,ob,es,ep,k _ _ (.inl rfl) e,c⟩
 | set S n=>obtain⟨ob,es,ep,t,e,c⟩:=x;exact⟨ob,es,ep,t,k _ _ (.inl rfl) e,c⟩
 | ins C dx fs=>
  obtain⟨d,z,ne,e,mA,⟨od,es,ep,e2,c⟩,r⟩:=x;exact⟨ho _ d,z,ne,k _ _ (.inl rfl) e,mA,⟨od,es,ep,k _ _ (.inr d) e2,c⟩,r⟩
 | own y=>obtain⟨ob,e⟩:=x;exact⟨ob,k _ _ (.inl rfl) e⟩
 | xd fs=>obtain⟨mA,⟨od,es,ep,e,c⟩,r⟩:=x;exact⟨mA,⟨od,es,ep,k _ _ (.inl rfl) e,c⟩,r⟩
 | rng lo hi=>obtain⟨t,u,v,e⟩:=x;exact⟨t,u,v,k _ _ (.inl rfl) e⟩
 | frz ob u ih=>obtain⟨e,q⟩:=x;exact⟨k _ _ (.inl rfl) e,ih q⟩
 | tbl ps=>
  have e:h.get? a=some { cls:=.none,data:=.fields ps } :=x;show h'.get? a=some { cls:=.none,data:=.fields ps };exact k a _ (.inl rfl) e
 | met f y=>
  have e:h.get? a=some (PySem.W.methodObj (.ref f) (.ref y)):=x;show h'.get? a=some (PySem.W.methodObj (.ref f) (.ref y));exact k a _ (.inl rfl) e
 | ext φ=>obtain⟨p,⟨o,e⟩,st⟩:=x;exact⟨st _ _ p λo q=>k _ _ (.inl rfl) q,⟨o,k _ _ (.inl rfl) e⟩,st⟩
theorem HOk.lt(x:HOk P w H h)(e:H a=some o):a<h.objs.size:=(x a o e).lt
theorem HOk.fresh(x:HOk P w H h)(e:h.objs.size<=a):H a=none:=by
 cases q:H a with
 | none=>rfl
 | some u=>exact absurd (gX (x.lt q) e) (mY _)
theorem HOk.kept(x:HOk P w H h)(k:∀b u,h.get? b=some u->h'.get? b=some u):HOk P w H h':=λa o e=>
 (x a o e).stay (λb u _ q=>k b u q) (λ_ q=>q) λ_ _ q=>q
theorem HOk.laid(x:HOk P w H h)(k:∀b u,h.get? b=some u->h'.get? b=some u)(hp:h.objs.size<=a)(new:ObjOk P w (upd H a o) h' a o):HOk P w (upd H a o) h':=λb u e=>by
 have hn:=x.fresh hp;by_cases hb:b=a
 ·subst hb;rw[jE]at e;cases e;exact new
 ·rw[jG hb]at e;exact(x b u e).stay (λc v _ q=>k c v q) (λc q=>by rw[jG (jQ q hn)];exact q) λc xs q=>by rw[jG (jQ q hn)];exact q
end
def Rd(H:Hp)(a:Addr)(u:HO):Prop:=H a=some u∨∃o,H a=some (.frz o u)
theorem Rd.ok{P:Program}{w:World}{H:Hp}{h:Heap}{a:Addr}{u:HO}(r:Rd H a u)(x:HOk P w H h):ObjOk P w H h a u:=by
 rcases r with r | ⟨o,r⟩
 ·exact x a u r
 ·obtain⟨_,q⟩:=x a _ r;exact q
def Mut:Option HO->Prop
 | some (.lst _)=>True
 | some (.dK _)=>True
 | some (.dT _)=>True
 | some (.set _ _)=>True
 | some (.ins _ _ _)=>True
 | some (.ext _)=>True
 | _=>False
section
variable{P:Program}{w:World}{H:Hp}{h h':Heap}{x e:Addr}{o':HO}
theorem HOk.write(ok:HOk P w H h)(mu:Mut (H x))(he:e=x∨H e=some (.own x))(k:∀b u,b≠e->h.get? b=some u->h'.get? b=some u)(heo:∃u,h'.get? e=some u)
  (new:ObjOk P w (upd H x o') h' x o'):HOk P w (upd H x o') h':=λb u q=>by
 have nown:∀c y,H c=some (.own y)->c≠x:=λc y r z=>by subst z;rw[r]at mu;exact mu
 have ntup:∀c xs,H c=some (.tup xs)->c≠x:=λc xs r z=>by subst z;rw[r]at mu;exact mu
 by_cases hb:b=x
 ·subst hb;rw[jE]at q;cases q;exact new
 ·rw[jG hb]at q;by_cases hbe:b=e
  ·have q':H b=some (.own x):=by
    rcases he with z | z
    ·exact absurd (hbe.trans z) hb
    ·rw[hbe];exact z
   rw[q]at q';cases q';obtain⟨v,hv⟩:=heo;exact⟨v,by rw[hbe];exact hv⟩
  ·refine(ok b u q).stay (λc v hc r=>k c v ?_ r) (λc r=>by rw[jG (nown c b r)];exact r) λc xs r=>by rw[jG (ntup c xs r)];exact r
   rcases hc with rfl | hc
   ·exact hbe
   ·rintro rfl;rcases he with z | z
    ·exact nown c b hc z
    ·rw[hc]at z;cases z;exact hb rfl
end
structure Un(fs ex:List Addr)(H H':Hp)(h h':Heap):Prop where
 keep:∀b o,h.get? b=some o->H b=none->b∉fs->b∉ex->h'.get? b=some o
 slot:∀b o,h.get? b=some o->H b=none->b∈fs->b∉ex->∃sl,h'.get? b=some { o with slots:=sl }
 free:∀b o,h.get? b=some o->H b=none->b∉ex->H' b=none
 there:∀b o,h.get? b=some o->b∉ex->∃o',h'.get? b=some o'
 tups:∀b xs,H b=some (.tup xs)->H' b=some (.tup xs)
 frzs:∀b o u,H b=some (.frz o u)->H' b=some (.frz o u)
 tbls:∀b ps,H b=some (.tbl ps)->∃more,H' b=some (.tbl (ps++more))
section
variable{fs fs' ex ex':List Addr}{H H1 H2:Hp}{h h1 h2 h':Heap}{a x e:Addr}{o:HO}
theorem Un.any(u:Un fs ex H H1 h h1){b:Addr}{ob:Obj}(q:h.get? b=some ob)(n:H b=none)(hx:b∉ex):∃sl,h1.get? b=some { ob with slots:=sl } :=by
 by_cases hb:b∈fs
 ·exact u.slot b ob q n hb hx
 ·exact⟨ob.slots,u.keep b ob q n hb hx⟩
theorem Un.kept(k:∀b u,h.get? b=some u->h'.get? b=some u):Un fs ex H H h h':=
 ⟨λb ob q _ _ _=>k b ob q,λb ob q _ _ _=>⟨ob.slots,k b ob q⟩,λ_ _ _ n _=>n,λb ob q _=>⟨ob,k b ob q⟩,λ_ _ q=>q,λ_ _ _ q=>q,λ_ ps q=>⟨#[],by rw[q];simp⟩⟩
theorem Un.refl:Un fs ex H H h h:=Un.kept λ_ _ q=>q
theorem Un.laid(k:∀b u,h.get? b=some u->h'.get? b=some u)(hp:h.objs.size<=a)(hn:H a=none):Un fs ex H (upd H a o) h h' where
 keep:=λb u q _ _ _=>k b u q
 slot:=λb u q _ _ _=>⟨u.slots,k b u q⟩
 free:=λb u q n _=>by rw[jG (nO (gX (nJ q) hp))];exact n
 there:=λb u q _=>⟨u,k b u q⟩
 tups:=λb xs q=>by rw[jG (jQ q hn)];exact q
 frzs:=λb u xs q=>by rw[jG (jQ q hn)];exact q
 tbls:=λb ps q=>⟨#[],by rw[jG (jQ q hn),q];simp⟩
theorem Un.write(mu:Mut (H x))(he:e=x∨H e=some (.own x))(k:∀b u,b≠e->h.get? b=some u->h'.get? b=some u)(heo:∃u,h'.get? e=some u):Un fs ex H (upd H x o) h h':=by
 have hx:∀b,H b=none->b≠x:=λb n z=>by subst z;rw[n]at mu;exact mu
 have hb:∀b,H b=none->b≠e:=λb n z=>by
  subst z;rcases he with r | r
  ·exact hx b n r
  ·rw[n]at r;cases r
 have hm:∀b u,H b=some u->¬Mut (some u)->b≠x:=λb u q nm z=>by subst z;rw[q]at mu;exact nm mu
 refine⟨λb u q n _ _=>k b u (hb b n) q,λb u q n _ _=>⟨u.slots,k b u (hb b n) q⟩,λb u q n _=>by rw[jG (hx b n)];exact n,λb u q _=>?_,
  λb xs q=>by rw[jG (hm b _ q λz=>z)];exact q,λb u xs q=>by rw[jG (hm b _ q λz=>z)];exact q,λb ps q=>⟨#[],by rw[jG (hm b _ q λz=>z),q];simp⟩⟩
 by_cases hbe:b=e
 ·subst hbe;exact heo
 ·exact⟨u,k b u hbe q⟩
end
def trk(h:Heap)(H:Hp):List Addr:=(List.range h.objs.size).filter λa=>(H a).isSome
def IW(h:Heap)(H:Hp):Heap:=PySem.W.hideAll h (trk h H)
theorem TC(h:Heap)(H:Hp):(IW h H).objs.size=h.objs.size:=PySem.W.hideAll_size _ _
theorem XZ{h:Heap}{H:Hp}{b:Addr}{o:Obj}(e:h.get? b=some o)(n:H b=none):(IW h H).get? b=some o:=
 PySem.W.hideAll_get _ e λhm=>by
  have q:(H b).isSome=true:=(List.mem_filter.mp hm).2;rw[n]at q;simp at q
theorem of_hidT{h:Heap}{H:Hp}{b:Addr}{o:Obj}(e:(IW h H).get? b=some o):h.get? b=some o/\H b=none:=by
 have e':h.get? b=some o:=PySem.W.of_hideAll (trk h H) e;refine⟨e', ?_⟩;cases q:H b with
 | none=>rfl
 | some x=>
  have hm:b∈trk h H:=List.mem_filter.mpr ⟨mR.mpr (nJ e'),by simp [q]⟩;have z:(IW h H).get? b=none:=PySem.W.hideAll_none (trk h H) hm;rw[z]at e;cases e
def xJ(g h:Heap)(L:Addr):List (Addr×Obj):=(List.range h.objs.size).filterMap λa=>if a=L∨(g.get? a).isSome=true then none else(h.get? a).map λo=>(a,o)
theorem wC{g h:Heap}{L a:Addr}{o:Obj}(h1:a≠L)(h2:g.get? a=none)(h3:h.get? a=some o):(a,o)∈xJ g h L:=
 List.mem_filterMap.mpr ⟨a,mR.mpr (nJ h3),by simp [h1,h2,h3]⟩
theorem EL{g h:Heap}{L:Addr}{p:Addr×Obj}(hp:p∈xJ g h L):p.1≠L/\g.get? p.1=none/\h.get? p.1=some p.2:=by
 obtain⟨b,_,e⟩:=List.mem_filterMap.mp hp;split at e
 ·cases e
 ·rename_i hn;cases q:h.get? b with
  | none=>rw[q]at e;simp at e
  | some u=>
   rw[q]at e;simp only[Option.map_some,Option.some.injEq]at e;subst e;refine⟨λz=>hn (.inl z), ?_,q⟩;show g.get? b=none;cases r:g.get? b with
   | none=>rfl
   | some v=>exact(hn (.inr (by simp [r]))).elim
theorem KK{g h:Heap}{L:Addr} :News g L h (xJ g h L):=λp hp=>let ⟨a,b,c⟩:=EL hp;⟨c,a,b⟩
structure Mod(K:tL)(mg:Str->Option Value)(base:Heap):Prop where
 kin:K.In base
 glob:base.Ns mainGlobals mg
 blt:∃mb,base.Ns builtinsNs mb/\∀x:Str,x≠"__name__"->mb x=bootBuiltins x
 nolimit:base.NoLimit
structure Cx where
 prog:Program
 w:World
 K:tL
 mg:Str->Option Value
 base:Heap
 A:Around
 N:List Str
 s₀:Shared
 H₀:Hp
 env:Env
 outer:List Env
 stack:List Env
 ex:List Addr
 fn:Str->Bool
 calm:Bool
 pn:List (Addr×Obj)
 xe:Value->Shared->Prop
def frs(l:List Env):List Addr:=l.filterMap (·.frame)
abbrev Cx.fs(X:Cx):List Addr:=frs X.outer
def Vis(sc:Scope)(x:Str):Prop:=sc.names.lookup x=some .local∨sc.names.lookup x=some .cell∨sc.names.lookup x=some .free
def Loc(sc:Scope)(x:Str):Prop:=sc.names.lookup x=some .local∨sc.names.lookup x=some .cell
def Look(env:Env)(h:Heap)(m:Str->Option Value)(x:Str)(u:Value):Prop:=
 (env.kindOf x=some .local/\m x=some u)∨((env.kindOf x=some .cell∨env.kindOf x=some .free)/\∃c,env.cells.lookup x=some c/\h.IsCell c (some u))
structure Cx.Ok(X:Cx):Prop where
 mod:Mod X.K X.mg X.base
 kind:X.env.scope.kind=.function
 glob:X.env.globals=mainGlobals
 blt:X.env.builtins=builtinsNs
 above:X.s₀.heap.objs.size<=X.env.locals
 inj:∀x y c,X.env.cells.lookup x=some c->X.env.cells.lookup y=some c->x=y
 has:∀x,(X.env.kindOf x=some .cell∨X.env.kindOf x=some .free)->∃c,X.env.cells.lookup x=some c
 cab:∀x c,X.fn x=true->X.env.cells.lookup x=some c->X.s₀.heap.objs.size<=c
 hd:X.calm=true->X.A.handled=none
 frames:X.A.frames=some X.stack
 stk:X.stack=X.outer∨(X.stack=X.env::X.outer/\X.env.frame=some X.env.locals)
 exf:∀b∈X.ex,b≠X.env.locals/\∀x c,X.env.cells.lookup x=some c->c≠b
 bs:∀b o,X.base.get? b=some o->X.s₀.heap.get? b=some o/\X.H₀ b=none
 bsz:X.base.objs.size<=X.s₀.heap.objs.size
 noex:∀b o,X.base.get? b=some o->b∉X.ex
 exfs:∀b∈X.ex,b∉X.fs
 funs:X.s₀.heap.FunFrames X.base X.outer
 frf:∀b∈X.fs,X.H₀ b=none
structure Inv(X:Cx)(ae:List (Addr×Obj))(σ:List (Option V))(H:Hp)(s:Shared):Prop where
 ok:X.Ok
 os:s.os=X.s₀.os
 bare:AllBare s.gens
 base:Un X.fs X.ex X.H₀ H X.s₀.heap s.heap
 loc:∃m,s.heap.Ns X.env.locals m/\∀(i:Nat) (x:Str) (v:V),X.N[i]? = some x->σ[i]? = some (some v)->Vis X.env.scope x->∃u,RelV v u/\Look X.env s.heap m x u
 cell:∀x c,X.env.cells.lookup x=some c->∃v,s.heap.IsCell c v
 free:H X.env.locals=none
 freeC:∀x c,X.env.cells.lookup x=some c->H c=none
 pin:∀p∈X.pn++ae,s.heap.get? p.1=some p.2/\H p.1=none/\p.1≠X.env.locals/\p.1∉X.fs/\∀v,p.2.data≠.cell v
 hok:HOk X.prog X.w H s.heap
 len:σ.length=X.N.length
section
variable{X:Cx}{ae:List (Addr×Obj)}{σ:List (Option V)}{H H':Hp}{s:Shared}{h':Heap}
theorem Cx.Ok.nofr(ok:X.Ok){b:Addr}{o:Obj}(e:X.base.get? b=some o):b∉X.fs:=λhb=>by
 have:=(ok.funs.mem hb).1;rw[e]at this;cases this
theorem Inv.bs(I:Inv X ae σ H s):∀b o,X.base.get? b=some o->s.heap.get? b=some o/\H b=none:=λb o e=>
 ⟨I.base.keep b o (I.ok.bs b o e).1 (I.ok.bs b o e).2 (I.ok.nofr e) (I.ok.noex b o e),I.base.free b o (I.ok.bs b o e).1 (I.ok.bs b o e).2 (I.ok.noex b o e)⟩
theorem Inv.bk(I:Inv X ae σ H s):∀b o,X.base.get? b=some o->s.heap.get? b=some o:=λb o e=>(I.bs b o e).1
theorem Inv.mod(I:Inv X ae σ H s):Mod X.K X.mg X.base:=I.ok.mod
theorem Inv.kIn(I:Inv X ae σ H s):X.K.In s.heap:=I.ok.mod.kin.keeps I.bk
theorem Inv.fr(I:Inv X ae σ H s):∃m,Fr X.base X.env.locals s.heap m:=
 let ⟨m,hn,_⟩:=I.loc
 ⟨m,hn,I.bk,nN I.ok.bsz I.ok.above⟩
theorem Inv.lt(I:Inv X ae σ H s):X.env.locals<s.heap.objs.size:=let ⟨_,hn,_⟩:=I.loc;hn.lt
theorem Inv.sz(I:Inv X ae σ H s):X.s₀.heap.objs.size<=s.heap.objs.size:=nN I.ok.above (nU I.lt)
theorem Inv.nofs(I:Inv X ae σ H s){a:Addr}(h:s.heap.objs.size<=a):a∉X.fs:=λhb=>by
 obtain⟨_,o,ho,_⟩:=I.ok.funs.mem hb;exact absurd (gX (nJ ho) (nN I.sz h)) (mY _)
theorem Inv.cne(I:Inv X ae σ H s):∀x c,X.env.cells.lookup x=some c->c≠X.env.locals:=λx c e z=>by
 obtain⟨v,o,ho,hd⟩:=I.cell x c e;obtain⟨m,⟨o',es,ep,ho',hd',_⟩,_⟩:=I.loc;rw[z,ho']at ho;cases ho;rw[hd']at hd;cases hd
theorem Inv.funs(I:Inv X ae σ H s):s.heap.FunFrames X.base X.outer:=by
 have all:∀(l:List Env),(∀b∈frs l,b∈X.fs)->X.s₀.heap.FunFrames X.base l->s.heap.FunFrames X.base l:=by
  intro l;induction l with
  | nil=>intro _ _;trivial
  | cons env r ih=>
   intro hs hl;obtain⟨hk,⟨L,o,hf,hn,ho,hd⟩,hr⟩:=hl;have hL:L∈X.fs:=hs L (by unfold frs;rw[List.filterMap_cons,hf];exact gZ);obtain⟨sl,e⟩:=I.base.slot L o ho (I.ok.frf L hL) hL λz=>I.ok.exfs L z hL;exact⟨hk,⟨L,_,hf,hn,e,hd⟩,ih (λb hb=>hs b (by unfold frs;rw[List.filterMap_cons,hf];exact gN _ hb)) hr⟩
 exact all X.outer (λ_ hb=>hb) I.ok.funs
theorem Inv.stack(I:Inv X ae σ H s):s.heap.FunFrames X.base X.stack:=by
 rcases I.ok.stk with e | ⟨e,hf⟩
 ·rw[e];exact I.funs
 ·rw[e];obtain⟨m,hn,_⟩:=I.loc;refine .cons (by rw[I.ok.kind];decide) hf hn ?_ I.funs;exact Heap.get?_none_of_le (nN I.ok.bsz I.ok.above)
theorem Inv.stkSub(I:Inv X ae σ H s):∀b∈frs X.stack,b∈X.env.locals::X.fs:=λb hb=>by
 rcases I.ok.stk with e | ⟨e,hf⟩
 ·rw[e]at hb;exact gN _ hb
 ·rw[e]at hb;unfold frs at hb;rw[List.filterMap_cons,hf]at hb;exact hb
theorem Inv.stkFree(I:Inv X ae σ H s):∀b∈frs X.stack,H b=none:=λb hb=>by
 rcases mX.mp (I.stkSub b hb)with e | hb
 ·rw[e];exact I.free
 ·obtain⟨_,o,ho,_⟩:=I.ok.funs.mem hb;exact I.base.free b o ho (I.ok.frf b hb) λz=>I.ok.exfs b z hb
theorem Inv.step{g':Array GenState}{t':Nat}{d':Drawn}{ch:List Addr}(I:Inv X ae σ H s)
  (hch:∀b∈ch,(b∈X.ex∨X.s₀.heap.objs.size<=b)/\b≠X.env.locals/\(∀x c,X.env.cells.lookup x=some c->c≠b)/\∀p∈X.pn++ae,p.1≠b)
  (keep:∀b o,b≠X.env.locals->b∉X.fs->b∉ch->s.heap.get? b=some o->H b=none->h'.get? b=some o)
  (slot:∀b o,b≠X.env.locals->b∈X.fs->b∉ch->s.heap.get? b=some o->H b=none->∃sl,h'.get? b=some { o with slots:=sl }) (free:∀b o,b∉ch->s.heap.get? b=some o->H b=none->H' b=none)
  (there:∀b o,b∉ch->s.heap.get? b=some o->∃o',h'.get? b=some o')
  (tups:∀b xs,H b=some (.tup xs)->H' b=some (.tup xs)) (frzs:∀b o u,H b=some (.frz o u)->H' b=some (.frz o u)) (tbls:∀b ps,H b=some (.tbl ps)->∃more,H' b=some (.tbl (ps++more)))
  (ns:∀m,s.heap.Ns X.env.locals m->h'.Ns X.env.locals m) (hok:HOk X.prog X.w H' h') (hg:AllBare g') :
  Inv X ae σ H' { s with heap:=h',gens:=g',drawn:=d',toks:=t' } :=by
 have neL:∀b o,X.s₀.heap.get? b=some o->b≠X.env.locals:=λb o e=>nO (gX (nJ e) I.ok.above);have neC:∀b o,X.s₀.heap.get? b=some o->b∉X.ex->b∉ch:=λb o e hx hb=>by
  rcases(hch b hb).1 with z | z
  ·exact hx z
  ·exact absurd (gX (nJ e) z) (mY _)
 have cellK:∀x c,X.env.cells.lookup x=some c->∀v,s.heap.IsCell c v->h'.IsCell c v:=λx c e v ⟨o,ho,hd⟩=>by
  have nch:c∉ch:=λz=>(hch c z).2.2.1 x c e rfl;by_cases hc:c∈X.fs
  ·obtain⟨sl,q⟩:=slot c o (I.cne x c e) hc nch ho (I.freeC x c e);exact⟨_,q,hd⟩
  ·exact⟨o,keep c o (I.cne x c e) hc nch ho (I.freeC x c e),hd⟩
 refine⟨I.ok,I.os,hg,⟨λb o e n hb hx=>?_,λb o e n hb hx=>?_,λb o e n hx=>?_,λb o e hx=>?_,λb xs e=>tups b xs (I.base.tups b xs e),λb o xs e=>frzs b o xs (I.base.frzs b o xs e),λb ps e=>?_⟩, ?_,λx c e=>?_, ?_,λx c e=>?_,λp hp=>?_,hok,I.len⟩
 ·exact keep b o (neL b o e) hb (neC b o e hx) (I.base.keep b o e n hb hx) (I.base.free b o e n hx)
 ·obtain⟨sl,e1⟩:=I.base.slot b o e n hb hx;obtain⟨sl',e2⟩:=slot b _ (neL b o e) hb (neC b o e hx) e1 (I.base.free b o e n hx);exact⟨sl',e2⟩
 ·obtain⟨o',e1⟩:=I.base.there b o e hx;exact free b o' (neC b o e hx) e1 (I.base.free b o e n hx)
 ·obtain⟨o',e1⟩:=I.base.there b o e hx;exact there b o' (neC b o e hx) e1
 ·obtain⟨m1,e1⟩:=I.base.tbls b ps e;obtain⟨m2,e2⟩:=tbls b _ e1;exact⟨m1++m2,by rw[e2,Array.append_assoc]⟩
 ·obtain⟨m,hn,hl⟩:=I.loc;refine⟨m,ns m hn,λi x v e1 e2 e3=>?_⟩;obtain⟨u,r,l⟩:=hl i x v e1 e2 e3;refine⟨u,r, ?_⟩;rcases l with l | ⟨k,c,e,z⟩
  ·exact .inl l
  ·exact .inr ⟨k,c,e,cellK x c e _ z⟩
 ·obtain⟨v,z⟩:=I.cell x c e;exact⟨v,cellK x c e v z⟩
 ·obtain⟨m,⟨o,_,_,ho,_⟩,_⟩:=I.loc;exact free _ o (λz=>(hch _ z).2.1 rfl) ho I.free
 ·obtain⟨v,o,ho,hd⟩:=I.cell x c e;exact free c o (λz=>(hch c z).2.2.1 x c e rfl) ho (I.freeC x c e)
 ·obtain⟨e,n,ne,nf,d⟩:=I.pin p hp;have nch:p.1∉ch:=λz=>(hch p.1 z).2.2.2 p hp rfl;exact⟨keep p.1 p.2 ne nf nch e n,free p.1 p.2 nch e n,ne,nf,d⟩
theorem Inv.un{t':Nat}(I:Inv X ae σ H s)(u:Un X.fs [] H H' s.heap h')(hok:HOk X.prog X.w H' h'):Inv X ae σ H' { s with heap:=h',toks:=t' } :=by
 obtain⟨m,⟨o,es,ep,ho,r⟩,_⟩:=id I.loc;obtain⟨sl,hL⟩:=u.any ho I.free (by simp);exact I.step (g':=s.gens) (d':=s.drawn) (ch:=[]) (λ_ z=>nomatch z) (λb o _ hb _ e n=>u.keep b o e n hb (by simp)) (λb o _ hb _ e n=>u.slot b o e n hb (by simp)) (λb o _ e n=>u.free b o e n (by simp)) (λb o _ e=>u.there b o e (by simp)) u.tups u.frzs u.tbls (λm' hm=>by
  obtain⟨o',es',ep',ho',r'⟩:=hm;rw[ho]at ho';cases ho';exact⟨_,es',ep',hL,r'⟩) hok I.bare
theorem Inv.call{g':Array GenState}{t':Nat}{d':Drawn}{ch:List Addr}(I:Inv X ae σ H s)(u:Un (frs X.stack) ch H H' s.heap h')(hok:HOk X.prog X.w H' h')(hg:AllBare g')
  (hch:∀b∈ch,(b∈X.ex∨X.s₀.heap.objs.size<=b)/\b≠X.env.locals/\(∀x c,X.env.cells.lookup x=some c->c≠b)/\∀p∈X.pn++ae,p.1≠b) :
  Inv X ae σ H' { s with heap:=h',gens:=g',drawn:=d',toks:=t' } :=by
 obtain⟨m,⟨o,es,ep,ho,r⟩,_⟩:=id I.loc;obtain⟨sl,hL⟩:=u.any ho I.free λz=>(hch _ z).2.1 rfl;exact I.step (ch:=ch) hch (λb o hL hb hc e n=>u.keep b o e n (λz=>(mX.mp (I.stkSub b z)).elim hL hb) hc) (λb o _ _ hc e n=>u.any e n hc) (λb o hc e n=>u.free b o e n hc) (λb o hc e=>u.there b o e hc) u.tups u.frzs u.tbls (λm' hm=>by
  obtain⟨o',es',ep',ho',r'⟩:=hm;rw[ho]at ho';cases ho';exact⟨_,es',ep',hL,r'⟩) hok hg
theorem Inv.turned{t':Nat}{it:Addr}(I:Inv X ae σ H s)(k:∀b o,b≠it->s.heap.get? b=some o->h'.get? b=some o)(hn:H it=none)(hL:it≠X.env.locals)
  (h1:it∈X.ex∨X.s₀.heap.objs.size<=it) (h2:∀x c,X.env.cells.lookup x=some c->c≠it) (h3:∀p∈X.pn++ae,p.1≠it):Inv X ae σ H { s with heap:=h',toks:=t' } :=by
 have nit:∀b u,H b=some u->b≠it:=λb u e z=>by rw[z,hn]at e;cases e
 refine I.step (g':=s.gens) (d':=s.drawn) (ch:=[it]) (λb hb=>?_) (λb o _ _ hc e _=>k b o (λz=>hc (by simp [z])) e) (λb o _ _ hc e _=>⟨o.slots,k b o (λz=>hc (by simp [z])) e⟩) (λ_ _ _ _ n=>n)
  (λb o hc e=>⟨o,k b o (λz=>hc (by simp [z])) e⟩) (λ_ _ e=>e) (λ_ _ _ e=>e) (λb ps e=>⟨#[],by rw[e];simp⟩) (λm hm=>?_) (λb u e=>?_) I.bare
 ·have e:b=it:=by simpa using hb
  subst e;exact⟨h1,hL,h2,h3⟩
 ·obtain⟨o,es,ep,ho,r⟩:=hm;exact⟨o,es,ep,k _ o (Ne.symm hL) ho,r⟩
 ·refine(I.hok b u e).stay (λc v hc q=>k c v ?_ q) (λ_ q=>q) λ_ _ q=>q;rcases hc with z | z
  ·rw[z];exact nit b u e
  ·exact nit c _ z
theorem Inv.tok(I:Inv X ae σ H s)(t:Nat):Inv X ae σ H { s with toks:=t } :=I.un (h':=s.heap) (t':=t) Un.refl I.hok
theorem Inv.kept{t':Nat}(I:Inv X ae σ H s)(k:∀b u,s.heap.get? b=some u->h'.get? b=some u):Inv X ae σ H { s with heap:=h',toks:=t' } :=I.un (Un.kept k) (I.hok.kept k)
theorem Inv.laid{a:Addr}{o:HO}{t':Nat}(I:Inv X ae σ H s)(k:∀b u,s.heap.get? b=some u->h'.get? b=some u)(hp:s.heap.objs.size<=a)(new:ObjOk X.prog X.w (upd H a o) h' a o) :
  Inv X ae σ (upd H a o) { s with heap:=h',toks:=t' } :=I.un (Un.laid k hp (I.hok.fresh hp)) (I.hok.laid k hp new)
theorem Inv.write{x e:Addr}{o:HO}{t':Nat}(I:Inv X ae σ H s)(mu:Mut (H x))(he:e=x∨H e=some (.own x))(k:∀b u,b≠e->s.heap.get? b=some u->h'.get? b=some u)(heo:∃u,h'.get? e=some u)
  (new:ObjOk X.prog X.w (upd H x o) h' x o):Inv X ae σ (upd H x o) { s with heap:=h',toks:=t' } :=I.un (Un.write mu he k heo) (I.hok.write mu he k heo new)
theorem Inv.weak{σ':List (Option V)}(I:Inv X ae σ H s)(hl:σ'.length=σ.length)(w:∀(i:Nat) v,σ'[i]? = some (some v)->σ[i]? = some (some v)):Inv X ae σ' H s:=
 ⟨I.ok,I.os,I.bare,I.base,let ⟨m,hn,hl'⟩:=I.loc;⟨m,hn,λi x v e1 e2 e3=>hl' i x v e1 (w i v e2) e3⟩,I.cell,I.free,I.freeC,I.pin,I.hok,hl.trans I.len⟩
theorem Inv.pins_of{pins':List (Addr×Obj)}(I:Inv X ae σ H s)(h:∀p∈pins',s.heap.get? p.1=some p.2/\H p.1=none/\p.1≠X.env.locals/\p.1∉X.fs/\∀v,p.2.data≠.cell v):Inv X pins' σ H s:=
 ⟨I.ok,I.os,I.bare,I.base,I.loc,I.cell,I.free,I.freeC,λp hp=>(mO.mp hp).elim (λz=>I.pin p (List.mem_append_left _ z)) (h p),I.hok,I.len⟩
theorem EM{N:List Str}(hN:N.Nodup){i j:Nat}{x:Str}(a:N[i]? = some x)(b:N[j]? = some x):i=j:=by
 obtain⟨h1,e1⟩:=gB.mp a;obtain⟨h2,e2⟩:=gB.mp b;exact(List.getElem_inj hN).mp (e1.trans e2.symm)
theorem FM{M:Model}{A:Around}{E:Value->Shared->Prop}{i:Nat}{x:Str}{v:V}{u:Value}{Q:Unit->Shared->Prop}(I:Inv X ae σ H s)(hN:X.N.Nodup)(hi:X.N[i]? = some x)(hx:Loc X.env.scope x)(r:RelV v u)
  (h:∀s',Inv X ae (σ.set i (some v)) H s'->(∃a,Heap.SameBut a s.heap s'.heap/\(a=X.env.locals∨X.env.cells.lookup x=some a))->Q () s') (hf:X.fn x=true∨X.env.scope.names.lookup x=some .local:=by first | exact .inl rfl | exact .inr rfl | assumption):wpAny M A (storeName X.env x u) Q E s:=by
 obtain⟨m,hn,hl⟩:=id I.loc;have hcls:(X.env.scope.kind==.class||(X.env.scope.kind==.module&&X.env.locals != X.env.globals))=false:=by rw[I.ok.kind];rfl
 have hiσ:i<σ.length:=by rw[I.len];exact(gB.mp hi).1
 have cne:=I.cne;have tracked:∀{a:Addr} {h':Heap},(∃o,s.heap.get? a=some o/\H a=none)->Heap.SameBut a s.heap h'->HOk X.prog X.w H h':=fun {a h'} ha hs b ob e=>by
  obtain⟨_,_,hfree⟩:=ha;refine(I.hok b ob e).stay (λc w' hc q=>(hs.2 c ?_).trans q) (λ_ q=>q) λ_ _ q=>q;rintro rfl;rcases hc with rfl | hc
  ·rw[hfree]at e;cases e
  ·rw[hfree]at hc;cases hc
 rcases hx with hk | hk
 ·refine wpAny_storeName_local hk hn (λh' hn' hs=>?_) hcls;obtain⟨oL,_,_,hoL,_⟩:=id hn;refine h _ ⟨I.ok,I.os,I.bare,⟨λb o e n hb hx=>?_,λb o e n hb hx=>?_,I.base.free,λb o e hx=>?_,I.base.tups,I.base.frzs,I.base.tbls⟩,⟨_,hn',λj y v' e1 e2 e3=>?_⟩,λy c e=>?_,I.free,I.freeC,λp hp=>?_,tracked ⟨oL,hoL,I.free⟩ hs,by simpa using I.len⟩ ⟨_,hs,.inl rfl⟩
  ·exact(hs.2 b (nO (gX (nJ e) I.ok.above))).trans (I.base.keep b o e n hb hx)
  ·obtain⟨sl,e1⟩:=I.base.slot b o e n hb hx;exact⟨sl,(hs.2 b (nO (gX (nJ e) I.ok.above))).trans e1⟩
  ·obtain⟨o',e1⟩:=I.base.there b o e hx;exact⟨o',(hs.2 b (nO (gX (nJ e) I.ok.above))).trans e1⟩
  ·by_cases hj:j=i
   ·subst hj;rw[hi]at e1;cases e1;rw[List.getElem?_set_self hiσ]at e2;cases e2;exact⟨u,r,.inl ⟨hk,by simp⟩⟩
   ·rw[List.getElem?_set_ne (Ne.symm hj)]at e2;obtain⟨u',r',q⟩:=hl j y v' e1 e2 e3;refine⟨u',r', ?_⟩;rcases q with⟨k,e⟩ | ⟨k,c,e,z⟩
    ·refine .inl ⟨k, ?_⟩;have:y≠x:=λe=>hj (EM hN e1 (e▸hi));simp [this,e]
    ·exact .inr ⟨k,c,e,z.sameBut hs (cne y c e)⟩
  ·obtain⟨w',z⟩:=I.cell y c e;exact⟨w',z.sameBut hs (cne y c e)⟩
  ·obtain⟨e,n,ne,nf,d⟩:=I.pin p hp;exact⟨(hs.2 p.1 ne).trans e,n,ne,nf,d⟩
 ·have hfn:X.fn x=true:=by
   rcases hf with z | z
   ·exact z
   ·rw[z]at hk;cases hk
  obtain⟨c,hc⟩:=I.ok.has x (.inl hk);obtain⟨w',z⟩:=I.cell x c hc;refine wpAny_storeName_cell I.ok.kind hk hc z (λh' hc' hs=>?_);obtain⟨oc,hoc,hocd⟩:=id z;refine h { s with heap:=h' } ⟨I.ok,I.os,I.bare,⟨λb o e n hb hx=>?_,λb o e n hb hx=>?_,I.base.free,λb o e hx=>?_,I.base.tups,I.base.frzs,I.base.tbls⟩,⟨m,hn.sameBut hs (Ne.symm (cne x c hc)),λj y v' e1 e2 e3=>?_⟩,λy c' e=>?_,I.free,I.freeC,λp hp=>?_,tracked ⟨oc,hoc,I.freeC x c hc⟩ hs,by simpa using I.len⟩ ⟨c,hs,.inr hc⟩
  ·exact(hs.2 b (nO (gX (nJ e) (I.ok.cab x c hfn hc)))).trans (I.base.keep b o e n hb hx)
  ·obtain⟨sl,e1⟩:=I.base.slot b o e n hb hx;exact⟨sl,(hs.2 b (nO (gX (nJ e) (I.ok.cab x c hfn hc)))).trans e1⟩
  ·obtain⟨o',e1⟩:=I.base.there b o e hx;exact⟨o',(hs.2 b (nO (gX (nJ e) (I.ok.cab x c hfn hc)))).trans e1⟩
  ·by_cases hj:j=i
   ·subst hj;rw[hi]at e1;cases e1;rw[List.getElem?_set_self hiσ]at e2;cases e2;exact⟨u,r,.inr ⟨.inl hk,c,hc,hc'⟩⟩
   ·rw[List.getElem?_set_ne (Ne.symm hj)]at e2;obtain⟨u',r',q⟩:=hl j y v' e1 e2 e3;refine⟨u',r', ?_⟩;rcases q with q | ⟨k,c',e,z'⟩
    ·exact .inl q
    ·refine .inr ⟨k,c',e,z'.sameBut hs ?_⟩;rintro rfl;exact hj (EM hN e1 (I.ok.inj _ _ _ e hc▸hi))
  ·by_cases hcc:c'=c
   ·subst hcc;exact⟨_,hc'⟩
   ·obtain⟨w2,z2⟩:=I.cell y c' e;exact⟨w2,z2.sameBut hs hcc⟩
  ·obtain⟨e,n,ne,nf,d⟩:=I.pin p hp;refine⟨(hs.2 p.1 ?_).trans e,n,ne,nf,d⟩;intro q;rw[q,hoc]at e;have q':oc=p.2:=Option.some.inj e;exact d w' (by rw[<-q'];exact hocd)
theorem yL{M:Model}{A:Around}{E:Value->Shared->Prop}{i:Nat}{x:Str}{v:V}{u:Value}{Q:Unit->Shared->Prop}(I:Inv X ae σ H s)(hN:X.N.Nodup)(hi:X.N[i]? = some x)(hx:Loc X.env.scope x)(r:RelV v u)
  (h:∀s',Inv X ae (σ.set i (some v)) H s'->Q () s') (hf:X.fn x=true∨X.env.scope.names.lookup x=some .local:=by first | exact .inl rfl | exact .inr rfl | assumption):wpAny M A (storeName X.env x u) Q E s:=
 FM I hN hi hx r (λs' I' _=>h s' I') hf
theorem Inv.call'{s':Shared}{ch:List Addr}(I:Inv X ae σ H s)(ho:s'.os=s.os)(u:Un (frs X.stack) ch H H' s.heap s'.heap)(hok:HOk X.prog X.w H' s'.heap)(hg:AllBare s'.gens)
  (hch:∀b∈ch,(b∈X.ex∨X.s₀.heap.objs.size<=b)/\b≠X.env.locals/\(∀x c,X.env.cells.lookup x=some c->c≠b)/\∀p∈X.pn++ae,p.1≠b):Inv X ae σ H' s':=by
 obtain⟨h',g',d',t',o'⟩:=s';have e:o'=s.os:=ho;subst e;exact I.call (g':=g') (t':=t') (d':=d') u hok hg hch
end
abbrev XK:=Value->Option Addr->Hp->Prop
abbrev St:=List (Option V)
abbrev VK:=V->Hp->Prop
abbrev TE:=St->Hp->VK->Prop
abbrev TT:=St->Hp->(Bool->Hp->Prop)->Prop
abbrev TA:=St->Hp->(List V->Hp->Prop)->Prop
structure Ends where
 nx:St->Hp->Prop
 rt:VK
 bk:St->Hp->Prop:=λ_ _=>False
 ct:St->Hp->Prop:=λ_ _=>False
abbrev TS:=Ends->St->Hp->Prop
def EP(X:Cx)(ae:List (Addr×Obj))(σ:St)(Q:VK)(u:Value)(s':Shared):Prop:=∃v H',Inv X ae σ H' s'/\RelV v u/\Q v H'
def TP(X:Cx)(ae:List (Addr×Obj))(σ:St)(Q:Bool->Hp->Prop)(b:Bool)(s':Shared):Prop:=∃H',Inv X ae σ H' s'/\Q b H'
def AP(X:Cx)(ae:List (Addr×Obj))(σ:St)(Q:List V->Hp->Prop)(us:List Value)(s':Shared):Prop:=∃vs H',Inv X ae σ H' s'/\Vals vs us/\Q vs H'
def SP(X:Cx)(ae:List (Addr×Obj))(D:Ends)(f:Flow)(s':Shared):Prop:=
 match f with
 | .next=>∃σ' H',Inv X ae σ' H' s'/\D.nx σ' H'
 | .brk=>∃σ' H',Inv X ae σ' H' s'/\D.bk σ' H'
 | .cont=>∃σ' H',Inv X ae σ' H' s'/\D.ct σ' H'
 | .ret u=>∃v σ' H',Inv X ae σ' H' s'/\RelV v u/\D.rt v H'
def PE(X:Cx)(e:Expr)(t:TE):Prop:=
 ∀(ae:List (Addr×Obj)) (s:Shared) (σ:St) (H:Hp) (Q:VK),Inv X ae σ H s->t σ H Q->wpAny #[2] X.A (eval e X.env) (EP X ae σ Q) X.xe s
def PT(X:Cx)(e:Expr)(t:TT):Prop:=
 ∀(ae:List (Addr×Obj)) (s:Shared) (σ:St) (H:Hp) (Q:Bool->Hp->Prop),Inv X ae σ H s->t σ H Q->wpAny #[2] X.A (isTrue e X.env (eval e X.env)) (TP X ae σ Q) X.xe s
def PW(X:Cx)(e:Expr)(t:TT):Prop:=
 ∀(whole:Sem Value) (ae:List (Addr×Obj)) (s:Shared) (σ:St) (H:Hp) (Q:Bool->Hp->Prop),Inv X ae σ H s->t σ H Q->wpAny #[2] X.A (isTrue e X.env whole) (TP X ae σ Q) X.xe s
theorem PW.pt{X:Cx}{e:Expr}{t:TT}(h:PW X e t):PT X e t:=h _
def PA(X:Cx)(es:List Expr)(t:TA):Prop:=
 ∀(pos:Pos) (ae:List (Addr×Obj)) (s:Shared) (σ:St) (H:Hp) (Q:List V->Hp->Prop),Inv X ae σ H s->t σ H Q->wpAny #[2] X.A (spliced (backTo pos (starEach es X.env))) (AP X ae σ Q) X.xe s
def PS(X:Cx)(st:Stmt)(t:TS):Prop:=
 ∀(ae:List (Addr×Obj)) (s:Shared) (σ:St) (H:Hp) (D:Ends),Inv X ae σ H s->t D σ H->wpAny #[2] X.A (exec st X.env) (SP X ae D) X.xe s
def PSs(X:Cx)(st:List Stmt)(t:TS):Prop:=
 ∀(ae:List (Addr×Obj)) (s:Shared) (σ:St) (H:Hp) (D:Ends),Inv X ae σ H s->t D σ H->wpAny #[2] X.A (execs st X.env) (SP X ae D) X.xe s
theorem thn{α:Type}{t:Sem α}{Q Q':α->Shared->Prop}{M:Model}{A:Around}{E:Value->Shared->Prop}{s:Shared}(h:wpAny M A t Q E s)(hQ:∀a s,Q a s->Q' a s):wpAny M A t Q' E s:=tH h hQ λ_ _ x=>x
section
variable{X:Cx}
theorem bin{a b:Expr}{ta tb:TE}(ha:PE X a ta)(hb:PE X b tb){ae:List (Addr×Obj)}{s:Shared}{σ:St}{H:Hp}{R:V->V->Hp->Prop}(I:Inv X ae σ H s)(h:ta σ H λx H1=>tb σ H1 λy H2=>R x y H2)
  {α:Type} {Q:α->Shared->Prop} {f:Value->Value->Sem α}
  (hf:∀v u s2 x y H2,Inv X ae σ H2 s2->RelV x v->RelV y u->R x y H2->wpAny #[2] X.A (f v u) Q X.xe s2) :
  wpAny #[2] X.A (eval a X.env) (λv s₁=>wpAny #[2] X.A (eval b X.env) (λu s₂=>wpAny #[2] X.A (f v u) Q X.xe s₂) X.xe s₁) X.xe s:=by
 refine thn (ha ae s σ H _ I h) λv s1 ⟨x,H1,I1,r1,q1⟩=>?_;refine thn (hb ae s1 σ H1 _ I1 q1) λu s2 ⟨y,H2,I2,r2,q2⟩=>?_;exact hf v u s2 x y H2 I2 r1 r2 q2
def kH(i:Nat):TE:=fun σ H Q=>∃v,σ[i]? = some (some v)/\Q v H
def tC(v:V):TE:=λ_ H Q=>Q v H
theorem pe_var{i:Nat}{x:Str}{pos:Pos}(hN:X.N[i]? = some x)(hv:Vis X.env.scope x)(hd:(x==("__debug__" :Str))=false:=by decide)(hcd:(x==("__classdict__" :Str))=false:=by decide):PE X (.Name x pos) (kH i):=by
 intro ae s σ H Q I h;obtain⟨v,e,h⟩:=h;obtain⟨m,hn,hl⟩:=I.loc;obtain⟨u,r,l⟩:=hl i x v hN e hv;have fin:EP X ae σ Q u s:=⟨v,H,I,r,h⟩;rcases l with⟨hk,hm⟩ | ⟨hk,c,hc,hcell⟩
 ·exact wpAny_Name (wpAny_loadName_local I.ok.kind hk hn hm fin) hd
 ·rcases hk with hk | hk
  ·exact wpAny_Name (wpAny_loadName_cell I.ok.kind hk hc hcell fin) hd
  ·exact wpAny_Name (wpAny_loadName_free I.ok.kind hk hc hcell fin hcd) hd
theorem jB{i j pos} :PE X (.Constant (.int i) j pos) (tC (.int i)):=λ_ _ _ H _ I h=>wpAny_Constant_int ⟨.int i,H,I.tok _,⟨_,rfl⟩,h⟩
theorem KC{b j pos} :PE X (.Constant (.bool b) j pos) (tC (.bl b)):=λ_ _ _ H _ I h=>Constant_bool ⟨.bl b,H,I,rfl,h⟩
theorem IK{j pos} :PE X (.Constant .none j pos) (tC .non):=λ_ _ _ H _ I h=>Constant_none ⟨.non,H,I,rfl,h⟩
theorem MO{x j pos} :PE X (.Constant (.str x) j pos) (tC (.str x)):=λ_ _ _ H _ I h=>Calls.Constant_str ⟨.str x,H,I.tok _,⟨_,rfl⟩,h⟩
def Gl(X:Cx)(x:Str):Prop:=X.env.kindOf x=some .globalImplicit
theorem CI{E:Value->Shared->Prop}{ae:List (Addr×Obj)}{s:Shared}{σ:St}{H:Hp}{x:Str}{u:Value}{pos:Pos}{Q:Value->Shared->Prop}(I:Inv X ae σ H s)(hg:Gl X x)(hm:X.mg x=some u)(h:Q u s)
  (hd:(x==("__debug__" :Str))=false:=by decide):wpAny #[2] X.A (eval (.Name x pos) X.env) Q E s:=
 Calls.Name_function_global I.ok.kind hg (Calls.loadGlobal_global (by rw[I.ok.glob];exact I.mod.glob.keeps I.bk) hm h) hd
theorem uD{E:Value->Shared->Prop}{ae:List (Addr×Obj)}{s:Shared}{σ:St}{H:Hp}{x:Str}{u:Value}{pos:Pos}{Q:Value->Shared->Prop}(I:Inv X ae σ H s)(hg:Gl X x)(hm:X.mg x=none)(hv:bootBuiltins x=some u)(h:Q u s)
  (hn:x≠"__name__":=by decide) (hd:(x==("__debug__" :Str))=false:=by decide):wpAny #[2] X.A (eval (.Name x pos) X.env) Q E s:=by
 obtain⟨mb,h1,h2⟩:=I.mod.blt;exact Calls.Name_function_global I.ok.kind hg (Calls.loadGlobal_builtin (by rw[I.ok.glob];exact I.mod.glob.keeps I.bk) hm (by rw[I.ok.blt];exact h1.keeps I.bk) ((h2 x hn).trans hv) h) hd
theorem kF{x:Str}{v:V}{u:Value}{pos:Pos}(hg:Gl X x)(hm:X.mg x=some u)(r:RelV v u)(hd:(x==("__debug__" :Str))=false:=by decide):PE X (.Name x pos) (tC v):=
 λ_ _ _ H _ I h=>CI I hg hm ⟨v,H,I,r,h⟩ hd
theorem OT{x:Str}{v:V}{u:Value}{pos:Pos}(hg:Gl X x)(hm:X.mg x=none)(hv:bootBuiltins x=some u)(r:RelV v u)(hn:x≠"__name__":=by decide)(hd:(x==("__debug__" :Str))=false:=by decide):PE X (.Name x pos) (tC v):=
 λ_ _ _ H _ I h=>uD I hg hm hv ⟨v,H,I,r,h⟩ hn hd
variable{a b:Expr}{ta tb:TE}{pos:Pos}
def PC(X:Cx)(op:CmpOp)(a b:Expr)(t:TE):Prop:=
 ∀(ae:List (Addr×Obj)) (s:Shared) (σ:St) (H:Hp) (Q:VK),Inv X ae σ H s->t σ H Q->
  wpAny #[2] X.A (eval a X.env) (λv s₁=>wpAny #[2] X.A (eval b X.env) (λu s₂=>wpAny #[2] X.A (compareOp op v u) (EP X ae σ Q) X.xe s₂) X.xe s₁) X.xe s
theorem WT(b:Expr){op:CmpOp}(h:op≠.In)(h2:op≠.NotIn):behindInMarks op b=false:=by
 have e1:(op==CmpOp.In)=false:=by cases op<;>first | rfl | exact absurd rfl h
 have e2:(op==CmpOp.NotIn)=false:=by cases op<;>first | rfl | exact absurd rfl h2
 cases b<;>simp [behindInMarks,e1,e2]
def tIsN(ta:TE):TE:=fun σ H Q=>ta σ H λx H1=>Q (.bl (decide (x=.non))) H1
theorem RelV.none_iff{x:V}{v:Value}(r:RelV x v):(v==Value.none)=decide (x=.non):=by
 cases x with
 | non=>cases r;rfl
 | bl _=>cases r;rfl
 | int _=>obtain⟨t,rfl⟩:=r;rfl
 | str _=>obtain⟨t,rfl⟩:=r;rfl
 | byt _=>obtain⟨t,rfl⟩:=r;rfl
 | flt _=>obtain⟨t,rfl⟩:=r;rfl
 | ref _=>cases r;rfl
 | ty _=>cases r;rfl
theorem pc_isN{j pos'}(ha:PE X a ta):PC X .Is a (.Constant .none j pos') (tIsN ta):=by
 intro ae s σ H Q I h;refine thn (ha ae s σ H _ I h) λv s1 ⟨x,H1,I1,r1,q1⟩=>?_;exact Constant_none (is_none_gen ⟨.bl _,H1,I1,by rw[r1.none_iff];rfl,q1⟩)
def tB(t:TE):TT:=fun σ H Q=>t σ H λx H1=>∃c,x=.bl c/\Q c H1
theorem VR{op:CmpOp}{t:TE}(h:PC X op a b t)(h1:behindInMarks op b=false:=by first | exact WT _ #[1] #[1] | rfl):PT X (.Compare a [op] [b] pos) (tB t):=by
 intro ae s σ H Q I hw;refine wpAny_isTrue_Compare1 (thn (h ae s σ H _ I hw) λv s1 h1=>thn h1 λu s2 h2=>thn h2 λc s3 ⟨x,H1,I1,r1,q1⟩=>?_) h1;obtain⟨d,rfl,q⟩:=q1;cases r1;exact wpAny_truthy_bool ⟨H1,I1,q⟩
theorem yU{e:Expr}{t:TE}(h:PE X e t)(he:∀whole,isTrue e X.env whole=(do let v<-whole;standAt e.pos;holding [v] (truthy v)):=by intro _;rfl):PT X e (tB t):=by
 intro ae s σ H Q I hw;refine isTrue_plain (thn (h ae s σ H _ I hw) λv s1 ⟨x,H1,I1,r1,q1⟩=>?_) (he _);obtain⟨d,rfl,q⟩:=q1;cases r1;exact wpAny_truthy_bool ⟨H1,I1,q⟩
variable{tA tB':TT}{rest:List Expr}
def tAnd(t u:TT):TT:=fun σ H Q=>t σ H λc H1=>if c=true then u σ H1 Q else Q false H1
def tOr(t u:TT):TT:=fun σ H Q=>t σ H λc H1=>if c=true then Q true H1 else u σ H1 Q
def tNot(t:TT):TT:=fun σ H Q=>t σ H λc H1=>Q (!c) H1
theorem OR(ha:PT X a tA):PW X (.BoolOp .And [a] pos) tA:=by
 intro wh ae s σ H Q I h;refine isTrue_and (thn (ha ae s σ H Q I h) λc s1 e=>?_);cases c with
 | true=>exact isTrue_and_nil e
 | false=>exact e
theorem EF(ha:PT X a tA):PW X (.BoolOp .Or [a] pos) tA:=by
 intro wh ae s σ H Q I h;refine isTrue_or (thn (ha ae s σ H Q I h) λc s1 e=>?_);cases c with
 | false=>exact isTrue_or_nil e
 | true=>exact e
theorem VQ(ha:PT X a tA)(hb:PW X (.BoolOp .And (b::rest) pos) tB'):PW X (.BoolOp .And (a::b::rest) pos) (tAnd tA tB'):=by
 intro wh ae s σ H Q I h;refine isTrue_and (thn (ha ae s σ H _ I h) λc s1 ⟨H1,I1,q1⟩=>?_);cases c with
 | true=>exact hb wh ae s1 σ H1 Q I1 q1
 | false=>exact⟨H1,I1,q1⟩
theorem JW(ha:PT X a tA)(hb:PW X (.BoolOp .Or (b::rest) pos) tB'):PW X (.BoolOp .Or (a::b::rest) pos) (tOr tA tB'):=by
 intro wh ae s σ H Q I h;refine isTrue_or (thn (ha ae s σ H _ I h) λc s1 ⟨H1,I1,q1⟩=>?_);cases c with
 | true=>exact⟨H1,I1,q1⟩
 | false=>exact hb wh ae s1 σ H1 Q I1 q1
theorem IG(ha:PT X a tA):PT X (.UnaryOp .Not a pos) (tNot tA):=by
 intro ae s σ H Q I h;exact isTrue_not (ha ae s σ H (λc H1=>Q (!c) H1) I h)
def tOrV(ta tb:TE):TE:=fun σ H Q=>ta σ H λx H1=>∃c,x=.bl c/\if c=true then Q (.bl true) H1 else tb σ H1 Q
def tNotV(ta:TE):TE:=fun σ H Q=>ta σ H λx H1=>∃c,x=.bl c/\Q (.bl (!c)) H1
theorem VW{op}{t:TE}(h:PE X a t):PE X (.BoolOp op [a] pos) t:=λae s σ H Q I hw=>BoolOp_one (h ae s σ H Q I hw)
theorem pe_or(ha:PE X a ta)(hb:PE X (.BoolOp .Or (b::rest) pos) tb):PE X (.BoolOp .Or (a::b::rest) pos) (tOrV ta tb):=by
 intro ae s σ H Q I h;refine BoolOp_or (thn (ha ae s σ H _ I h) λv s1 ⟨x,H1,I1,r1,q1⟩=>?_);obtain⟨c,rfl,q1⟩:=q1;cases r1;refine wpAny_truthy_bool ?_;cases c with
 | false=>exact hb ae s1 σ H1 Q I1 q1
 | true=>exact⟨.bl true,H1,I1,rfl,q1⟩
theorem pe_not(ha:PE X a ta):PE X (.UnaryOp .Not a pos) (tNotV ta):=by
 intro ae s σ H Q I h;refine UnaryOp_ (thn (ha ae s σ H _ I h) λv s1 ⟨x,H1,I1,r1,q1⟩=>?_);obtain⟨c,rfl,q1⟩:=q1;cases r1;exact not_of (wpAny_truthy_bool ⟨.bl (!c),H1,I1,rfl,q1⟩)
end
def SqL(K:tL)(H:Hp)(a:Addr)(xs:List V):Prop:=
 Rd H a (.lst xs)∨
  ∃(o:Obj) (its:Array Value) (n:Nat),K.lookup a=some o/\o.cls=.type "list"/\o.dict=none/\o.data=.seq its n/\its.size<=sizeLine/\Vals xs its.toList
def SqT(K:tL)(H:Hp)(a:Addr)(xs:List V):Prop:=
 Rd H a (.tup xs)∨
  ∃(o:Obj) (its:Array Value) (n:Nat),K.lookup a=some o/\o.cls=.type "tuple"/\o.data=.seq its n/\its.size<=sizeLine/\Vals xs its.toList
def absV:Value->Option V
 | .none=>some .non
 | .bool b=>some (.bl b)
 | .int i _=>some (.int i)
 | .str x _=>some (.str x)
 | .bytes b _=>some (.byt b)
 | .float b _=>some (.flt b)
 | .ref a=>some (.ref a)
 | .type n=>some (.ty n)
 | _=>none
theorem RelV.abs{x:V}{u:Value}(r:RelV x u):absV u=some x:=by
 cases x with
 | non=>cases r;rfl
 | bl _=>cases r;rfl
 | int _=>obtain⟨t,rfl⟩:=r;rfl
 | str _=>obtain⟨t,rfl⟩:=r;rfl
 | byt _=>obtain⟨t,rfl⟩:=r;rfl
 | flt _=>obtain⟨t,rfl⟩:=r;rfl
 | ref _=>cases r;rfl
 | ty _=>cases r;rfl
theorem RelV.inj{x y:V}{u:Value}(r:RelV x u)(q:RelV y u):x=y:=Option.some.inj (r.abs.symm.trans q.abs)
theorem Vals.inj:∀{xs ys:List V} {us:List Value},Vals xs us->Vals ys us->xs=ys
 | _,_,_,.nil,.nil=>rfl
 | _,_,_,.cons r t,.cons r' t'=>by rw[r.inj r',Vals.inj t t']
section
variable{X:Cx}{ae:List (Addr×Obj)}{σ:St}{H:Hp}{s:Shared}{a:Addr}{xs ys:List V}
theorem SqL.of{K:tL}(h:H a=some (.lst xs)):SqL K H a xs:=.inl (.inl h)
theorem SqT.of{K:tL}(h:H a=some (.tup xs)):SqT K H a xs:=.inl (.inl h)
theorem Inv.list(I:Inv X ae σ H s)(h:SqL X.K H a xs):∃its:List Value,Vals xs its/\PlainL s.heap a its.toArray/\xs.length<=sizeLine:=by
 rcases h with h | ⟨o,its,n,hk,hc,hd,hs,hz,r⟩
 ·obtain⟨z,its,n,r,e⟩:=h.ok I.hok;exact⟨its,r,⟨_,n,e,rfl,rfl,rfl⟩,z⟩
 ·refine⟨its.toList,r,⟨o,n,I.kIn a o hk,hc,hd,by simpa using hs⟩, ?_⟩;have e:=r.length;simp only[Array.length_toList]at e;omega
theorem Inv.tuple(I:Inv X ae σ H s)(h:SqT X.K H a xs):∃its:List Value,Vals xs its/\IsTup s.heap a its.toArray/\xs.length<=sizeLine:=by
 rcases h with h | ⟨o,its,n,hk,hc,hs,hz,r⟩
 ·obtain⟨z,its,r,p⟩:=h.ok I.hok;exact⟨its,r,p.1,z⟩
 ·refine⟨its.toList,r,⟨o,I.kIn a o hk,hc,n,by simpa using hs⟩, ?_⟩;have e:=r.length;simp only[Array.length_toList]at e;omega
theorem Inv.list_inj(I:Inv X ae σ H s)(h:SqL X.K H a xs)(h':SqL X.K H a ys):xs=ys:=by
 obtain⟨its,r,⟨o,n,e,_,_,d⟩,_⟩:=I.list h;obtain⟨its',r',⟨o',n',e',_,_,d'⟩,_⟩:=I.list h';rw[e]at e';cases e';rw[d]at d';injection d' with d1 _
 have:its=its':=by simpa using congrArg Array.toList d1
 subst this;exact r.inj r'
theorem Inv.tuple_inj(I:Inv X ae σ H s)(h:SqT X.K H a xs)(h':SqT X.K H a ys):xs=ys:=by
 obtain⟨its,r,⟨o,e,_,n,d⟩,_⟩:=I.tuple h;obtain⟨its',r',⟨o',e',_,n',d'⟩,_⟩:=I.tuple h';rw[e]at e';cases e';rw[d]at d';injection d' with d1 _
 have:its=its':=by simpa using congrArg Array.toList d1
 subst this;exact r.inj r'
end
abbrev Cx.wish(X:Cx)(E:Value->Shared->Prop):Cx:={ X with xe:=E }
abbrev Cx.nox(X:Cx):Cx:=X.wish λ_ _=>False
theorem Cx.Ok.wish{X:Cx}(ok:X.Ok)(E:Value->Shared->Prop):(X.wish E).Ok:=
 ⟨ok.mod,ok.kind,ok.glob,ok.blt,ok.above,ok.inj,ok.has,ok.cab,ok.hd,ok.frames,ok.stk,ok.exf,ok.bs,ok.bsz,ok.noex,ok.exfs,ok.funs,ok.frf⟩
theorem Cx.Ok.unwish{X:Cx}{E:Value->Shared->Prop}(ok:(X.wish E).Ok):X.Ok:=
 ⟨ok.mod,ok.kind,ok.glob,ok.blt,ok.above,ok.inj,ok.has,ok.cab,ok.hd,ok.frames,ok.stk,ok.exf,ok.bs,ok.bsz,ok.noex,ok.exfs,ok.funs,ok.frf⟩
section
variable{X:Cx}{ae:List (Addr×Obj)}{σ:St}{H:Hp}{s:Shared}{E:Value->Shared->Prop}
theorem Inv.wish(I:Inv X ae σ H s)(E:Value->Shared->Prop):Inv (X.wish E) ae σ H s:=⟨I.ok.wish E,I.os,I.bare,I.base,I.loc,I.cell,I.free,I.freeC,I.pin,I.hok,I.len⟩
theorem Inv.unwish(I:Inv (X.wish E) ae σ H s):Inv X ae σ H s:=⟨I.ok.unwish,I.os,I.bare,I.base,I.loc,I.cell,I.free,I.freeC,I.pin,I.hok,I.len⟩
theorem SP.unwish{D:Ends}{f:Flow}{s':Shared}(h:SP (X.wish E) ae D f s'):SP X ae D f s':=by
 cases f with
 | next=>obtain⟨σ',H',I,q⟩:=h;exact⟨σ',H',I.unwish,q⟩
 | brk=>obtain⟨σ',H',I,q⟩:=h;exact⟨σ',H',I.unwish,q⟩
 | cont=>obtain⟨σ',H',I,q⟩:=h;exact⟨σ',H',I.unwish,q⟩
 | ret u=>obtain⟨v,σ',H',I,r,q⟩:=h;exact⟨v,σ',H',I.unwish,r,q⟩
theorem PSs.nox{st:List Stmt}{t:TS}(h:PSs X.nox st t):PSs X st t:=λae s σ H D I hw=>
 tH (h ae s σ H D (I.wish _) hw) (λ_ _ q=>q.unwish) λ_ _ z=>False.elim z
end
section
variable{X:Cx}{st:Stmt}{rest:List Stmt}{t u:TS}{e:Expr}{te:TE}{pos:Pos}
def tNext:TS:=λD σ H=>D.nx σ H
def vZ(t u:TS):TS:=λD σ H=>t { D with nx:=u D } σ H
theorem jV:PSs X [] tNext:=λ_ _ σ H _ I h=>wpAny_execs_nil ⟨σ,H,I,h⟩
theorem jD(h1:PS X st t)(h2:PSs X rest u):PSs X (st::rest) (vZ t u):=by
 intro ae s σ H D I h;refine wpAny_execs_cons (thn (h1 ae s σ H { D with nx:=u D } I h) λf s1 q=>?_);cases f with
 | next=>
  obtain⟨σ',H',I',q⟩:=q;exact h2 ae s1 σ' H' D I' q
 | ret v=>exact q
 | brk=>exact q
 | cont=>exact q
theorem jF(h1:PS X st t):PSs X [st] t:=by
 intro ae s σ H D I h;refine wpAny_execs_cons (thn (h1 ae s σ H D I h) λf s1 q=>?_);cases f with
 | next=>exact wpAny_execs_nil q
 | ret v=>exact q
 | brk=>exact q
 | cont=>exact q
theorem Inv.quiet{ae:List (Addr×Obj)}{σ:St}{H:Hp}{s:Shared}(I:Inv X ae σ H s):interactive X.env=false:=by simp [interactive,I.ok.kind]
def tDrop(te:TE):TS:=λD σ H=>te σ H λ_ H1=>D.nx σ H1
theorem xY(he:PE X e te)(hs:swapsWith e none pos.line X.env=pure false:=by rfl):PS X (.Expr e pos) (tDrop te):=by
 intro ae s σ H D I h;exact wpAny_Expr_any (thn (he ae s σ H _ I h) λv s1 ⟨x,H1,I1,r1,q1⟩=>⟨σ,H1,I1,q1⟩) I.quiet hs
def RN(te:TE):TS:=λD σ H=>te σ H D.rt
theorem jO(he:PE X e te):PS X (.Return (some e) pos) (RN te):=by
 intro ae s σ H D I h;exact wpAny_Return_some (thn (he ae s σ H _ I h) λv s1 ⟨x,H1,I1,r1,q1⟩=>⟨x,σ,H1,I1,r1,q1⟩)
def RO(c:TT)(t u:TS):TS:=λD σ H=>c σ H λb H1=>if b=true then t D σ H1 else u D σ H1
theorem kT{c:Expr}{a b:List Stmt}{tc:TT}(hc:PT X c tc)(ha:PSs X a t)(hb:PSs X b u):PS X (.If c a b pos) (RO tc t u):=by
 intro ae s σ H D I h;refine wpAny_If (thn (hc ae s σ H _ I h) λd s1 ⟨H1,I1,q1⟩=>?_);cases d with
 | true=>exact ha ae s1 σ H1 D I1 q1
 | false=>exact hb ae s1 σ H1 D I1 q1
def tNever:TS:=λ_ _ _=>False
theorem zU:PS X st tNever:=λ_ _ _ _ _ _ h=>h.elim
theorem FP{sts:List Stmt} :PSs X sts tNever:=λ_ _ _ _ _ _ h=>h.elim
end
abbrev TG:=V->St->Hp->(St->Hp->Prop)->Prop
abbrev TGs:=List V->St->Hp->(St->Hp->Prop)->Prop
def PG(X:Cx)(target:Expr)(t:TG):Prop:=
 ∀(ae:List (Addr×Obj)) (s:Shared) (σ:St) (H:Hp) (v:V) (u:Value) (Q:St->Hp->Prop),Inv X ae σ H s->RelV v u->t v σ H Q->
  wpAny #[2] X.A (assign target X.env u) (λ_ s'=>∃σ' H',Inv X ae σ' H' s'/\Q σ' H') X.xe s
def PGs(X:Cx)(ts:List Expr)(t:TGs):Prop:=
 ∀(ae:List (Addr×Obj)) (s:Shared) (σ:St) (H:Hp) (vs:List V) (us:List Value) (Q:St->Hp->Prop),Inv X ae σ H s->Vals vs us->t vs σ H Q->
  wpAny #[2] X.A (assignInOrder ((assignEach ts X.env).map (·.2)) us) (λ_ s'=>∃σ' H',Inv X ae σ' H' s'/\Q σ' H') X.xe s
abbrev TSet:=V->V->V->Hp->(Hp->Prop)->Prop
def PSet(X:Cx)(t:TSet):Prop:=
 ∀(ae:List (Addr×Obj)) (s:Shared) (σ:St) (H:Hp) (o i v:V) (ov iv u:Value) (Q:Hp->Prop),Inv X ae σ H s->RelV o ov->RelV i iv->RelV v u->t o i v H Q->
  wpAny #[2] X.A (setItem ov iv u) (λ_ s'=>∃H',Inv X ae σ H' s'/\Q H') X.xe s
section
variable{X:Cx}{pos:Pos}
def jT(i:Nat):TG:=λv σ H Q=>Q (σ.set i (some v)) H
theorem jJ{i:Nat}{x:Str}(hN:X.N.Nodup)(hi:X.N[i]? = some x)(hx:Loc X.env.scope x)(hf:X.fn x=true∨X.env.scope.names.lookup x=some .local:=by first | exact .inl rfl | exact .inr rfl | assumption):PG X (.Name x pos) (jT i):=by
 intro ae s σ H v u Q I r h;exact wpAny_assign_Name (yL I hN hi hx r (λs' I'=>⟨_,H,I',h⟩) hf)
def gNil:TGs:=λvs σ H Q=>vs=[]/\Q σ H
def vX(t:TG)(u:TGs):TGs:=λvs σ H Q=>∃v r,vs=v::r/\t v σ H fun σ' H'=>u r σ' H' Q
theorem kP:PGs X [] gNil:=by
 intro ae s σ H vs us Q I r h;obtain⟨e,h⟩:=h;subst e;cases r;exact assignInOrder_nil ⟨σ,H,I,h⟩
theorem jM{e:Expr}{es:List Expr}{t:TG}{u:TGs}(h1:PG X e t)(h2:PGs X es u)
  (hs:(assignEach (e::es) X.env).map (·.2)=assign e X.env::(assignEach es X.env).map (·.2):=by rfl):PGs X (e::es) (vX t u):=by
 intro ae s σ H vs us Q I r h;obtain⟨v,vr,e1,h⟩:=h;subst e1;cases r with
 | cons r rr=>
  rw[hs];refine assignInOrder_cons (thn (h1 ae s σ H _ _ _ I r h) λ_ s1 ⟨σ1,H1,I1,q1⟩=>?_);exact h2 ae s1 σ1 H1 _ _ Q I1 rr q1
def FI(K:tL)(n:Nat)(t:TGs):TG:=λv σ H Q=>∃a xs,v=.ref a/\SqT K H a xs/\xs.length=n/\t xs σ H Q
theorem qD{es:List Expr}{k:Nat}{t:TGs}{n:Nat}(hc:X.calm=true)(h:PGs X es t)
  (hn:(assignEach es X.env).length=n:=by rfl) (hst:(assignEach es X.env).findIdx? (·.1)=none:=by rfl):PG X (.Tuple es k pos) (FI X.K n t):=by
 intro ae s σ H v u Q I r hw;obtain⟨a,xs,e1,hq,hl,hw⟩:=hw;subst e1;cases r;obtain⟨its,rv,ht,hz⟩:=I.tuple hq;refine assign_Tuple_tuple (I.ok.hd hc) ht (by simp [hn,<-hl,rv.length]) hst λh' hx=>?_;have I1:Inv X ae σ H { s with heap:=h' } :=I.kept (t':=s.toks) λb o e=>hx b o (nO (nJ e)) e;exact h ae _ σ H xs _ Q I1 (by simpa using rv) hw
def LE(to ti:TE)(t:TSet):TG:=λv σ H Q=>to σ H λo H1=>ti σ H1 λi H2=>t o i v H2 λH3=>Q σ H3
theorem zX{o i:Expr}{to ti:TE}{t:TSet}(ho:PE X o to)(hi:PE X i ti)(hs:PSet X t)
  (ha:∀v,assign (.Subscript o i pos) X.env v=(do
   let ov<-holding [v] (eval o X.env);let iv<-holding [v,ov] (eval i X.env)
   standAt pos
   holding [v,ov,iv] (setItem ov iv v)
   release [v,ov,iv] []):=by intro _;rfl):PG X (.Subscript o i pos) (LE to ti t):=by
 intro ae s σ H v u Q I r h;rw[ha];refine tF (wpAny_holding (thn (ho ae s σ H _ I h) λov s1 ⟨x,H1,I1,r1,q1⟩=>?_));refine tF (wpAny_holding (thn (hi ae s1 σ H1 _ I1 q1) λiv s2 ⟨y,H2,I2,r2,q2⟩=>?_));refine tF (wpAny_standAt (tF (wpAny_holding (thn (hs ae s2 σ H2 x y v ov iv u _ I2 r1 r2 r q2) λ_ s3 ⟨H3,I3,q3⟩=>?_))));exact wpAny_release ⟨σ,H3,I3,q3⟩
def yK(te:TE)(g:TG):TS:=λD σ H=>te σ H λx H1=>g x σ H1 D.nx
theorem vQ{tg e:Expr}{te:TE}{g:TG}(he:PE X e te)(hg:PG X tg g)(hs:swapsWithSole [tg] e pos.line X.env=pure false:=by rfl)(hw:swappedStores [tg] e X.env=pure none:=by rfl)
  (h1:(assignEach [tg] X.env).map (·.2)=[assign tg X.env]:=by rfl):PS X (.Assign [tg] e pos) (yK te g):=by
 intro ae s σ H D I h;refine wpAny_Assign_stores (thn (he ae s σ H _ I h) λv s1 ⟨x,H1,I1,r1,q1⟩=>?_) hs hw;rw[h1];exact thn (hg ae s1 σ H1 x v _ I1 r1 q1) λ_ s2 q=>q
theorem jL{i:Nat}{x:Str}{e:Expr}{te:TE}{pos':Pos}(hN:X.N.Nodup)(hi:X.N[i]? = some x)(hx:Loc X.env.scope x)(he:PE X e te)(hs:swapsWith e (some (.Name x pos')) pos.line X.env=pure false:=by rfl)(hf:X.fn x=true∨X.env.scope.names.lookup x=some .local:=by first | exact .inl rfl | exact .inr rfl | assumption) :
  PS X (.Assign [.Name x pos'] e pos) (yK te (jT i)):=by
 intro ae s σ H D I h;refine wpAny_Assign_Name (thn (he ae s σ H _ I h) λv s1 ⟨y,H1,I1,r1,q1⟩=>?_) hs;exact yL I1 hN hi hx r1 (λs2 I2=>⟨_,H1,I2,q1⟩) hf
def tPar(i j:Nat)(ta:TA):TS:=λD σ H=>ta σ H λvs H1=>∃v w,vs=[v,w]/\D.nx ((σ.set i (some v)).set j (some w)) H1
theorem MM{i j:Nat}{x y:Str}{a b:Expr}{ta:TA}{px py pt:Pos}{kt k2 pt2}(hc:X.calm=true)(hN:X.N.Nodup)(hi:X.N[i]? = some x)(hj:X.N[j]? = some y)(hij:i≠j)
  (hx:X.env.scope.names.lookup x=some .local) (hy:X.env.scope.names.lookup y=some .local) (ha:PA X [a,b] ta)
  (hw:swappedStores [.Tuple [.Name x px,.Name y py] kt pt] (.Tuple [a,b] k2 pt2) X.env=pure (some [x,y]))
  (hs:swapsWithSole [.Tuple [.Name x px,.Name y py] kt pt] (.Tuple [a,b] k2 pt2) pos.line X.env=pure false:=by rfl) :
  PS X (.Assign [.Tuple [.Name x px,.Name y py] kt pt] (.Tuple [a,b] k2 pt2) pos) (tPar i j ta):=by
 intro ae s σ H D I h;rw[exec_Assign_arm];refine tF (wpAny_standAt ?_);rw[hs];refine tF (tG ?_);rw[tJ #[1]];refine tF (Tuple_ (thn (ha _ ae s σ H _ I h) λus s1 ⟨vs,H1,I1,r1,q1⟩=>?_));obtain⟨v,w,e1,q1⟩:=q1;subst e1;obtain⟨u1,u2,rfl,rv,rw'⟩:∃u1 u2,us=[u1,u2]/\RelV v u1/\RelV w u2:=by
  cases r1 with
  | cons p q=>
   cases q with
   | cons p' q'=>
    cases q';exact⟨_,_,rfl,p,p'⟩
 refine wpAny_newObj_type ?_ uX ;have I2:Inv X ae σ H1 { s1 with heap:=s1.heap.push { cls:=.type "tuple",data:=.seq [u1,u2].toArray } } :=I1.kept (t':=s1.toks) λb o e=>gH _ e;rw[hw];refine tF (tG ?_);show wpAny #[2] X.A (do rule "assign.swapped-stores";let items<-unpackItems (.ref s1.heap.objs.size) 2 none;assignInOrder [λv=>bindName X.env y v,λv=>bindName X.env x v] items.reverse;pure Flow.next) _ _ _;refine tF (wpAny_rule (tF (unpackItems_tuple (items:=#[u1,u2]) (I.ok.hd hc) (IsTup.new s1.heap _) λh' hx'=>?_)));have I3:=I2.kept (h':=h') (t':=s1.toks) λb o e=>hx' b o (nO (nJ e)) e;show wpAny _ _ (assignInOrder [λv=>bindName X.env y v,λv=>bindName X.env x v] [u2,u1] >>= λ_=>pure Flow.next) _ _ _;refine tF (assignInOrder_cons (wpAny_bindName (yL I3 hN hj (.inl hy) rw' (λs2 I4=>?_) (.inr hy))));refine assignInOrder_cons (wpAny_bindName (yL I4 hN hi (.inl hx) rv (λs3 I5=>assignInOrder_nil (tG ?_)) (.inr hx)));rw[List.set_comm _ _ (Ne.symm hij)]at I5;exact⟨_,H1,I5,q1⟩
end
section
variable{X:Cx}{pos:Pos}
def LX(c:TT)(tb:TS):TS:=λD σ H=>∃W:Nat->St->Hp->Prop,(∃m,W m σ H)/\∀m σ H,W m σ H->
 c σ H λb H1=>if b=true then ∃N:St->Hp->Prop,(∀σ' H',N σ' H'->∃m',m'<m/\W m' σ' H')/\tb { D with nx:=N,ct:=N,bk:=D.nx } σ H1 else D.nx σ H1
theorem JZ{c:Expr}{body:List Stmt}{tc:TT}{tb:TS}(hp:PassesOwn #[2] X.A X.env X.xe)(hc:PT X c tc)(hb:PSs X body tb):PS X (.While c body [] pos) (LX tc tb):=by
 intro ae s σ H D I h;obtain⟨W,⟨m0,w0⟩,turn⟩:=h;refine wpAny_While (codeAny_whileLoop (λn s'=>∃σ' H',Inv X ae σ' H' s'/\W n σ' H') ?_ m0 ⟨σ,H,I,w0⟩);rintro n s1 ⟨σ1,H1,I1,w1⟩;refine wpAny_passesOwn hp (thn (hc ae s1 σ1 H1 _ I1 (turn n σ1 H1 w1)) λb s2 ⟨H2,I2,q2⟩=>?_);cases b with
 | true=>
  obtain⟨N,hN,q2⟩:=q2;rw[tK rfl];refine wpAny_passesOwn hp (thn (hb ae s2 σ1 H2 _ I2 q2) λf s3 q3=>?_);cases f with
  | next=>
   obtain⟨σ3,H3,I3,n3⟩:=q3;obtain⟨m',hm,w3⟩:=hN σ3 H3 n3;exact⟨m',hm,σ3,H3,I3,w3⟩
  | cont=>
   obtain⟨σ3,H3,I3,n3⟩:=q3;obtain⟨m',hm,w3⟩:=hN σ3 H3 n3;exact⟨m',hm,σ3,H3,I3,w3⟩
  | brk=>exact q3
  | ret v=>exact q3
 | false=>
  rw[tJ gW];exact wpAny_execs_nil ⟨σ1,H2,I2,q2⟩
end
structure It where
 go:Nat->Hp->Prop
 yld:Nat->Hp->V->Hp->Prop
 stop:Nat->Hp->Prop
def FpOk(X:Cx)(ae:List (Addr×Obj))(H:Hp)(b:Addr):Prop:=
 H b=none/\b≠X.env.locals/\b∉X.fs/\(b∈X.ex∨X.s₀.heap.objs.size<=b)/\(∀x c,X.env.cells.lookup x=some c->c≠b)/\∀p∈X.pn++ae,p.1≠b
theorem Inv.fpOk{X:Cx}{ae:List (Addr×Obj)}{σ:St}{H H':Hp}{s:Shared}{b:Addr}(I:Inv X ae σ H s)(hb:s.heap.objs.size<=b)(hn:H' b=none):FpOk X ae H' b:=by
 refine⟨hn,Nat.ne_of_gt (gX I.lt hb),I.nofs hb,.inr (nN I.sz hb),λx c e z=>?_,λp hp z=>?_⟩
 ·obtain⟨v,q⟩:=I.cell x c e;exact absurd (gX q.lt (by rw[z];exact hb)) (mY _)
 ·exact absurd (gX (nJ (I.pin p hp).1) (by rw[z];exact hb)) (mY _)
structure Turn(P:Program)(w:World)(K:tL)(tg:Expr)(J:It)(fp:List Addr)(it:Addr)(tn:Nat->Heap->Prop):Prop where
 mem:it∈fp
 obj:∀i h,tn i h->∀b∈fp,∃o,h.get? b=some o/\∀v,o.data≠.cell v
 keep:∀i h h',tn i h->(∀b∈fp,∀o,h.get? b=some o->h'.get? b=some o)->tn i h'
 item:∀(X:Cx),X.prog=P->X.w=w->X.K=K->X.calm=true->∀(i:Nat) (ae:List (Addr×Obj)) (s:Shared) (σ:St) (H:Hp) (E:Value->Shared->Prop),Inv X ae σ H s->(∀b∈fp,FpOk X ae H b)->tn i s.heap->J.go i H->
  wpAny (model P w) X.A (pyNext (.ref it)) (λr s1=>∃u,r=some u/\
   wpAny (model P w) X.A (letOwnedTupleGo tg (.ref it) u) (λ_ s2=>∃x H',Inv X ae σ H' s2/\RelV x u/\J.yld i H x H'/\tn (i+1) s2.heap/\∀b∈fp,H' b=none) E s1) E s
 done:∀(X:Cx),X.prog=P->X.w=w->X.K=K->X.calm=true->∀(i:Nat) (ae:List (Addr×Obj)) (s:Shared) (σ:St) (H:Hp) (E:Value->Shared->Prop),Inv X ae σ H s->(∀b∈fp,FpOk X ae H b)->tn i s.heap->J.stop i H->
  wpAny (model P w) X.A (pyNext (.ref it)) (λr s1=>r=none/\Inv X ae σ H s1) E s
 self:∀(A:Around) (i:Nat) (s:Shared) (Q:Value->Shared->Prop) (E:Value->Shared->Prop),tn i s.heap->Q (.ref it) s->wpAny (model P w) A (pyIter (.ref it)) Q E s
abbrev TI:=St->Hp->(It->Hp->Prop)->Prop
def PIE(X:Cx)(ae:List (Addr×Obj))(σ:St)(tg:Expr)(R:It->Hp->Prop)(itv:Value)(s2:Shared):Prop:=
 ∃(it:Addr) (fp:List Addr) (tn:Nat->Heap->Prop) (J:It) (H':Hp),itv=.ref it/\Inv X ae σ H' s2/\Turn X.prog X.w X.K tg J fp it tn/\tn 0 s2.heap/\(∀b∈fp,FpOk X ae H' b)/\R J H'
def PI(X:Cx)(tg iter:Expr)(wi:TI):Prop:=
 ∀(ae:List (Addr×Obj)) (s:Shared) (σ:St) (H:Hp) (R:It->Hp->Prop),Inv X ae σ H s->wi σ H R->
  wpAny #[2] X.A (eval iter X.env) (λv s1=>wpAny #[2] X.A (pyIter v) (PIE X ae σ tg R) X.xe s1) X.xe s
theorem LB{M:Model}{A:Around}{E:Value->Shared->Prop}{s:Shared}{tg:Expr}{it:Addr}{u:Value}{o:Obj}{n:String}{vs:Array Value}{Q:Unit->Shared->Prop}(ho:s.heap.get? it=some o)(hc:o.cls=.type n)(hd:o.data=.fields vs)
  (hn:["enumerate","zip","dict_itemiterator","dict_reverseitemiterator","odict_iterator","itertools.zip_longest","itertools.pairwise"].contains n=false) (hQ:Q () s):wpAny M A (letOwnedTupleGo tg (.ref it) u) Q E s:=by
 unfold letOwnedTupleGo;cases tg<;>first
  | exact tG hQ
  | (cases u<;>first
    | exact tG hQ
    | (refine tF (wpAny_load ho ?_);rw[hc,hd];show wpAny M A (if (["enumerate","zip","dict_itemiterator","dict_reverseitemiterator","odict_iterator","itertools.zip_longest","itertools.pairwise"].contains n&&vs[0]? ==some (rawInt _))=true then _ else _) Q E s;rw[tJ (by intro h;rw[hn,Bool.false_and]at h;cases h)];exact tG hQ))
def Itl(K:tL)(a:Addr):It:=
 ⟨λi H=>∃xs x,SqL K H a xs/\xs[i]? = some x,λi H x H'=>H'=H/\∀xs,SqL K H a xs->xs[i]? = some x,λi H=>∃xs,SqL K H a xs/\xs.length<=i⟩
def Itt(K:tL)(a:Addr):It:=
 ⟨λi H=>∃xs x,SqT K H a xs/\xs[i]? = some x,λi H x H'=>H'=H/\∀xs,SqT K H a xs->xs[i]? = some x,λi H=>∃xs,SqT K H a xs/\xs.length<=i⟩
def Itr(lo:Int)(n:Nat):It:=⟨λi _=>i<n,λi H x H'=>H'=H/\x=.int (lo+i),λi _=>n<=i⟩
theorem RL{P:Program}{w:World}{K:tL}{tg:Expr}(a it:Addr):Turn P w K tg (Itl K a) [it] it (λi h=>h.IsListIter it a i) where
 mem:=by simp
 obj:=λi h st b hb=>by
  have e:b=it:=by simpa using hb
  subst e;obtain⟨o,e,c,d⟩:=st;exact⟨o,e,λv z=>by rw[d]at z;cases z⟩
 keep:=λi h h' st k=>st.at λo e=>k it (by simp) o e
 item:=by
  intro X hP hw hK hc i ae s σ H E I hf st hg;subst hP hw hK;obtain⟨xs,x,hq,hx⟩:=hg;obtain⟨its,rv,p,hz⟩:=I.list hq;obtain⟨u,hu,ru⟩:=rv.get hx;obtain⟨f0,f1,f2,f3,f4,f5⟩:=hf it (by simp);refine wpAny_pyNext_list_item st p.isList (x:=u) (by simpa using hu) λh' st' sb=>?_;have I1:Inv X ae σ H { s with heap:=h' } :=I.turned (t':=s.toks) (λb o hb e=>(sb.2 b hb).trans e) f0 f1 f3 f4 f5;obtain⟨o,e,c,d⟩:=id st';exact⟨u,rfl,LB (s:={ s with heap:=h' }) e c d #[1] ⟨x,H,I1,ru,⟨rfl,λys hy=>by rw[I.list_inj hy hq];exact hx⟩,st',λb hb=>(hf b hb).1⟩⟩
 done:=by
  intro X hP hw hK hc i ae s σ H E I hf st hg;subst hP hw hK;obtain⟨xs,hq,hx⟩:=hg;obtain⟨its,rv,p,hz⟩:=I.list hq;obtain⟨f0,f1,f2,f3,f4,f5⟩:=hf it (by simp);have hl:=rv.length;exact wpAny_pyNext_list_end (I.ok.hd hc) st p.isList (by simp;omega) λh' eb=>⟨rfl,I.turned (t':=s.toks) (λb o hb e=>eb b o hb e) f0 f1 f3 f4 f5⟩
 self:=λ_ _ _ _ _ st h=>wpAny_pyIter_listiter st h
theorem LU{P:Program}{w:World}{K:tL}{tg:Expr}(a it:Addr):Turn P w K tg (Itt K a) [it] it (λi h=>h.IsTupleIter it a i) where
 mem:=by simp
 obj:=λi h st b hb=>by
  have e:b=it:=by simpa using hb
  subst e;obtain⟨o,e,c,d⟩:=st;exact⟨o,e,λv z=>by rw[d]at z;cases z⟩
 keep:=λi h h' st k=>st.at λo e=>k it (by simp) o e
 item:=by
  intro X hP hw hK hc i ae s σ H E I hf st hg;subst hP hw hK;obtain⟨xs,x,hq,hx⟩:=hg;obtain⟨its,rv,p,hz⟩:=I.tuple hq;obtain⟨u,hu,ru⟩:=rv.get hx;obtain⟨f0,f1,f2,f3,f4,f5⟩:=hf it (by simp);refine wpAny_pyNext_tuple_item st (show s.heap.IsTuple a its.toArray from p) (x:=u) (by simpa using hu) λh' st' sb=>?_;have I1:Inv X ae σ H { s with heap:=h' } :=I.turned (t':=s.toks) (λb o hb e=>(sb.2 b hb).trans e) f0 f1 f3 f4 f5;obtain⟨o,e,c,d⟩:=id st';exact⟨u,rfl,LB (s:={ s with heap:=h' }) e c d #[1] ⟨x,H,I1,ru,⟨rfl,λys hy=>by rw[I.tuple_inj hy hq];exact hx⟩,st',λb hb=>(hf b hb).1⟩⟩
 done:=by
  intro X hP hw hK hc i ae s σ H E I hf st hg;subst hP hw hK;obtain⟨xs,hq,hx⟩:=hg;obtain⟨its,rv,p,hz⟩:=I.tuple hq;obtain⟨f0,f1,f2,f3,f4,f5⟩:=hf it (by simp);have hl:=rv.length;exact wpAny_pyNext_tuple_end (I.ok.hd hc) st (show s.heap.IsTuple a its.toArray from p) (by simp;omega) λh' eb=>⟨rfl,I.turned (t':=s.toks) (λb o hb e=>eb b o hb e) f0 f1 f3 f4 f5⟩
 self:=λ_ _ _ _ _ st h=>wpAny_pyIter_tupleiter st h
theorem LV{P:Program}{w:World}{K:tL}{tg:Expr}(it:Addr)(lo:Int)(n:Nat):Turn P w K tg (Itr lo n) [it] it (λi h=>IsRangeIter h it (lo+(i:Nat)*1) ((n:Int)-(i:Nat)) 1) where
 mem:=by simp
 obj:=λi h st b hb=>by
  have e:b=it:=by simpa using hb
  subst e;exact⟨_,st,λv z=>by
   have z':Data.fields _=Data.cell v:=z;cases z'⟩
 keep:=λi h h' st k=>k it (by simp) _ st
 item:=by
  intro X hP hw hK hc i ae s σ H E I hf st hg;subst hP hw hK;obtain⟨f0,f1,f2,f3,f4,f5⟩:=hf it (by simp);have W:=Walks.range (prog:=X.prog) (w:=X.w) (I.ok.hd hc) it lo 1 n;refine W.item i s _ _ hg st λv h' tk hv st' kk=>?_;obtain⟨t,rfl⟩:=hv;have I1:Inv X ae σ H { s with heap:=h',toks:=tk } :=I.turned (λb o hb e=>kk b o (by simpa using hb) e) f0 f1 f3 f4 f5;refine⟨_,rfl,LB (s:={ s with heap:=h',toks:=tk }) (n:="range_iterator") st' rfl rfl #[1] ⟨.int (lo+i),H,I1,⟨t, ?_⟩,⟨rfl,rfl⟩,st',λb hb=>(hf b hb).1⟩⟩;rw[Int.mul_one]
 done:=by
  intro X hP hw hK hc i ae s σ H E I hf st hg;subst hP hw hK;obtain⟨f0,f1,f2,f3,f4,f5⟩:=hf it (by simp);exact wpAny_pyNext_range_end (I.ok.hd hc) st (by have:n<=i:=hg;omega) λh' eb=>⟨rfl,I.turned (t':=s.toks) (λb o hb e=>eb b o hb e) f0 f1 f3 f4 f5⟩
 self:=λ_ _ _ _ _ st h=>wpAny_pyIter_rangeiter st h
section
variable{X:Cx}{tg:Expr}
def iList(K:tL)(tl:TE):TI:=fun σ H R=>tl σ H λx H1=>∃a,x=.ref a/\(∃xs,SqL K H1 a xs)/\R (Itl K a) H1
def iTup(K:tL)(tl:TE):TI:=fun σ H R=>tl σ H λx H1=>∃a,x=.ref a/\(∃xs,SqT K H1 a xs)/\R (Itt K a) H1
theorem uQ{l:Expr}{tl:TE}(hl:PE X l tl):PI X tg l (iList X.K tl):=by
 intro ae s σ H R I h;refine thn (hl ae s σ H _ I h) λv s1 ⟨x,H1,I1,r1,q1⟩=>?_;obtain⟨a,e,⟨xs,hq⟩,q⟩:=q1;subst e;cases r1;obtain⟨its,rv,p,hz⟩:=I1.list hq;refine wpAny_pyIter_list p.isList ?_;refine⟨s1.heap.objs.size,[s1.heap.objs.size],_,_,H1,rfl,I1.kept (t':=s1.toks) λb o e=>gH _ e,RL a _,⟨_,gT _ rfl,rfl,rfl⟩,λb hb=>?_,q⟩;have e:b=s1.heap.objs.size:=by simpa using hb
 subst e;exact I1.fpOk uU (I1.hok.fresh uU)
theorem AU{l:Expr}{tl:TE}(hl:PE X l tl):PI X tg l (iTup X.K tl):=by
 intro ae s σ H R I h;refine thn (hl ae s σ H _ I h) λv s1 ⟨x,H1,I1,r1,q1⟩=>?_;obtain⟨a,e,⟨xs,hq⟩,q⟩:=q1;subst e;cases r1;obtain⟨its,rv,p,hz⟩:=I1.tuple hq;refine wpAny_pyIter_tuple (show s1.heap.IsTuple a its.toArray from p) ?_;refine⟨s1.heap.objs.size,[s1.heap.objs.size],_,_,H1,rfl,I1.kept (t':=s1.toks) λb o e=>gH _ e,LU a _,⟨_,gT _ rfl,rfl,rfl⟩,λb hb=>?_,q⟩;have e:b=s1.heap.objs.size:=by simpa using hb
 subst e;exact I1.fpOk uU (I1.hok.fresh uU)
theorem VO{ae:List (Addr×Obj)}{σ:St}{H:Hp}{s:Shared}{R:It->Hp->Prop}{E:Value->Shared->Prop}{lo hi:Int}{t u v:Tok}{tk:Nat}(I:Inv X ae σ H s)(h1: -(2^62)<=lo)(h2:lo<2^62)(h3: -(2^62)<=hi)(h4:hi<2^62)
  (q:R (Itr lo (hi-lo).toNat) H):wpAny #[2] X.A (pyIter (.ref s.heap.objs.size)) (PIE X ae σ tg R) E { s with heap:=s.heap.push { cls:=.type "range",data:=.fields #[.int lo t,.int hi u,.int 1 v] },toks:=tk } :=by
 refine wpAny_pyIter_range (IsRange.new ..) (small_one h1 h2 h3 h4) ?_;have I1:Inv X ae σ H { s with heap:=s.heap.push { cls:=.type "range",data:=.fields #[.int lo t,.int hi u,.int 1 v] },toks:=tk } :=I.kept λb o e=>gH _ e;refine⟨(s.heap.push { cls:=.type "range",data:=.fields #[.int lo t,.int hi u,.int 1 v] }).objs.size,[(s.heap.push { cls:=.type "range",data:=.fields #[.int lo t,.int hi u,.int 1 v] }).objs.size],_,_,H,rfl,
  I1.kept (t':=tk) λb o e=>gH _ e,LV _ lo (hi-lo).toNat, ?_,λb hb=>?_,q⟩
 ·have e1:lo+((0:Nat):Int)*1=lo:=by simp
  have e2:(((hi-lo).toNat:Nat):Int)-((0:Nat):Int)=Builtin.Range.rangeSize lo hi 1:=by rw[rangeSize_one];split<;>omega
  show IsRangeIter _ _ (lo+((0:Nat):Int)*1) ((((hi-lo).toNat:Nat):Int)-((0:Nat):Int)) 1;rw[e1,e2];exact gT _ rfl
 ·have e:b=(s.heap.push { cls:=.type "range",data:=.fields #[.int lo t,.int hi u,.int 1 v] }).objs.size:=by simpa using hb
  subst e;exact I1.fpOk uU (I1.hok.fresh uU)
def iRng1(ta:TA):TI:=fun σ H R=>ta σ H λvs H1=>∃j:Int,vs=[.int j]/\-(2^62)<=j/\j<2^62/\R (Itr 0 j.toNat) H1
theorem qV{a:Expr}{ta:TA}{p pos:Pos}(hg:Gl X "range")(hm:X.mg "range" = none)(ha:PA X [a] ta)(hs:starEach [a] X.env=[(false,eval a X.env)]:=by rfl):PI X tg (.Call (.Name "range" p) [a] [] pos) (iRng1 ta):=by
 intro ae s σ H R I h;refine Call_ (uD I hg hm boot_range (PyProof.Rows.callWith_type1 (thn (ha pos ae s σ H _ I h) λus s1 ⟨vs,H1,I1,r1,q1⟩=>?_) hs rfl));obtain⟨j,e,q1,q2,q⟩:=q1;subst e;cases r1 with
 | cons r rr=>
  cases rr;obtain⟨t,rfl⟩:=r;exact call_range_1 (VO I1 #[0] #[0] q1 q2 (by simpa using q))
def tFor(wi:TI)(g:TG)(tb:TS):TS:=λD σ H=>wi σ H λJ H1=>∃W:Nat->Nat->St->Hp->Prop,(∃m,W 0 m σ H1)/\∀i m σ H,W i m σ H->
 (J.stop i H/\D.nx σ H)∨(J.go i H/\∃N:St->Hp->Prop,(∀σ' H',N σ' H'->∃m',m'<m/\W (i+1) m' σ' H')/\∀x H',J.yld i H x H'->g x σ H' fun σ2 H2=>tb { D with nx:=N,ct:=N,bk:=D.nx } σ2 H2)
def IJ(fp:List Addr)(h:Heap):List (Addr×Obj):=fp.filterMap λb=>(h.get? b).map λo=>(b,o)
theorem yX{fp:List Addr}{h:Heap}{b:Addr}{o:Obj}(hb:b∈fp)(e:h.get? b=some o):(b,o)∈IJ fp h:=List.mem_filterMap.mpr ⟨b,hb,by rw[e];rfl⟩
theorem SN{fp:List Addr}{h:Heap}{p:Addr×Obj}(hp:p∈IJ fp h):p.1∈fp/\h.get? p.1=some p.2:=by
 obtain⟨b,hb,e⟩:=List.mem_filterMap.mp hp;cases q:h.get? b with
 | none=>rw[q]at e;cases e
 | some o=>
  rw[q]at e;have e':(b,o)=p:=Option.some.inj e;subst e';exact⟨hb,q⟩
theorem Inv.pinned{ae:List (Addr×Obj)}{σ:St}{H:Hp}{s:Shared}{fp:List Addr}(I:Inv X ae σ H s)(hf:∀b∈fp,FpOk X ae H b)(ho:∀b∈fp,∃o,s.heap.get? b=some o/\∀v,o.data≠.cell v):Inv X (ae++IJ fp s.heap) σ H s:=
 I.pins_of λp hp=>(mO.mp hp).elim (λz=>I.pin p (gJ _ z)) λz=>by
  obtain⟨hb,e⟩:=SN z;obtain⟨f0,f1,f2,_⟩:=hf p.1 hb;obtain⟨o,e',d⟩:=ho p.1 hb;rw[e]at e';cases e';exact⟨e,f0,f1,f2,d⟩
theorem Inv.unpinned{ae pl:List (Addr×Obj)}{σ:St}{H:Hp}{s:Shared}(I:Inv X (ae++pl) σ H s):Inv X ae σ H s:=I.pins_of λp hp=>I.pin p (gJ _ (List.mem_append_left _ hp))
theorem kU{iter:Expr}{body:List Stmt}{wi:TI}{g:TG}{tb:TS}{pos:Pos}(hp:PassesOwn #[2] X.A X.env X.xe)(hc:X.calm=true)(hi:PI X tg iter wi)(hg:PG X tg g)(hb:PSs X body tb)
  (hs:∀x,foldedSetIterable iter X.env x=pure x:=by intro _;rfl):PS X (.For tg iter body [] pos) (tFor wi g tb):=by
 intro ae s σ H D I h;refine wpAny_For (thn (hi ae s σ H _ I h) λv s1 h1=>thn h1 λitv s2 h2=>?_) hs;obtain⟨it,fp,tn,J,H2,e,I2,T,st2,f2,W,⟨m0,w0⟩,turn⟩:=h2;subst e;have stat:∀{H':Hp},(∀b∈fp,H' b=none)->∀b∈fp,FpOk X ae H' b:=λhn b hb=>⟨hn b hb,(f2 b hb).2⟩;refine codeAny_forLoop_any (λn s'=>∃i σ' H',Inv X ae σ' H' s'/\tn i s'.heap/\(∀b∈fp,H' b=none)/\W i n σ' H') ?_ m0 ⟨0,σ,H2,I2,st2,λb hb=>(f2 b hb).1,w0⟩;rintro n s3 ⟨i,σ3,H3,I3,st3,fr3,w3⟩;rcases turn i n σ3 H3 w3 with⟨stop,qn⟩ | ⟨go,N,hN,step⟩
 ·refine wpAny_passesOwn hp (thn (T.done X rfl rfl rfl hc i ae s3 σ3 H3 X.xe I3 (stat fr3) st3 stop) λr s4 ⟨hr,I4⟩=>?_);subst hr;exact wpAny_execs_nil ⟨σ3,H3,I4,qn⟩
 ·refine wpAny_passesOwn hp (thn (T.item X rfl rfl rfl hc i ae s3 σ3 H3 X.xe I3 (stat fr3) st3 go) λr s4 ⟨u,hr,h4⟩=>?_);subst hr;refine wpAny_passesOwn hp (thn h4 λ_ s5 ⟨x,H5,I5,r5,y5,st5,fr5⟩=>?_);have I5':=I5.pinned (stat fr5) (T.obj _ _ st5);refine wpAny_passesOwn hp (thn (hg _ s5 σ3 H5 x u _ I5' r5 (step x H5 y5)) λ_ s6 ⟨σ6,H6,I6,q6⟩=>?_);refine wpAny_passesOwn hp (thn (hb _ s6 σ6 H6 _ I6 q6) λf s7 q7=>?_);have again:∀{σ7:St} {H7:Hp},Inv X (ae++IJ fp s5.heap) σ7 H7 s7->N σ7 H7->∃m,m<n/\∃i σ' H',Inv X ae σ' H' s7/\tn i s7.heap/\(∀b∈fp,H' b=none)/\W i m σ' H':=fun {σ7 H7} I7 n7=>by
   obtain⟨m',hm,w7⟩:=hN σ7 H7 n7;refine⟨m',hm,i+1,σ7,H7,I7.unpinned,T.keep _ _ _ st5 λb hb o e=>(I7.pin (b,o) (gJ _ (gJ _ (yX hb e)))).1,λb hb=>?_,w7⟩;obtain⟨o,e,d⟩:=T.obj _ _ st5 b hb;exact(I7.pin (b,o) (gJ _ (gJ _ (yX hb e)))).2.1
  cases f with
  | next=>obtain⟨σ7,H7,I7,n7⟩:=q7;exact again I7 n7
  | cont=>obtain⟨σ7,H7,I7,n7⟩:=q7;exact again I7 n7
  | brk=>obtain⟨σ7,H7,I7,q7⟩:=q7;exact⟨σ7,H7,I7.unpinned,q7⟩
  | ret v=>obtain⟨x7,σ7,H7,I7,r7,q7⟩:=q7;exact⟨x7,σ7,H7,I7.unpinned,r7,q7⟩
end
theorem LF{K:tL}{a:Addr}{xs:List V}{g:TG}{tb:TS}{D:Ends}{σ:St}{H:Hp}(Pv:Nat->St->Hp->Prop)(h0:Pv 0 σ H)(hl:∀i σ H,i<=xs.length->Pv i σ H->SqL K H a xs)
  (hs:∀i x σ H,xs[i]? = some x->Pv i σ H->g x σ H fun σ2 H2=>tb { D with nx:=Pv (i+1),ct:=Pv (i+1),bk:=D.nx } σ2 H2) (hd:∀σ H,Pv xs.length σ H->D.nx σ H) :
  ∃W:Nat->Nat->St->Hp->Prop,(∃m,W 0 m σ H)/\∀i m σ H,W i m σ H->
   ((Itl K a).stop i H/\D.nx σ H)∨((Itl K a).go i H/\∃N:St->Hp->Prop,(∀σ' H',N σ' H'->∃m',m'<m/\W (i+1) m' σ' H')/\∀x H',(Itl K a).yld i H x H'->g x σ H' fun σ2 H2=>tb { D with nx:=N,ct:=N,bk:=D.nx } σ2 H2):=by
 refine⟨λi m σ H=>m=xs.length-i/\i<=xs.length/\Pv i σ H,⟨xs.length,by simp,nY _,h0⟩, ?_⟩;rintro i m σ H ⟨rfl,hi,p⟩;have q:=hl i σ H hi p;by_cases hlt:i<xs.length
 ·refine .inr ⟨⟨xs,xs[i],q,by simp [hlt]⟩,Pv (i+1),fun σ' H' p'=>⟨xs.length-(i+1),by omega,rfl,hlt,p'⟩,λx H' y=>?_⟩;obtain⟨e,y⟩:=y;subst e;exact hs i x σ _ (y xs q) p
 ·have e:i=xs.length:=by omega
  subst e;exact .inl ⟨⟨xs,q,nX _⟩,hd σ H p⟩
theorem CO{K:tL}{a:Addr}{xs:List V}{g:TG}{tb:TS}{D:Ends}{σ:St}{H:Hp}(Pv:Nat->St->Hp->Prop)(h0:Pv 0 σ H)(hl:∀i σ H,i<=xs.length->Pv i σ H->SqT K H a xs)
  (hs:∀i x σ H,xs[i]? = some x->Pv i σ H->g x σ H fun σ2 H2=>tb { D with nx:=Pv (i+1),ct:=Pv (i+1),bk:=D.nx } σ2 H2) (hd:∀σ H,Pv xs.length σ H->D.nx σ H) :
  ∃W:Nat->Nat->St->Hp->Prop,(∃m,W 0 m σ H)/\∀i m σ H,W i m σ H->
   ((Itt K a).stop i H/\D.nx σ H)∨((Itt K a).go i H/\∃N:St->Hp->Prop,(∀σ' H',N σ' H'->∃m',m'<m/\W (i+1) m' σ' H')/\∀x H',(Itt K a).yld i H x H'->g x σ H' fun σ2 H2=>tb { D with nx:=N,ct:=N,bk:=D.nx } σ2 H2):=by
 refine⟨λi m σ H=>m=xs.length-i/\i<=xs.length/\Pv i σ H,⟨xs.length,by simp,nY _,h0⟩, ?_⟩;rintro i m σ H ⟨rfl,hi,p⟩;have q:=hl i σ H hi p;by_cases hlt:i<xs.length
 ·refine .inr ⟨⟨xs,xs[i],q,by simp [hlt]⟩,Pv (i+1),fun σ' H' p'=>⟨xs.length-(i+1),by omega,rfl,hlt,p'⟩,λx H' y=>?_⟩;obtain⟨e,y⟩:=y;subst e;exact hs i x σ _ (y xs q) p
 ·have e:i=xs.length:=by omega
  subst e;exact .inl ⟨⟨xs,q,nX _⟩,hd σ H p⟩
theorem qW{lo:Int}{n:Nat}{g:TG}{tb:TS}{D:Ends}{σ:St}{H:Hp}(Pv:Nat->St->Hp->Prop)(h0:Pv 0 σ H)
  (hs:∀i σ H,i<n->Pv i σ H->g (.int (lo+i)) σ H fun σ2 H2=>tb { D with nx:=Pv (i+1),ct:=Pv (i+1),bk:=D.nx } σ2 H2) (hd:∀σ H,Pv n σ H->D.nx σ H) :
  ∃W:Nat->Nat->St->Hp->Prop,(∃m,W 0 m σ H)/\∀i m σ H,W i m σ H->
   ((Itr lo n).stop i H/\D.nx σ H)∨((Itr lo n).go i H/\∃N:St->Hp->Prop,(∀σ' H',N σ' H'->∃m',m'<m/\W (i+1) m' σ' H')/\∀x H',(Itr lo n).yld i H x H'->g x σ H' fun σ2 H2=>tb { D with nx:=N,ct:=N,bk:=D.nx } σ2 H2):=by
 refine⟨λi m σ H=>m=n-i/\i<=n/\Pv i σ H,⟨n,by simp,nY _,h0⟩, ?_⟩;rintro i m σ H ⟨rfl,hi,p⟩;by_cases hlt:i<n
 ·refine .inr ⟨hlt,Pv (i+1),fun σ' H' p'=>⟨n-(i+1),by omega,rfl,hlt,p'⟩,λx H' y=>?_⟩;obtain⟨e,y⟩:=y;subst e y;exact hs i σ _ hlt p
 ·have e:i=n:=by omega
  subst e;exact .inl ⟨nX _,hd σ H p⟩
theorem JG{c:TT}{tb:TS}{D:Ends}{σ:St}{H:Hp}(Pv:St->Hp->Prop)(μ:St->Hp->Nat)(h0:Pv σ H)
  (hs:∀σ H,Pv σ H->c σ H λb H1=>if b=true then tb { D with nx:=fun σ' H'=>Pv σ' H'/\μ σ' H'<μ σ H,ct:=fun σ' H'=>Pv σ' H'/\μ σ' H'<μ σ H,bk:=D.nx } σ H1 else D.nx σ H1)
  (mono:∀σ H Q Q',(∀b H1,Q b H1->Q' b H1)->c σ H Q->c σ H Q'):LX c tb D σ H:=by
 refine⟨λm σ H=>m=μ σ H/\Pv σ H,⟨_,rfl,h0⟩, ?_⟩;rintro m σ H ⟨rfl,p⟩;refine mono σ H _ _ (λb H1 q=>?_) (hs σ H p);cases b with
 | true=>exact⟨_,fun σ' H' ⟨p',l⟩=>⟨_,l,rfl,p'⟩,q⟩
 | false=>exact q
abbrev R2:=V->V->Hp->VK->Prop
def OpR(X:Cx)(f:Value->Value->Sem Value)(r:R2):Prop:=
 ∀(ae:List (Addr×Obj)) (s:Shared) (σ:St) (H:Hp) (x y:V) (v u:Value) (Q:VK),Inv X ae σ H s->RelV x v->RelV y u->r x y H Q->
  wpAny #[2] X.A (f v u) (EP X ae σ Q) X.xe s
def UnR(X:Cx)(f:Value->Sem Value)(r:V->Hp->VK->Prop):Prop:=
 ∀(ae:List (Addr×Obj)) (s:Shared) (σ:St) (H:Hp) (x:V) (v:Value) (Q:VK),Inv X ae σ H s->RelV x v->r x H Q->
  wpAny #[2] X.A (f v) (EP X ae σ Q) X.xe s
def CallR(X:Cx)(f:Value)(r:List V->Hp->VK->Prop):Prop:=
 ∀(ae:List (Addr×Obj)) (s:Shared) (σ:St) (H:Hp) (xs:List V) (us:List Value) (Q:VK),Inv X ae σ H s->Vals xs us->r xs H Q->
  wpAny #[2] X.A (call f us) (EP X ae σ Q) X.xe s
def tOp(r:R2)(ta tb:TE):TE:=fun σ H Q=>ta σ H λx H1=>tb σ H1 λy H2=>r x y H2 Q
def tUn(r:V->Hp->VK->Prop)(ta:TE):TE:=fun σ H Q=>ta σ H λx H1=>r x H1 Q
def rI(C:Int->Int->Prop)(g:Int->Int->V):R2:=λx y H Q=>∃i j,x=.int i/\y=.int j/\C i j/\Q (g i j) H
def rI0(g:Int->Int->V):R2:=λx y H Q=>∃i j,x=.int i/\y=.int j/\Q (g i j) H
def rU(g:Int->V):V->Hp->VK->Prop:=λx H Q=>∃i,x=.int i/\Q (g i) H
section
variable{X:Cx}{a b c:Expr}{ta tb tc:TE}{pos:Pos}
theorem binT(ha:PE X a ta)(hb:PE X b tb){ae:List (Addr×Obj)}{s:Shared}{σ:St}{H:Hp}{R:V->V->Hp->Prop}(I:Inv X ae σ H s)
  (h:ta σ H λx H1=>tb σ H1 λy H2=>R x y H2) {Q:Value->Shared->Prop} {f:Value->Value->Sem Value}
  (hf:∀v u s2 x y H2,Inv X ae σ H2 s2->RelV x v->RelV y u->R x y H2->wpAny #[2] X.A (f v u) Q X.xe s2) :
  wpAny #[2] X.A (eval a X.env) (λv s₁=>wpAny #[2] X.A (eval b X.env) (λu s₂=>wpAny #[2] X.A (f v u) Q X.xe s₂) X.xe s₁) X.xe s:=by
 refine thn (ha ae s σ H _ I h) λv s1 ⟨x,H1,I1,r1,q1⟩=>?_;refine thn (hb ae s1 σ H1 _ I1 q1) λu s2 ⟨y,H2,I2,r2,q2⟩=>?_;exact hf v u s2 x y H2 I2 r1 r2 q2
theorem jH{op:Operator}{r:R2}(ho:OpR X (binaryOp op) r)(ha:PE X a ta)(hb:PE X b tb):PE X (.BinOp a op b pos) (tOp r ta tb):=by
 intro ae s σ H Q I h;exact wpAny_BinOp (binT ha hb I h λv u s2 x y H2 I2 rx ry q=>ho ae s2 σ H2 x y v u Q I2 rx ry q)
theorem FR{op:UnaryOp}{r:V->Hp->VK->Prop}(ho:UnR X (unaryOp op) r)(ha:PE X a ta):PE X (.UnaryOp op a pos) (tUn r ta):=by
 intro ae s σ H Q I h;exact UnaryOp_ (thn (ha ae s σ H _ I h) λv s1 ⟨x,H1,I1,r1,q1⟩=>ho ae s1 σ H1 x v Q I1 r1 q1)
theorem opI{f:Value->Value->Sem Value}{C:Int->Int->Prop}{g:Int->Int->Int}
  (rule:∀(i j:Int) (t u:Tok) (s:Shared) (Q:Value->Shared->Prop) (E:Value->Shared->Prop),C i j->Q (.int (g i j) s.toks) { s with toks:=s.toks+1 }->wpAny #[2] X.A (f (.int i t) (.int j u)) Q E s) :
  OpR X f (rI C λi j=>.int (g i j)):=by
 intro ae s σ H x y v u Q I rx ry h;obtain⟨i,j,rfl,rfl,hc,q⟩:=h;obtain⟨t,rfl⟩:=rx;obtain⟨t',rfl⟩:=ry;exact rule i j t t' s _ _ hc ⟨.int (g i j),H,I.tok _,⟨_,rfl⟩,q⟩
theorem opI0{f:Value->Value->Sem Value}{g:Int->Int->Int}
  (rule:∀(i j:Int) (t u:Tok) (s:Shared) (Q:Value->Shared->Prop) (E:Value->Shared->Prop),Q (.int (g i j) s.toks) { s with toks:=s.toks+1 }->wpAny #[2] X.A (f (.int i t) (.int j u)) Q E s) :
  OpR X f (rI0 λi j=>.int (g i j)):=by
 intro ae s σ H x y v u Q I rx ry h;obtain⟨i,j,rfl,rfl,q⟩:=h;obtain⟨t,rfl⟩:=rx;obtain⟨t',rfl⟩:=ry;exact rule i j t t' s _ _ ⟨.int (g i j),H,I.tok _,⟨_,rfl⟩,q⟩
theorem opB0{f:Value->Value->Sem Value}{g:Int->Int->Bool}
  (rule:∀(i j:Int) (t u:Tok) (s:Shared) (Q:Value->Shared->Prop) (E:Value->Shared->Prop),Q (.bool (g i j)) s->wpAny #[2] X.A (f (.int i t) (.int j u)) Q E s) :
  OpR X f (rI0 λi j=>.bl (g i j)):=by
 intro ae s σ H x y v u Q I rx ry h;obtain⟨i,j,rfl,rfl,q⟩:=h;obtain⟨t,rfl⟩:=rx;obtain⟨t',rfl⟩:=ry;exact rule i j t t' s _ _ ⟨.bl (g i j),H,I,rfl,q⟩
def CDiv(i j:Int):Prop:=0<j/\j<1073741824
def CPow(i j:Int):Prop:=0<=j/\j<=1000000/\i.natAbs<2^64
def CMul(i j:Int):Prop:=(-(2^64)<i/\i<2^64)∨(-(2^64)<j/\j<2^64)
theorem CMul.ok{i j:Int}(h:CMul i j):IntMulOk i j:=by
 rcases h with⟨h1,h2⟩ | ⟨h1,h2⟩
 ·exact .of_left (intBits_le_64 h1 h2)
 ·exact .of_right (intBits_le_64 h1 h2)
theorem kJ:OpR X (binaryOp .Add) (rI0 λi j=>.int (i+j)):=opI0 λ_ _ _ _ _ _ _ q=>add_int q
theorem xA:OpR X (binaryOp .Sub) (rI0 λi j=>.int (i-j)):=opI0 λ_ _ _ _ _ _ _ q=>sub_int q
theorem xP:OpR X (binaryOp .Mult) (rI CMul λi j=>.int (i*j)):=opI λ_ _ _ _ _ _ _ hc q=>mul_int q hc.ok
theorem op_fdiv:OpR X (binaryOp .FloorDiv) (rI CDiv λi j=>.int (i/j)):=opI λi j _ _ _ _ _ hc q=>by
 have h1:(0:Int)<j:=hc.1;have h2:j<1073741824:=hc.2;exact floordiv_int #[0] (by rw[Int.fdiv_eq_ediv_of_nonneg i #[0]];exact q) (.inl (PyProof.noPylong_small #[0]))
theorem vA:OpR X (binaryOp .Mod) (rI (λ_ j=>0<j) λi j=>.int (i%j)):=opI λi j _ _ _ _ _ hc q=>by
 have h1:(0:Int)<j:=hc;exact mod_int' #[0] (by rw[Int.fmod_eq_emod_of_nonneg i #[0]];exact q)
theorem yF:OpR X (binaryOp .Pow) (rI CPow λi j=>.int (i^j.toNat)):=opI λ_ _ _ _ _ _ _ hc q=>pow_int_small hc.1 hc.2.1 hc.2.2 q
theorem unI{f:Value->Sem Value}{g:Int->Int}
  (rule:∀(i:Int) (t:Tok) (s:Shared) (Q:Value->Shared->Prop) (E:Value->Shared->Prop),Q (.int (g i) s.toks) { s with toks:=s.toks+1 }->wpAny #[2] X.A (f (.int i t)) Q E s) :
  UnR X f (rU λi=>.int (g i)):=by
 intro ae s σ H x v Q I rx h;obtain⟨i,rfl,q⟩:=h;obtain⟨t,rfl⟩:=rx;exact rule i t s _ _ ⟨.int (g i),H,I.tok _,⟨_,rfl⟩,q⟩
theorem AQ:UnR X (unaryOp .USub) (rU λi=>.int (-i)):=unI λ_ _ _ _ _ q=>neg_int q
end
def scal:V->V->Bool
 | .non,.non=>true | .non,.int _=>true | .int _,.non=>true | .non,.bl _=>true | .bl _,.non=>true | .non,.str _=>true | .str _,.non=>true
 | .int _,.int _=>true | .bl _,.bl _=>true | .str _,.str _=>true | .byt _,.byt _=>true
 | .int _,.str _=>true | .str _,.int _=>true | .bl _,.str _=>true | .str _,.bl _=>true
 | _,_=>false
def rEq:R2:=λx y H Q=>scal x y=true/\Q (.bl (decide (x=y))) H
def rNe:R2:=λx y H Q=>scal x y=true/\Q (.bl (!decide (x=y))) H
theorem QV{i j:Int} :decide (V.int i=V.int j)=(i==j):=by
 rw[Bool.eq_iff_iff];simp
theorem YW{i j:Bool} :decide (V.bl i=V.bl j)=(i==j):=by
 rw[Bool.eq_iff_iff];simp
theorem QU{i j:Str} :decide (V.str i=V.str j)=(i==j):=by
 rw[Bool.eq_iff_iff];simp
theorem QW{i j:Array UInt8} :decide (V.byt i=V.byt j)=(i.toList==j.toList):=by
 rw[Bool.eq_iff_iff];cases i;cases j;simp
section
variable{X:Cx}{a b c:Expr}{ta tb tc:TE}{pos:Pos}
theorem kL{ae:List (Addr×Obj)}{σ:St}{H:Hp}{s:Shared}{Q:VK}{k k':Bool}(I:Inv X ae σ H s)(q:Q (.bl k) H)(e:k=k'):EP X ae σ Q (.bool k') s:=by
 subst e;exact⟨.bl k,H,I,rfl,q⟩
theorem KF:OpR X (compareOp .Eq) rEq:=by
 intro ae s σ H x y v u Q I rx ry h;obtain⟨hs,q⟩:=h;cases x with
 | non=>
  cases rx;cases y with
  | non=>cases ry;exact PySem.EqNone.eq_none_none (kL I q (by simp))
  | bl j=>cases ry;exact PySem.EqNone.eq_none_bool (kL I q (by simp))
  | int j=>obtain⟨t',rfl⟩:=ry;exact PySem.EqNone.eq_none_int (kL I q (by simp))
  | str j=>obtain⟨t',rfl⟩:=ry;exact PySem.EqNone.eq_none_str (kL I q (by simp))
  | _=>exact absurd (show false=true from hs) gW
 | bl i=>
  cases rx;cases y with
  | non=>cases ry;exact PySem.EqNone.eq_bool_none (kL I q (by simp))
  | bl j=>cases ry;exact eq_bool (kL I q YW)
  | str j=>obtain⟨t',rfl⟩:=ry;exact PySem.EqMixed.eq_bool_str (kL I q (by simp))
  | _=>exact absurd (show false=true from hs) gW
 | int i=>
  obtain⟨t,rfl⟩:=rx;cases y with
  | non=>cases ry;exact PySem.EqNone.eq_int_none (kL I q (by simp))
  | int j=>obtain⟨t',rfl⟩:=ry;exact eq_int (kL I q QV)
  | str j=>obtain⟨t',rfl⟩:=ry;exact PySem.EqMixed.eq_int_str (kL I q (by simp))
  | _=>exact absurd (show false=true from hs) gW
 | str i=>
  obtain⟨t,rfl⟩:=rx;cases y with
  | non=>cases ry;exact PySem.EqNone.eq_str_none (kL I q (by simp))
  | bl j=>cases ry;exact PySem.EqMixed.eq_str_bool (kL I q (by simp))
  | int j=>obtain⟨t',rfl⟩:=ry;exact PySem.EqMixed.eq_str_int (kL I q (by simp))
  | str j=>obtain⟨t',rfl⟩:=ry;exact eq_str (kL I q QU)
  | _=>exact absurd (show false=true from hs) gW
 | byt i=>
  obtain⟨t,rfl⟩:=rx;cases y with
  | byt j=>obtain⟨t',rfl⟩:=ry;exact PySem.W.eq_bytes (kL I q QW)
  | _=>exact absurd (show false=true from hs) gW
 | _=>cases y<;>exact absurd (show false=true from hs) gW
theorem OW:OpR X (compareOp .NotEq) rNe:=by
 intro ae s σ H x y v u Q I rx ry h;obtain⟨hs,q⟩:=h;cases x with
 | non=>
  cases rx;cases y with
  | non=>cases ry;exact PySem.EqNone.ne_none_none (kL I q (by simp))
  | bl j=>cases ry;exact PySem.EqNone.ne_none_bool (kL I q (by simp))
  | int j=>obtain⟨t',rfl⟩:=ry;exact PySem.EqNone.ne_none_int (kL I q (by simp))
  | str j=>obtain⟨t',rfl⟩:=ry;exact PySem.EqNone.ne_none_str (kL I q (by simp))
  | _=>exact absurd (show false=true from hs) gW
 | bl i=>
  cases rx;cases y with
  | non=>cases ry;exact PySem.EqNone.ne_bool_none (kL I q (by simp))
  | bl j=>cases ry;exact ne_bool (kL I q (congrArg not YW))
  | str j=>obtain⟨t',rfl⟩:=ry;exact PySem.EqMixed.ne_bool_str (kL I q (by simp))
  | _=>exact absurd (show false=true from hs) gW
 | int i=>
  obtain⟨t,rfl⟩:=rx;cases y with
  | non=>cases ry;exact PySem.EqNone.ne_int_none (kL I q (by simp))
  | int j=>obtain⟨t',rfl⟩:=ry;exact ne_int (kL I q (congrArg not QV))
  | str j=>obtain⟨t',rfl⟩:=ry;exact PySem.EqMixed.ne_int_str (kL I q (by simp))
  | _=>exact absurd (show false=true from hs) gW
 | str i=>
  obtain⟨t,rfl⟩:=rx;cases y with
  | non=>cases ry;exact PySem.EqNone.ne_str_none (kL I q (by simp))
  | bl j=>cases ry;exact PySem.EqMixed.ne_str_bool (kL I q (by simp))
  | int j=>obtain⟨t',rfl⟩:=ry;exact PySem.EqMixed.ne_str_int (kL I q (by simp))
  | str j=>obtain⟨t',rfl⟩:=ry;exact ne_str (kL I q (congrArg not QU))
  | _=>exact absurd (show false=true from hs) gW
 | byt i=>
  obtain⟨t,rfl⟩:=rx;cases y with
  | byt j=>obtain⟨t',rfl⟩:=ry;exact PySem.W.ne_bytes (kL I q (congrArg not QW))
  | _=>exact absurd (show false=true from hs) gW
 | _=>cases y<;>exact absurd (show false=true from hs) gW
theorem FS:OpR X (compareOp .Lt) (rI0 λi j=>.bl (decide (i<j))):=opB0 λ_ _ _ _ _ _ _ q=>lt_int q
theorem xF:OpR X (compareOp .Gt) (rI0 λi j=>.bl (decide (j<i))):=opB0 λ_ _ _ _ _ _ _ q=>gt_int q
theorem op_ge:OpR X (compareOp .GtE) (rI0 λi j=>.bl (decide (j<=i))):=opB0 λ_ _ _ _ _ _ _ q=>ge_int q
theorem jZ(b:Expr){op:CmpOp}(h:op≠.In:=by decide)(h2:op≠.NotIn:=by decide):behindInMarks op b=false:=by
 have e1:(op==CmpOp.In)=false:=by cases op<;>first | rfl | exact absurd rfl h
 have e2:(op==CmpOp.NotIn)=false:=by cases op<;>first | rfl | exact absurd rfl h2
 cases b<;>simp [behindInMarks,e1,e2]
theorem uS{op:CmpOp}{r:R2}(ho:OpR X (compareOp op) r)(ha:PE X a ta)(hb:PE X b tb)(hm:behindInMarks op b=false):PE X (.Compare a [op] [b] pos) (tOp r ta tb):=by
 intro ae s σ H Q I h;exact wpAny_Compare1 (binT ha hb I h λv u s2 x y H2 I2 rx ry q=>ho ae s2 σ H2 x y v u Q I2 rx ry q) hm
def NX(t:TE):TT:=fun σ H Q=>t σ H λx H'=>∃k,x=.bl k/\Q k H'
theorem jS{op:CmpOp}{r:R2}(ho:OpR X (compareOp op) r)(ha:PE X a ta)(hb:PE X b tb)(hm:behindInMarks op b=false):PT X (.Compare a [op] [b] pos) (NX (tOp r ta tb)):=by
 intro ae s σ H Q I h;refine wpAny_isTrue_Compare1 (thn (ha ae s σ H _ I h) λv s1 ⟨x,H1,I1,r1,q1⟩=>thn (hb ae s1 σ H1 _ I1 q1) λu s2 ⟨y,H2,I2,r2,q2⟩=>
  thn (ho ae s2 σ H2 x y v u _ I2 r1 r2 q2) λc s3 ⟨z,H3,I3,r3,k,e,q3⟩=>?_) hm
 subst e;cases r3;exact wpAny_truthy_bool ⟨H3,I3,q3⟩
theorem IT:(sizeLine:Nat)<2^63:=by rw[sizeLine_eq];decide
theorem xU{x:V}{us:List Value}(r:Vals [x] us):∃u,us=[u]/\RelV x u:=by
 cases r with
 | cons r1 r2=>cases r2;exact⟨_,rfl,r1⟩
theorem NQ{x y:V}{us:List Value}(r:Vals [x,y] us):∃u w',us=[u,w']/\RelV x u/\RelV y w':=by
 cases r with
 | cons r1 r2=>
  cases r2 with
  | cons r3 r4=>cases r4;exact⟨_,_,rfl,r1,r3⟩
theorem ZM:CallR X (.builtin "abs") (λxs H Q=>∃i,xs=[.int i]/\Q (.int (if i<0 then -i else i)) H):=by
 intro ae s σ H xs us Q I r h;obtain⟨i,rfl,q⟩:=h;obtain⟨u,rfl,t,rfl⟩:=xU r;exact call_abs_int λu tk=>⟨.int (if i<0 then -i else i),H,I.tok _,⟨_,rfl⟩,q⟩
end
structure ObjM(h:Heap)(x dx C:Addr)(mA:Str->Option Value):Prop where
 obj:h.get? x=some (PySem.W.instObj C dx)
 ns:h.Ns1 dx mA
 ne:dx≠x
theorem SS{h:Heap}{dx:Addr}{mA:Str->Option Value}(n:h.Ns1 dx mA):∃od,h.get? dx=some od/\∀name,PySem.W.lookIn name od=some (mA name):=by
 obtain⟨o,es,ep,ho,hd,hk,_,hm⟩:=n;refine⟨o,ho,λname=>?_⟩;have e:=hm name;unfold nsFind findBy at e;rw[<-Array.find?_toList]at e;unfold PySem.W.lookIn;rw[hd];dsimp only;split
 ·rename_i y q;rw[q]at e;exact congrArg some e
 ·rename_i q;rw[q]at e;have a:es.toList.any (·.refKey)=false:=by
   rw[List.any_eq_false];intro y hy;obtain⟨z,t,hkey⟩:=hk y (Array.mem_toList_iff.mp hy);simp [DictEntry.refKey,hkey]
  have a':¬es.toList.any (·.refKey)=true:=by rw[a];exact gW
  rw[tJ a'];exact congrArg some e
theorem ObjM.look{h:Heap}{x dx C:Addr}{mA:Str->Option Value}(I:ObjM h x dx C mA):∃od,PySem.W.InstAt h x (PySem.W.instObj C dx) C (some od)/\∀name,PySem.W.lookIn name od=some (mA name):=
 let ⟨od,ho,hl⟩:=SS I.ns
 ⟨od,⟨I.obj,rfl,rfl,ho⟩,hl⟩
section
variable{prog:Program}{w:World}{A:Around}{E:Value->Shared->Prop}{s:Shared}{K:tL}{x dx C f:Addr}{mA:Str->Option Value}{name:Str}{v:Value}
end
theorem RelO.some_of{v:V}{o:Option Value}(r:RelO (some v) o):∃u,o=some u/\RelV v u:=by
 cases o with
 | none=>exact(show False from r).elim
 | some u=>exact⟨u,rfl,r⟩
section
variable{P:Program}{w:World}{H H':Hp}{h h':Heap}{a C dx:Addr}{fs fs':List (Str×V)}
theorem ins_get(hok:HOk P w H h)(e:H a=some (.ins C dx fs)):∃mA,ObjM h a dx C mA/\(∀f,RelO (fs.lookup f) (mA f))/\PySem.Within mA (fs.map (·.1))/\fs.length<=1000/\H dx=some (.own a):=by
 obtain⟨d,z,ne,ob,mA,n,r,q⟩:=(show ObjOk P w H h a (.ins C dx fs)from hok a _ e);exact⟨mA,⟨ob,n,ne⟩,r,q,z,d⟩
end
structure Cls(K:tL)(C:Addr):Prop where
 pg:PySem.W.plainGet K C Str.empty=true
 hd:PySem.W.hasDictIn K C=true
 po:PySem.W.plainOver K C=true
 sa:PySem.W.findIn K (.ref C) "__setattr__" = some (some (.builtin "object.__setattr__"))
theorem Cls.get{K:tL}{C:Addr}(c:Cls K C)(f:Str):PySem.W.plainGet K C f=true:=c.pg
structure Con(K:tL)(C:Addr)(f:Str)(v:V)(u:Value):Prop where
 at_:PySem.W.findIn K (.ref C) f=some (some u)
 rel:RelV v u
 get:PySem.W.specialIn K u "__get__" = some none
 cp:PySem.W.copiedNames.contains f=false
structure Meth(K:tL)(C:Addr)(m:Str)(f:Addr):Prop where
 at_:PySem.W.findIn K (.ref C) m=some (some (.ref f))
 fn:PySem.W.isFn K (.ref f)=true
 kp:PySem.W.keepIn K (.ref f)=true
section
variable{X:Cx}{ae:List (Addr×Obj)}{σ:St}{H:Hp}{s:Shared}{a C dx:Addr}{fs:List (Str×V)}{f:Str}{v:V}{A:Around}{E:Value->Shared->Prop}
end
section
variable{X:Cx}{o e value:Expr}{f:Str}{pos pos' tpos:Pos}{ta tv:TE}
end
section
variable{X:Cx}{ae:List (Addr×Obj)}{σ:St}{H:Hp}{s:Shared}{A:Around}{E:Value->Shared->Prop}{Q:Value->Shared->Prop}{c:Value}{b:Bool}
inductive TyOf(K:tL)(H:Hp):V->Value->Prop where
 | non:TyOf K H .non (.type "NoneType")
 | bl (x:Bool):TyOf K H (.bl x) (.type "bool")
 | int (i:Int):TyOf K H (.int i) (.type "int")
 | str (x:Str):TyOf K H (.str x) (.type "str")
 | flt (x:UInt64):TyOf K H (.flt x) (.type "float")
 | lst {a:Addr} {xs:List V} (e:H a=some (.lst xs)):TyOf K H (.ref a) (.type "list")
 | frz {a:Addr} {o:Obj} {xs:List V} (e:H a=some (.frz o (.lst xs))):TyOf K H (.ref a) (.type "list")
 | tup {a:Addr} {xs:List V} (e:H a=some (.tup xs)):TyOf K H (.ref a) (.type "tuple")
 | dK {a:Addr} {ah:List (Key×V)} (e:H a=some (.dK ah)):TyOf K H (.ref a) (.type "dict")
 | dT {a:Addr} {ah:List (List Key×V)} (e:H a=some (.dT ah)):TyOf K H (.ref a) (.type "dict")
 | ins {a C dx:Addr} {fs:List (Str×V)} (e:H a=some (.ins C dx fs)) (cl:Cls K C) (ha:PySem.W.findIn K (.ref C) "__class__" = some (some (.builtin "object.__class__")))
   (hn:PySem.W.specialIn K (.builtin "object.__class__") "__get__" = some (some (.builtin "getset_descriptor.__get__"))) (htk:PySem.W.takesIn K (.builtin "object.__class__")=some true)
   (hm:PySem.W.mroIn K C (.type "object")=some true):TyOf K H (.ref a) (.ref C)
theorem SZ{x:V}{u t:Value}(I:Inv X ae σ H s)(rx:RelV x u)(ty:TyOf X.K H x t)(e:PySem.W.kitOne X.K t c=some b)(h:∀tk,Q (.bool b) { s with toks:=tk }) :
  wpAny #[2] A (call (.builtin "isinstance") [u,c]) Q E s:=by
 cases ty with
 | non=>cases (show u=Value.none from rx);exact PySem.W.kia_one PySem.W.kitx_none I.kIn True.intro e (λz=>nomatch z) h
 | bl y=>cases (show u=Value.bool y from rx);exact PySem.W.kia_one PySem.W.kitx_bool I.kIn True.intro e (λz=>nomatch z) h
 | int i=>obtain⟨t,q⟩:=(show ∃t,u=Value.int i t from rx);cases q;exact PySem.W.kia_one PySem.W.kitx_int I.kIn True.intro e (λz=>nomatch z) h
 | str y=>obtain⟨t,q⟩:=(show ∃t,u=Value.str y t from rx);cases q;exact PySem.W.kia_one PySem.W.kitx_str I.kIn True.intro e (λz=>nomatch z) h
 | flt y=>obtain⟨t,q⟩:=(show ∃t,u=Value.float y t from rx);cases q;exact PySem.W.kia_one PySem.W.kitx_float I.kIn True.intro e (λz=>nomatch z) h
 | @lst a xs ea=>
  cases (show u=Value.ref a from rx);obtain⟨_,_,n,_,h1⟩:=(show ObjOk X.prog X.w H s.heap a (.lst xs)from I.hok a _ ea);exact PySem.W.kia_one PySem.W.kitx_list I.kIn ⟨_,h1,rfl⟩ e (λz=>nomatch z) h
 | @frz a ob xs ea=>
  cases (show u=Value.ref a from rx);obtain⟨_,_,_,n,_,h1⟩:=(show ObjOk X.prog X.w H s.heap a (.frz ob (.lst xs))from I.hok a _ ea);exact PySem.W.kia_one PySem.W.kitx_list I.kIn ⟨_,h1,rfl⟩ e (λz=>nomatch z) h
 | @tup a xs ea=>
  cases (show u=Value.ref a from rx);obtain⟨_,_,_,p⟩:=(show ObjOk X.prog X.w H s.heap a (.tup xs)from I.hok a _ ea);obtain⟨o,h1,h2,_⟩:=p.1;exact PySem.W.kia_one PySem.W.kitx_tuple I.kIn ⟨o,h1,h2⟩ e (λz=>nomatch z) h
 | @dK a ah ea=>
  cases (show u=Value.ref a from rx);obtain⟨_,_,vs,_,p⟩:=(show ObjOk X.prog X.w H s.heap a (.dK ah)from I.hok a _ ea);obtain⟨o,es,ep,h1,h2,_⟩:=p;exact PySem.W.kia_one PySem.W.kitx_dict I.kIn ⟨o,h1,h2.1⟩ e (λz=>nomatch z) h
 | @dT a ah ea=>
  cases (show u=Value.ref a from rx);obtain⟨_,_,xs,_,o,es,ep,h1,h2,_⟩:=(show ObjOk X.prog X.w H s.heap a (.dT ah)from I.hok a _ ea);exact PySem.W.kia_one PySem.W.kitx_dict I.kIn ⟨o,h1,h2.1⟩ e (λz=>nomatch z) h
 | @ins a C dx fs ea cl ha hn htk hm=>
  cases (show u=Value.ref a from rx);obtain⟨mA,O,_⟩:=ins_get I.hok ea;obtain⟨od,J,_⟩:=O.look;exact PySem.W.kia_one (PySem.W.kitx_own (cl.get _) cl.hd ha hn htk hm) I.kIn J e (λz=>nomatch z) h
end
structure Room(k:Nat)(A:Around):Prop where
 hd:A.handled=none
 dp:A.depth+3*k+5<recursionLimit
 un:A.units+16*k+200<cLine
theorem Room.mono{j k:Nat}{A:Around}(r:Room k A)(h:j<=k):Room j A:=⟨r.hd,by have:=r.dp;omega,by have:=r.un;omega⟩
theorem Room.deeper{k:Nat}{A:Around}(r:Room (k+1) A)(env:Env):Room k (A.deeper env):=
 ⟨r.hd,by have:=r.dp;show A.depth+1+3*k+5<_;omega,by have:=r.un;show A.units+3+16*k+200<_;omega⟩
theorem MX{A:Around}{C:Addr}{us:List Value}{kw:List (Str×Value)} :(A.under (.builtin "type.__call__" ⟨.ref C::us,kw⟩)).depth=A.depth+1:=by
 first | rfl | simp [Around.under,Code.weight,Code.isCreation,Code.isGuard,Code.isCaller,Code.frames,Code.isFrame,guardIds]
theorem MW{A:Around}{C:Addr}{us:List Value}{kw:List (Str×Value)} :(A.under (.builtin "type.__call__" ⟨.ref C::us,kw⟩)).units=A.units+1:=by
 first | rfl | simp [Around.under,Code.cUnits,Code.frames,Code.isFrame]
theorem Room.make{k:Nat}{A:Around}(r:Room (k+1) A)(C:Addr)(us:List Value)(kw:List (Str×Value)):Room k (A.under (.builtin "type.__call__" ⟨.ref C::us,kw⟩)):=
 ⟨r.hd,by have:=r.dp;rw[MX];omega,by have:=r.un;rw[MW];omega⟩
theorem Room.depth{k:Nat}{A:Around}(r:Room k A):A.depth<recursionLimit:=by have:=r.dp;omega
theorem Room.units{k:Nat}{A:Around}(r:Room k A):A.units+64<cLine:=by have:=r.un;omega
theorem Room.units0{k:Nat}{A:Around}(r:Room k A):A.units<cLine:=by have:=r.un;omega
def tNil:TA:=λ_ H Q=>Q [] H
def qO(ta:TE)(tr:TA):TA:=fun σ H Q=>ta σ H λx H1=>tr σ H1 λxs H2=>Q (x::xs) H2
section
variable{X:Cx}{e:Expr}{es:List Expr}{te:TE}{t:TA}{pos:Pos}
theorem jC:PA X [] tNil:=λ_ _ _ _ H Q I h=>Calls.spliced_nil ⟨[],H,I,.nil,h⟩
theorem jA(ha:PE X e te)(hr:PA X es t)(hs:starEach (e::es) X.env=(false,eval e X.env)::starEach es X.env:=by rfl):PA X (e::es) (qO te t):=by
 intro pos ae s σ H Q I h;rw[hs];show wpAny _ _ (spliced ((false,eval e X.env)::backTo pos (starEach es X.env))) _ _ s;refine Calls.spliced_cons (thn (ha ae s σ H _ I h) λu s1 ⟨x,H1,I1,r1,q1⟩=>?_);exact thn (hr pos ae s1 σ H1 _ I1 q1) λus s2 ⟨xs,H2,I2,r2,q2⟩=>⟨x::xs,H2,I2,.cons r1 r2,q2⟩
def tTup(t:TA):TE:=fun σ H Q=>t σ H λxs H1=>xs.length<=sizeLine/\∀p,H1 p=none->Q (.ref p) (upd H1 p (.tup xs))
theorem pe_tup{x1}(h:PA X es t):PE X (.Tuple es x1 pos) (tTup t):=by
 intro ae s σ H Q I hq;refine wpAny_Tuple_spliced (thn (h pos ae s σ H _ I hq) λus s1 ⟨xs,H1,I1,r,z,q⟩=>⟨by rw[<-r.length];exact z, ?_⟩);have hf:H1 s1.heap.objs.size=none:=I1.hok.fresh uU ;refine⟨.ref s1.heap.objs.size,upd H1 s1.heap.objs.size (.tup xs),I1.laid (t':=s1.toks) (λb u e=>gH _ e) uU ?_,rfl,q _ hf⟩;exact⟨z,us,r,⟨_,gT _ rfl,rfl,_,rfl⟩,.of (gT _ rfl) rfl⟩
end
abbrev Sp:=List V->Hp->VK->XK->Prop
abbrev CXT:=List Env->Hp->Shared->XK->Value->Shared->Prop
structure Env0(P:Program)(w:World)(K:tL)(mg:Str->Option Value)(base:Heap)(A:Around)(outer:List Env)(s:Shared)(H:Hp):Prop where
 frames:A.frames=some outer
 mod:Mod K mg base
 bs:∀b o,base.get? b=some o->s.heap.get? b=some o/\H b=none
 bsz:base.objs.size<=s.heap.objs.size
 funs:s.heap.FunFrames base outer
 frf:∀b∈frs outer,H b=none
 hok:HOk P w H s.heap
 bare:AllBare s.gens
def CE(outer:List Env)(P:Program)(w:World)(H:Hp)(s:Shared)(Q:VK)(u:Value)(s':Shared):Prop:=
 ∃v H',s'.os=s.os/\AllBare s'.gens/\Un (frs outer) [] H H' s.heap s'.heap/\HOk P w H' s'.heap/\RelV v u/\Q v H'
def CR(CX:CXT)(outer:List Env)(P:Program)(w:World)(H:Hp)(s:Shared)(Q:VK)(E:XK)(r:Result)(s':Shared):Prop:=
 match r with
 | .ok (.ret u)=>CE outer P w H s Q u s'
 | .ok _=>False
 | .error e=>CX outer H s E e s'
structure FnOk(P:Program)(w:World)(K:tL)(mg:Str->Option Value)(base:Heap)(CX:CXT)(k:Nat)(f:Addr)(fd:FuncData)(ps:List Str)(sp:Sp):Prop where
 len:∀vs H Q E,sp vs H Q E->vs.length=ps.length
 run:∀(A:Around) (outer:List Env) (s:Shared) (H:Hp) (args:Args) (us:List Value) (vs:List V) (Q:VK) (E:XK),Room k A->Env0 P w K mg base A outer s H->BindsTo s fd args (ps.zip us)->Vals vs us->sp vs H Q E->
  codeAny (model P w) A (.call (.ref f) args) (CR CX outer P w H s Q E) s
theorem Env0.make{P:Program}{w:World}{K:tL}{mg:Str->Option Value}{base:Heap}{A:Around}{outer:List Env}{s:Shared}{H:Hp}(e:Env0 P w K mg base A outer s H)(C:Addr)(us:List Value)(kw:List (Str×Value)) :
  Env0 P w K mg base (A.under (.builtin "type.__call__" ⟨.ref C::us,kw⟩)) outer s H:=⟨by first | exact e.frames | (simpa [Around.under,Code.envs,Code.isFrame,pushEnvs]using e.frames),e.mod,e.bs,e.bsz,e.funs,e.frf,e.hok,e.bare⟩
section
variable{X:Cx}{ae:List (Addr×Obj)}{σ:St}{H:Hp}{s s':Shared}
theorem Inv.env0(I:Inv X ae σ H s):Env0 X.prog X.w X.K X.mg X.base X.A X.stack s H:=
 ⟨I.ok.frames,I.ok.mod,I.bs,nN I.ok.bsz I.sz,I.stack,I.stkFree,I.hok,I.bare⟩
theorem Inv.after{Q:VK}{u:Value}(I:Inv X ae σ H s)(h:CE X.stack X.prog X.w H s Q u s'):EP X ae σ Q u s':=by
 obtain⟨v,H',os,bare,un,hok,r,q⟩:=h;obtain⟨hh,g,d,t,os'⟩:=s';obtain rfl:os'=s.os:=os;exact⟨v,H',I.call (h':=hh) (g':=g) (d':=d) (t':=t) (ch:=[]) un hok bare (λb z=>absurd z (by simp)),r,q⟩
end
def DE(sp:Sp)(dvs:List V)(E:XK)(t:TA):TE:=fun σ H Q=>t σ H λvs H1=>sp (vs++dvs) H1 Q E
def Binds(K:tL)(fd:FuncData)(ps:List Str)(ds:List Value):Prop:=
 ∀(s:Shared) (us:List Value),K.In s.heap->(us++ds).length=ps.length->BindsTo s fd ⟨us,[]⟩ (ps.zip (us++ds))
theorem Binds.all{K:tL}{fd:FuncData}{ps:List Str}(h:∀us:List Value,us.length=ps.length->bindArgs fd ⟨us,[]⟩=pure (ps.zip us)):Binds K fd ps []:=λs us _ hl=>by
 rw[List.append_nil]at hl ⊢;exact .of_eq (h us hl)
def Passes(CX:CXT)(X:Cx)(E:XK):Prop:=∀(ae:List (Addr×Obj)) (σ:St) (H:Hp) (s:Shared) (e:Value) (s':Shared),Inv X ae σ H s->CX X.stack H s E e s'->X.xe e s'
section
variable{X:Cx}{CX:CXT}{k:Nat}{f C:Addr}{fd:FuncData}{ps:List Str}{sp:Sp}{dvs:List V}{ds:List Value}{E:XK}{x m:Str}{p pos apos:Pos}{e o:Expr}{es:List Expr}{ta:TE}{t:TA}
theorem MH{ae:List (Addr×Obj)}{σ:St}{H:Hp}{s:Shared}{Q:VK}{us:List Value}{vs:List V}(F:FnOk X.prog X.w X.K X.mg X.base CX k f fd ps sp)(hr:Room k X.A)(hb:Binds X.K fd ps ds)(hd:Vals dvs ds)(hx:Passes CX X E)
  (I:Inv X ae σ H s) (r:Vals vs us) (h:sp (vs++dvs) H Q E):wpAny #[2] X.A (call (.ref f) us) (EP X ae σ Q) X.xe s:=by
 have r2:Vals (vs++dvs) (us++ds):=r.append hd;have hl:(us++ds).length=ps.length:=by rw[<-r2.length];exact F.len _ _ _ _ h
 refine wpAny_call (codeAny_mono (F.run X.A X.stack s H ⟨us,[]⟩ (us++ds) (vs++dvs) Q E hr I.env0 (hb s us I.kIn hl) r2 h) λr s' hq=>?_);cases r with
 | error e=>exact hx ae σ H s e s' I hq
 | ok fl=>
  cases fl with
  | ret u=>exact I.after hq
  | next=>exact False.elim hq
  | brk=>exact False.elim hq
  | cont=>exact False.elim hq
theorem kG(F:FnOk X.prog X.w X.K X.mg X.base CX k f fd ps sp)(hr:Room k X.A)(hg:Gl X x)(hm:X.mg x=some (.ref f))(hk:PySem.W.keepIn X.K (.ref f)=true)(hb:Binds X.K fd ps ds)(hd:Vals dvs ds)(hx:Passes CX X E)
  (ha:PA X (e::es) t) (hdb:(x==("__debug__" :Str))=false:=by decide) (he:starEach (e::es) X.env=(false,eval e X.env)::starEach es X.env:=by rfl) (hpl:(backTo pos (starEach es X.env)).any (·.1)=false:=by rfl) :
  PE X (.Call (.Name x p) (e::es) [] pos) (DE sp dvs E t):=by
 intro ae s σ H Q I h;refine wpAny_Call_Name_kw (CI I hg hm ?_ hdb);refine PySem.W.callWith_K (h₀:=X.base) I.ok.mod.kin hk (thn (ha pos ae s σ H _ I h) λus s1 ⟨vs,H1,I1,r,q⟩=>⟨I1.kIn, ?_⟩) he hpl;exact MH F hr hb hd hx I1 r q
structure Mk(K:tL)(C f:Addr):Prop where
 makes:PySem.W.makesIn K C=true
 init:PySem.W.findIn K (.ref C) "__init__" = some (some (.ref f))
 fn:PySem.W.isFn K (.ref f)=true
 kp:PySem.W.keepIn K (.ref C)=true
end
def PK(X:Cx)(kws:List Keyword)(t:TA):Prop:=
 ∀(pos:Pos) (ae:List (Addr×Obj)) (s:Shared) (σ:St) (H:Hp) (Q:List V->Hp->Prop),Inv X ae σ H s->t σ H Q->wpAny #[2] X.A (evalAll ((backToKw pos (keywordEach kws X.env)).map (·.2))) (AP X ae σ Q) X.xe s
section
variable{X:Cx}{CX:CXT}{k:Nat}{f C:Addr}{fd:FuncData}{ps ks:List Str}{sp:Sp}{E:XK}{x m:Str}{p pos apos kpos:Pos}{e o:Expr}{es:List Expr}{kws:List Keyword}{te ta:TE}{t tk:TA}{nm:Option Str}
theorem pk_nil:PK X [] tNil:=λ_ _ _ _ H Q I h=>wpAny_evalAll_nil ⟨[],H,I,.nil,h⟩
theorem uP(ha:PE X e te)(hr:PK X kws t):PK X (⟨nm,e,kpos⟩::kws) (qO te t):=by
 intro pos ae s σ H Q I h;show wpAny _ _ (evalAll ((do let v<-eval e X.env;standAt pos;pure v)::(backToKw pos (keywordEach kws X.env)).map (·.2))) _ _ s;refine wpAny_evalAll_cons (tF (thn (ha ae s σ H _ I h) λu s1 ⟨x,H1,I1,r1,q1⟩=>tF (wpAny_standAt (tG ?_))));exact thn (hr pos ae s1 σ H1 _ I1 q1) λus s2 ⟨xs,H2,I2,r2,q2⟩=>⟨x::xs,H2,I2,.cons r1 r2,q2⟩
structure KBinds(K:tL)(fd:FuncData)(ps ks:List Str)(g:List Value->List Value->List Value)(gV:List V->List V->List V):Prop where
 to:∀(s:Shared) (us ws:List Value),K.In s.heap->(g us ws).length=ps.length->BindsTo s fd ⟨us,ks.zip ws⟩ (ps.zip (g us ws))
 rel:∀{vs:List V} {us:List Value} {zs:List V} {ws:List Value},Vals vs us->Vals zs ws->Vals (gV vs zs) (g us ws)
variable{g:List Value->List Value->List Value}{gV:List V->List V->List V}
end
structure FnScope(N P:List Str)(sc:Scope):Prop where
 kind:sc.kind=.function
 co:sc.isCoroutine=false
 gen:sc.isGenerator=false
 nd:N.Nodup
 pre:N.take P.length=P
 par:∀x∈P,sc.names.lookup x=some .local∨sc.names.lookup x=some .cell
 nofree:∀y∈sc.names,y.2≠.free
theorem GO{kindOf:Str->Option NameKind}{x:Str} :∀{binds:List (Str×Value)} {m:Str->Option Value},(∀v,(x,v)∉binds)->bindL kindOf binds m x=m x
 | [],_,_=>rfl
 | (n,v)::r,m,h=>by
  unfold bindL;rw[GO λw hw=>h w (gN _ hw)];split
  ·have:x≠n:=by rintro rfl;exact h v gZ
   simp [this]
  ·rfl
theorem GX{kindOf:Str->Option NameKind}{x:Str} :∀{binds:List (Str×Value)} {m:Str->Option Value},(∀v,(x,v)∉binds)->bindC kindOf binds m x=m x
 | [],_,_=>rfl
 | (n,v)::r,m,h=>by
  unfold bindC;rw[GX λw hw=>h w (gN _ hw)];split
  ·rfl
  ·have:x≠n:=by rintro rfl;exact h v gZ
   simp [this]
theorem GV{kindOf:Str->Option NameKind}{x:Str}{v:Value} :∀{P:List Str} {vs:List Value} {i:Nat} {m:Str->Option Value},P.Nodup->P[i]? = some x->vs[i]? = some v->kindOf x=some .local->
  bindL kindOf (P.zip vs) m x=some v
 | [],_,_,_,_,h,_,_=>by simp at h
 | _::_,[],_,_,_,_,h,_=>by simp at h
 | p::P,w::vs,0,m,nd,h1,h2,hk=>by
  simp at h1 h2;subst h1;subst h2;show bindL kindOf ((p,w)::P.zip vs) m p=_;unfold bindL;rw[GO λv hv=>(List.nodup_cons.mp nd).1 (List.of_mem_zip hv).1,tK hk];simp
 | p::P,w::vs,i+1,m,nd,h1,h2,hk=>by
  show bindL kindOf ((p,w)::P.zip vs) m x=_;unfold bindL;exact GV (i:=i) (List.nodup_cons.mp nd).2 (by simpa using h1) (by simpa using h2) hk
theorem GY{kindOf:Str->Option NameKind}{x:Str}{v:Value} :∀{P:List Str} {vs:List Value} {i:Nat} {m:Str->Option Value},P.Nodup->P[i]? = some x->vs[i]? = some v->kindOf x≠some .local->
  bindC kindOf (P.zip vs) m x=some v
 | [],_,_,_,_,h,_,_=>by simp at h
 | _::_,[],_,_,_,_,h,_=>by simp at h
 | p::P,w::vs,0,m,nd,h1,h2,hk=>by
  simp at h1 h2;subst h1;subst h2;show bindC kindOf ((p,w)::P.zip vs) m p=_;unfold bindC;rw[GX λv hv=>(List.nodup_cons.mp nd).1 (List.of_mem_zip hv).1,tJ hk];simp
 | p::P,w::vs,i+1,m,nd,h1,h2,hk=>by
  show bindC kindOf ((p,w)::P.zip vs) m x=_;unfold bindC;exact GY (i:=i) (List.nodup_cons.mp nd).2 (by simpa using h1) (by simpa using h2) hk
def BA(N:List Str)(vs:List V):St:=vs.map some++List.replicate (N.length-vs.length) none
def xH(CX:CXT)(P:Program)(w:World)(K:tL)(mg:Str->Option Value)(base:Heap)(N:List Str)(qual:Str)(scope:Scope)(f:Addr)(cd:Value)(A:Around)(outer:List Env)(s:Shared)(H:Hp)(E:XK):Cx where
 prog:=P
 w:=w
 K:=K
 mg:=mg
 base:=base
 A:=A.deeper (envOfC qual scope s.heap.objs.size f cd)
 N:=N
 s₀:=s
 H₀:=H
 env:=envOfC qual scope s.heap.objs.size f cd
 outer:=outer
 stack:=envOfC qual scope s.heap.objs.size f cd::outer
 ex:=[]
 calm:=true
 fn:=λ_=>true
 pn:=[]
 xe:=λe s'=>wpAny (model P w) (A.deeper (envOfC qual scope s.heap.objs.size f cd)) (leaving (envOfC qual scope s.heap.objs.size f cd) e) (λ_ s''=>CX outer H s E e s'') (λe' s''=>CX outer H s E e' s'') s'
theorem LM{sc:Scope}{n:Nat}{x:Str}(h:sc.names.lookup x=some .cell):∃c,(cellsFrom n sc.names []).lookup x=some c:=by
 have q:=PySem.W.cellsFrom_some sc.names n [] (.inl h);exact Option.isSome_iff_exists.mp q
theorem TB{CX:CXT}{P:Program}{w:World}{K:tL}{mg:Str->Option Value}{base:Heap}{N ps:List Str}{qual:Str}{scope:Scope}{f:Addr}{cd:Value}{A:Around}{outer:List Env}{s s1:Shared}{H:Hp}{E:XK}{us:List Value}{vs:List V}
  (S:FnScope N ps scope) (hd:A.handled=none) (e0:Env0 P w K mg base A outer s H) (hl:vs.length=ps.length) (r:Vals vs us)
  (x:InCallC s s.heap.objs.size (bindL (envOfC qual scope s.heap.objs.size f cd).kindOf (ps.zip us) λ_=>none) (cellsFrom (s.heap.objs.size+1) scope.names []) (bindC (envOfC qual scope s.heap.objs.size f cd).kindOf (ps.zip us) λ_=>none) s1) :
  Inv (xH CX P w K mg base N qual scope f cd A outer s H E) [] (BA N vs) H s1:=by
 have hpl:ps.length<=N.length:=by have:=congrArg List.length S.pre;rw[mD]at this;omega
 obtain⟨h1,tk,rfl,hk⟩:=x.done;have noA:∀b:Addr,b∉(xH CX P w K mg base N qual scope f cd A outer s H E).ex:=λb z=>absurd (show b∈([]:List Addr)from z) (by simp);refine⟨⟨e0.mod,S.kind,rfl,rfl,nX _,λy z c h1 h2=>?_,λy hy=>?_,λy c _ h=>?_,λ_=>hd,Around.frames_deeper e0.frames,.inr ⟨rfl,rfl⟩,λb z=>absurd z (noA b),e0.bs,e0.bsz,λb _ _=>noA b,λb z=>absurd z (noA b),e0.funs,e0.frf⟩,
  rfl,e0.bare,Un.kept hk,⟨_,x.toInCall.ns,λi y v h1 h2 h3=>?_⟩,λy c h=>⟨_,x.cell y c h⟩,e0.hok.fresh uU,λy c h=>?_,λp hp=>absurd (show p∈([]:List (Addr×Obj))from hp) (by simp),e0.hok.kept hk, ?_⟩
 ·exact name_of_addr x.apart (PySem.mem_of_lookup h1) (PySem.mem_of_lookup h2)
 ·have hy:scope.names.lookup y=some .cell∨scope.names.lookup y=some .free:=hy;rcases hy with hy | hy
  ·exact LM hy
  ·exact absurd rfl (S.nofree _ (PySem.mem_of_lookup hy))
 ·exact nU (x.above y c (PySem.mem_of_lookup h))
 ·have hi:i<vs.length:=by
   unfold BA at h2;by_cases hi:i<vs.length
   ·exact hi
   ·rw[uZ (by simpa using hi)]at h2;rw[List.getElem?_replicate]at h2;split at h2<;>cases h2
  have ha:vs[i]? = some v:=by
   unfold BA at h2;rw[gC (by simpa using hi),hU]at h2;cases e:vs[i]? with
   | none=>rw[e]at h2;cases h2
   | some a=>rw[e]at h2;cases h2;rfl
  obtain⟨u,hu,rv⟩:=r.get ha;have hp:ps[i]? = some y:=by
   rw[<-S.pre,gE #[0]];exact h1
  have ndP:ps.Nodup:=by rw[<-S.pre];exact S.nd.sublist (List.take_sublist _ _)
  refine⟨u,rv, ?_⟩;rcases S.par y (gM hp)with k | k
  ·exact .inl ⟨k,GV ndP hp hu k⟩
  ·obtain⟨c,e⟩:=LM (n:=s.heap.objs.size+1) k;refine .inr ⟨.inl k,c,e, ?_⟩;have q:=x.cell y c e;rw[GY ndP hp hu (by show scope.names.lookup y≠_;rw[k];decide)]at q;exact q
 ·exact e0.hok.fresh (nU (x.above y c (PySem.mem_of_lookup h)))
 ·unfold BA;show _=N.length;rw[List.length_append,mL,gK];omega
theorem LG{CX:CXT}{P:Program}{w:World}{K:tL}{mg:Str->Option Value}{base:Heap}{k:Nat}{f:Addr}{name qual:Str}{params:Arguments}{body:List Stmt}{scope:Scope}{dV kV doc pm cdv ct oc:Value}{an od:Option Addr}
  {osl:Array (Option Value)} {N ps:List Str} {sp:Sp} (lk:K.lookup f=some ⟨oc,od,.func (PySem.W.fnOf name qual params body scope dV kV doc pm an cdv ct),osl⟩) (hcd:PySem.W.codeIn K cdv qual=true) (S:FnScope N ps scope)
  (len:∀vs H Q E,sp vs H Q E->vs.length=ps.length)
  (hbody:∀(A:Around) (outer:List Env) (s:Shared) (H:Hp) (vs:List V) (Q:VK) (E:XK),Room k (A.deeper (envOfC qual scope s.heap.objs.size f cdv))->sp vs H Q E->
   ∃t,PSs (xH CX P w K mg base N qual scope f cdv A outer s H E) body t/\t { nx:=λ_ H'=>Q .non H',rt:=Q } (BA N vs) H) :
  FnOk P w K mg base CX (k+1) f (PySem.W.fnOf name qual params body scope dV kV doc pm an cdv ct) ps sp:=by
 refine⟨len,λA outer s H args us vs Q E hr e0 hb r hsp=>?_⟩;have hl:=len _ _ _ _ hsp;have KX:K.In s.heap:=e0.mod.kin.keeps λb o e=>(e0.bs b o e).1;have lim:s.heap.NoLimit:=e0.mod.nolimit.keeps λb o e=>(e0.bs b o e).1;have hkind:∀y∈ps.zip us,scope.names.lookup y.1=some .local∨(scope.names.lookup y.1=some .cell/\((cellsFrom (s.heap.objs.size+1) scope.names []).lookup y.1).isSome=true):=λ⟨n,v⟩ hy=>by
  rcases S.par n (List.of_mem_zip hy).1 with q | q
  ·exact .inl q
  ·exact .inr ⟨q,PySem.W.cellsFrom_some _ _ _ (.inl q)⟩
 refine codeAny_call_function hr.depth (KX _ _ lk) rfl S.co S.gen rfl (PySem.W.codeRec_of KX hcd) (hb _ _ _ _ ?_);refine wpAny_newFunctionEnv_cells S.kind hkind λenv he s1 x=>?_;subst he;refine⟨lim.keeps x.toInCall.keep,codeAny_func ?_⟩;obtain⟨t,ht,hq⟩:=hbody A outer s H vs Q E (hr.deeper _) hsp;have I:Inv (xH CX P w K mg base N qual scope f cdv A outer s H E) [] (BA N vs) H s1:=TB S hr.hd e0 hl r x;refine tH (ht [] s1 (BA N vs) H _ I hq) (λfl s' hs=>?_) λe s' hs=>hs;have fin:∀{σ':St} {H':Hp} {v:V} {u:Value},Inv (xH CX P w K mg base N qual scope f cdv A outer s H E) [] σ' H' s'->RelV v u->Q v H'->CE outer P w H s Q u s':=
  fun {σ' H' v u} J rv q=>⟨v,H',J.os,J.bare,J.base,J.hok,rv,q⟩
 cases fl with
 | ret u=>
  obtain⟨v,σ',H',J,rv,q⟩:=hs;exact fin J rv q
 | next=>
  obtain⟨σ',H',J,q⟩:=hs;exact fin (v:=V.non) (u:=Value.none) J rfl q
 | brk=>
  obtain⟨_,_,_,q⟩:=hs;exact False.elim q
 | cont=>
  obtain⟨_,_,_,q⟩:=hs;exact False.elim q
section
variable{X:Cx}{x:Str}{p pos:Pos}{e:Expr}{es:List Expr}{t:TA}{id T:String}{r:List V->Hp->VK->Prop}
def tCB(r:List V->Hp->VK->Prop)(t:TA):TE:=fun σ H Q=>t σ H λvs H1=>r vs H1 Q
theorem kR(hc:CallR X (.builtin id) r)(hg:Gl X x)(hm:X.mg x=none)(hv:bootBuiltins x=some (.builtin id))(ha:PA X (e::es) t)(hn:x≠"__name__":=by decide)(hdb:(x==("__debug__" :Str))=false:=by decide)
  (he:starEach (e::es) X.env=(false,eval e X.env)::starEach es X.env:=by rfl) (hpl:(backTo pos (starEach es X.env)).any (·.1)=false:=by rfl):PE X (.Call (.Name x p) (e::es) [] pos) (tCB r t):=by
 intro ae s σ H Q I h;refine wpAny_Call_Name_kw (uD I hg hm hv ?_ hn hdb);exact PyProof.Rows.callWith_builtin1 (thn (ha pos ae s σ H _ I h) λus s1 ⟨vs,H1,I1,r1,q1⟩=>hc ae s1 σ H1 vs us Q I1 r1 q1) he hpl
theorem qF(hc:CallR X (.type T) r)(hg:Gl X x)(hm:X.mg x=none)(hv:bootBuiltins x=some (.type T))(ha:PA X (e::es) t)(hn:x≠"__name__":=by decide)(hdb:(x==("__debug__" :Str))=false:=by decide)
  (he:starEach (e::es) X.env=(false,eval e X.env)::starEach es X.env:=by rfl) (hpl:(backTo pos (starEach es X.env)).any (·.1)=false:=by rfl):PE X (.Call (.Name x p) (e::es) [] pos) (tCB r t):=by
 intro ae s σ H Q I h;refine wpAny_Call_Name_kw (uD I hg hm hv ?_ hn hdb);exact PyProof.Rows.callWith_type1 (thn (ha pos ae s σ H _ I h) λus s1 ⟨vs,H1,I1,r1,q1⟩=>hc ae s1 σ H1 vs us Q I1 r1 q1) he hpl
end
end L2
namespace HT
open PySem PyProof.Rows
section
open PySem.SeqAt
open PySem.AutoSeq1 (wpAny_loadPart')
open PySem.MeetsSeq PySem.MeetsSeq2 PySem.MeetsSeq3
end
section
variable{prog:Program}{w:World}{A:Around}{E:Value->Shared->Prop}{s:Shared}
theorem cat_tup{t b:Addr}{vs ws:List Value}{Q:Value->Shared->Prop}(ht:IsTup s.heap t vs.toArray)(hb:IsTup s.heap b ws.toArray)(hv:vs≠[])
  (h1:ws=[]->Q (.ref t) s) (h2:ws≠[]->Q (.ref s.heap.objs.size) { s with heap:=s.heap.push { cls:=.type "tuple",data:=.seq (vs++ws).toArray } })
  (hsz:vs.length+ws.length<=sizeLine):wpAny #[4] A (binaryOp .Add (.ref t) (.ref b)) Q E s:=by
 obtain⟨⟨cls,dd,data,sl⟩,ho,hc,n,hd⟩:=id ht;obtain⟨⟨cls2,dd2,data2,sl2⟩,ho2,hc2,n2,hd2⟩:=id hb;simp only at hc hd hc2 hd2;subst hc hd hc2 hd2;have e:vs.toArray++ws.toArray=(vs++ws).toArray:=by simp
 by_cases hw:ws=[]
 ·exact concat_meets ⟨_,ho,rfl⟩ ⟨_,ho2,rfl⟩ noFill_tuple_add seq_tuple_add PySem.F.slot_tuple_add PySem.F.entry_tuple_add (PySem.F.args_tuple_add_2 _ _)
   (tuple_addW1 t b vs.toArray ws.toArray n n2 dd dd2 sl sl2 (by simpa using hv) (by simp [hw])) ⟨ho,ho2,h1 hw⟩
 ·refine concat_meets ⟨_,ho,rfl⟩ ⟨_,ho2,rfl⟩ noFill_tuple_add seq_tuple_add PySem.F.slot_tuple_add PySem.F.entry_tuple_add (PySem.F.args_tuple_add_2 _ _)
   (tuple_addW2 t b vs.toArray ws.toArray n n2 dd dd2 sl sl2 (by simpa using hv) (by simpa using hw) (by rw[hV,hV];exact hsz)) ⟨ho,ho2, ?_⟩
  rw[e];exact h2 hw
def sIx(n d:Nat):Option Int->Nat
 | none=>d
 | some v=>if v<0 then(v+(n:Int)).toNat else min v.toNat n
theorem sIx_none(n d:Nat):sIx n d none=d:=rfl
theorem sIx_nat(n d k:Nat):sIx n d (some (k:Int))=min k n:=by
 show(if (k:Int)<0 then((k:Int)+(n:Int)).toNat else min (k:Int).toNat n)=min k n;rw[tJ #[0],Int.toNat_natCast]
theorem sIx_le(n d:Nat)(hd:d<=n)(o:Option Int):sIx n d o<=n:=by
 cases o with
 | none=>exact hd
 | some v=>
  show(if v<0 then(v+(n:Int)).toNat else min v.toNat n)<=n;by_cases hv:v<0
  ·rw[tK hv];omega
  ·rw[tJ hv];exact Nat.min_le_right _ _
theorem QZ(v:Int)(n d:Nat):(if v<0 then max (v+(n:Int)) 0 else min v (n:Int))=((sIx n d (some v):Nat):Int):=by
 show(if v<0 then max (v+(n:Int)) 0 else min v (n:Int))=(((if v<0 then(v+(n:Int)).toNat else min v.toNat n):Nat):Int);by_cases hv:v<0
 ·simp only[tK hv];omega
 ·simp only[tJ hv];omega
theorem NP(lo hi:Option Int)(n:Nat):Builtin.Slice.sliceAdjust lo hi 1 (n:Int)=(((sIx n 0 lo:Nat):Int),((sIx n n hi:Nat):Int)):=by
 have h1:¬((1:Int)<0):=by omega
 unfold Builtin.Slice.sliceAdjust;simp only[h1,if_false];refine Prod.ext ?_ ?_
 ·cases lo with
  | none=>rfl
  | some v=>exact QZ v n 0
 ·cases hi with
  | none=>rfl
  | some v=>exact QZ v n n
theorem MN(i j:Nat):Builtin.Slice.slicePlaces (i:Int) (j:Int) 1=j-i:=by
 unfold Builtin.Slice.slicePlaces;have h1:(1:Int)>0:=by omega
 simp only[h1,if_true,Int.ediv_one];split<;>omega
theorem DX{v:Value}{o:Option Int}{Q:Option Int->Shared->Prop}(p:IsPart v o)(h:Q o s):wpAny #[4] A (Builtin.Slice.slicePartIndex v) Q E s:=by
 cases p with
 | none=>exact slicePart_none h
 | int i t=>exact slicePart_int h
theorem yO{sl:Addr}{vl vu:Value}{lo hi:Option Int}{n:Nat}{Q:Int×Int×Nat->Shared->Prop}(hs:s.heap.IsSliceOf sl vl vu .none)(pl:IsPart vl lo)(pu:IsPart vu hi)
  (h:Q (((sIx n 0 lo:Nat):Int),1,sIx n n hi-sIx n 0 lo) s):wpAny #[4] A (Builtin.Slice.sliceApplied (.ref sl) (pure (n:Int))) Q E s:=by
 obtain⟨os,hos,hcs,hds⟩:=id hs;unfold Builtin.Slice.sliceApplied Builtin.Slice.sliceFields;refine tF (tF (wpAny_field hos hds (x:=vl) rfl (tF (wpAny_field hos hds (x:=vu) rfl (tF (wpAny_field hos hds (x:=.none) rfl (tG ?_)))))));refine tF (slicePart_none ?_);show wpAny _ _ (if ((1:Int)==0)=true then _ else _) _ _ s;rw[tJ #[1]];refine tF (DX pl (tF (DX pu (tF (tG ?_)))));show wpAny _ _ (match Builtin.Slice.sliceAdjust lo hi 1 (n:Int)with | (lo,hi)=>pure (lo,(1:Int),Builtin.Slice.slicePlaces lo hi 1)) _ _ s;rw[NP lo hi n];show wpAny _ _ (pure (((sIx n 0 lo:Nat):Int),(1:Int),Builtin.Slice.slicePlaces ((sIx n 0 lo:Nat):Int) ((sIx n n hi:Nat):Int) 1)) _ _ s;rw[MN];exact tG h
theorem VV(xs:Array Value)(i k:Nat):((List.range k).filterMap λ(m:Nat)=>xs[((i:Int)+(m:Int)*1).toNat]?).toArray=((xs.toList.drop i).take k).toArray:=by
 have e:(λ(m:Nat)=>xs[((i:Int)+(m:Int)*1).toNat]?)=λm=>xs[i+m]? :=by
  funext m
  have:((i:Int)+(m:Int)*1).toNat=i+m:=by omega
  rw[this]
 rw[e];have:=pick_run xs i k;rw[List.filterMap_map]at this;have e2:((λx=>xs[x]?) ∘ λx=>i+x)=λm=>xs[i+m]? :=rfl;rw[e2]at this;rw[this]
theorem getItem_tuple_cut{t sl:Addr}{items:Array Value}{vl vu:Value}{lo hi:Option Int}{Q:Value->Shared->Prop}(ht:IsTup s.heap t items)(hs:s.heap.IsSliceOf sl vl vu .none)(pl:IsPart vl lo)(pu:IsPart vu hi)
  (hw:¬(sIx items.size 0 lo=0/\sIx items.size items.size hi=items.size))
  (h:Q (.ref s.heap.objs.size) { s with heap:=s.heap.push { cls:=.type "tuple",data:=.seq ((items.toList.drop (sIx items.size 0 lo)).take (sIx items.size items.size hi-sIx items.size 0 lo)).toArray } })
  (hsz:items.size<=sizeLine):wpAny #[4] A (getItem (.ref t) (.ref sl)) Q E s:=by
 have htake:sizeOk (.seq ((items.toList.drop (sIx items.size 0 lo)).take (sIx items.size items.size hi-sIx items.size 0 lo)).toArray):=by
  show((items.toList.drop (sIx items.size 0 lo)).take (sIx items.size items.size hi-sIx items.size 0 lo)).toArray.size<=sizeLine;rw[hV,mD,List.length_drop,Array.length_toList];omega
 have hj:sIx items.size items.size hi<=items.size:=sIx_le _ _ uU hi;obtain⟨os,hos,hcs,hds⟩:=id hs;have hTs:s.TypeIs (.ref sl) "slice":=⟨os,hos,hcs⟩;unfold getItem;try with_reducible refine wpAny_holding ?_
 first | refine tF (tG ?_) | skip
 refine tF (wpAny_sequenceKey ht.typeIs #[1] ?_);refine tF (wpAny_callSpecial?_slot (name:=Str.ofString "__getitem__") ht.typeIs PyProof.Rows.slot_tuple_getitem
  (wpAny_call_entry PyProof.Rows.slot_tuple_getitem ht.typeIs entry_tuple_getitem ?_ (args_tuple_getitem _ _)))
 show wpAny _ _ (Builtin.Tuple.tupleItemsOf (.ref t) >>= _) _ _ s;refine tF (tupleItemsOf_ ht ?_);refine tF (wpAny_typeOf hTs ?_);rw[tK #[1]];refine tF (yO hs pl pu ?_);have hno:¬((((sIx items.size 0 lo:Nat):Int)==0&&(1:Int)==1&&(sIx items.size items.size hi-sIx items.size 0 lo)==items.size)=true):=by
  intro q;rw[mI,mI]at q;have q1:((sIx items.size 0 lo:Nat):Int)=0:=eq_of_beq q.1.1;have q2:sIx items.size items.size hi-sIx items.size 0 lo=items.size:=eq_of_beq q.2;exact hw ⟨by omega,by omega⟩
 show wpAny _ _ (if (((sIx items.size 0 lo:Nat):Int)==0&&(1:Int)==1&&(sIx items.size items.size hi-sIx items.size 0 lo)==items.size)=true then _ else _) _ _ s;rw[tJ hno,VV];first
  | exact tF (m:=Builtin.Tuple.tupleExact _) (wpAny_newObj_type (tG ⟨_,rfl,tG h⟩) htake)
  | exact tF (m:=Builtin.Tuple.tupleExact _) (wpAny_newObj_type (tF (tG (tG ⟨_,rfl,tG h⟩))) htake)
  | exact tF (tF (m:=Builtin.Tuple.tupleExact _) (wpAny_newObj_type (tG (tG ⟨_,rfl,tG h⟩)) htake))
  | exact tF (tF (m:=Builtin.Tuple.tupleExact _) (wpAny_newObj_type (tG ⟨_,rfl,tG h⟩) htake))
end
end HT
namespace L2
open PySem PySem.Spec PyProof.Rows
abbrev TO:=St->Hp->(Option Int->Hp->Prop)->Prop
def PO(X:Cx)(e:Option Expr)(t:TO):Prop:=
 ∀(ae:List (Addr×Obj)) (s:Shared) (σ:St) (H:Hp) (Q:Option Int->Hp->Prop),Inv X ae σ H s->t σ H Q->
  wpAny #[2] X.A (evalPart e X.env) (λu s'=>∃o H',Inv X ae σ H' s'/\IsPart u o/\Q o H') X.xe s
def tNoPart:TO:=λ_ H Q=>Q none H
def tPart(t:TE):TO:=fun σ H Q=>t σ H λx H1=>∃i,x=.int i/\Q (some i) H1
theorem vB{ns:List Int} :∀{us:List Value},Vals (ns.map V.int) us->IntsAre us ns:=by
 induction ns with
 | nil=>intro us r;rw[List.map_nil]at r;cases r;exact .nil
 | cons n ns ih=>
  intro us r;rw[mW]at r;cases r with
  | cons r1 r2=>
   obtain⟨t,e⟩:=r1;subst e;exact .cons n t (ih r2)
section
variable{X:Cx}{e:Expr}{te:TE}{lo hi:Option Expr}{tl th:TO}{pos p2:Pos}
theorem xZ:PO X none tNoPart:=by
 intro ae s σ H Q I h;rw[evalPart_none];exact tG ⟨none,H,I,.none,h⟩
theorem vR(h:PE X e te):PO X (some e) (tPart te):=by
 intro ae s σ H Q I hw;rw[evalPart_some];refine thn (h ae s σ H _ I hw) λu s1 ⟨x,H1,I1,r1,q1⟩=>?_;obtain⟨i,rfl,q⟩:=q1;obtain⟨t,rfl⟩:=r1;exact⟨some i,H1,I1,.int i t,q⟩
def SlR(X:Cx)(r:V->Option Int->Option Int->Hp->VK->Prop):Prop:=
 ∀(ae:List (Addr×Obj)) (s:Shared) (σ:St) (H:Hp) (x:V) (v vl vu:Value) (lo hi:Option Int) (sl:Addr) (Q:VK),Inv X ae σ H s->RelV x v->s.heap.IsSliceOf sl vl vu .none->IsPart vl lo->IsPart vu hi->r x lo hi H Q->
  ∃T id,typeLookup (.type T) "__getitem__" = pure (some (.builtin id))/\s.TypeIs v T/\wpAny #[2] X.A (getItem v (.ref sl)) (EP X ae σ Q) X.xe s
def tSl(r:V->Option Int->Option Int->Hp->VK->Prop)(te:TE)(tl th:TO):TE:=fun σ H Q=>te σ H λx H1=>tl σ H1 λl H2=>th σ H2 λu H3=>r x l u H3 Q
theorem vS{r:V->Option Int->Option Int->Hp->VK->Prop}(hr:SlR X r)(he:PE X e te)(hl:PO X lo tl)(hu:PO X hi th):PE X (.Subscript e (.Slice lo hi none p2) pos) (tSl r te tl th):=by
 intro ae s σ H Q I h;refine Subscript_ (thn (he ae s σ H _ I h) λv s1 ⟨x,H1,I1,r1,q1⟩=>?_);refine wpAny_Slice (thn (hl ae s1 σ H1 _ I1 q1) λvl s2 ⟨l,H2,I2,pl,q2⟩=>thn (hu ae s2 σ H2 _ I2 q2) λvu s3 ⟨u,H3,I3,pu,q3⟩=>?_);rw[evalPart_none];refine tG ?_;have I4:Inv X ae σ H3 { s3 with heap:=s3.heap.push { cls:=.type "slice",data:=.fields #[vl,vu,.none] } } :=I3.kept (t':=s3.toks) λb ob q=>gH _ q;obtain⟨T,id,hT,ht,hg⟩:=hr ae { s3 with heap:=s3.heap.push { cls:=.type "slice",data:=.fields #[vl,vu,.none] } } σ H3 x v vl vu l u s3.heap.objs.size Q I4 r1 (Heap.IsSliceOf.new ..) pl pu q3;show wpAny #[2] X.A (subscriptTail e (.Slice lo hi none p2) v (.ref s3.heap.objs.size)) (EP X ae σ Q) X.xe { s3 with heap:=s3.heap.push { cls:=.type "slice",data:=.fields #[vl,vu,.none] } };exact tail_any (ops:=[.ref s3.heap.objs.size,v]) ht hT hg (by with_unfolding_all rfl)
def vF(xs:List V)(lo hi:Option Int):List V:=(xs.drop (HT.sIx xs.length 0 lo)).take (HT.sIx xs.length xs.length hi-HT.sIx xs.length 0 lo)
theorem BK(xs:List V)(lo hi:Option Int):(vF xs lo hi).length<=xs.length:=by
 unfold vF;rw[mD,List.length_drop];omega
def rSlT(K:tL):V->Option Int->Option Int->Hp->VK->Prop:=λx lo hi H Q=>∃a xs,x=.ref a/\SqT K H a xs/\
 ¬(HT.sIx xs.length 0 lo=0/\HT.sIx xs.length xs.length hi=xs.length)/\∀p,H p=none->Q (.ref p) (upd H p (.tup (vF xs lo hi)))
theorem sl_tup:SlR X (rSlT X.K):=by
 intro ae s σ H x v vl vu lo hi sl Q I rx hs pl pu h;obtain⟨a,xs,rfl,hx,hw,q⟩:=h;cases rx;obtain⟨its,r,ht,hz⟩:=I.tuple hx;have hlen:its.toArray.size=xs.length:=by rw[hV];exact r.length.symm
 refine⟨"tuple",_,PyProof.Rows.slot_tuple_getitem.lookup,ht.typeIs, ?_⟩;refine HT.getItem_tuple_cut ht hs pl pu (by rw[hlen];exact hw) ?_ (by rw[hlen];exact hz);rw[hlen];refine⟨.ref s.heap.objs.size,_,I.laid (t':=s.toks) (o:=.tup (vF xs lo hi)) (λb ob q=>gH _ q) uU ?_,rfl,q _ (I.hok.fresh uU)⟩;exact⟨nN (BK xs lo hi) hz,_,(r.drop (HT.sIx xs.length 0 lo)).take (HT.sIx xs.length xs.length hi-HT.sIx xs.length 0 lo),IsTup.new _ _,.of (gT _ rfl) rfl⟩
theorem Vals.nil_iff{xs:List V}{us:List Value}(r:Vals xs us):us=[]↔xs=[]:=by
 cases r with
 | nil=>simp
 | cons _ _=>simp
end
def ixN(n:Nat)(i:Int):Option Nat:=if 0<=i then(if i<n then some i.toNat else none)else if -(n:Int)<=i then some (i+n).toNat else none
def atI{α:Type}(xs:List α)(i:Int):Option α:=(ixN xs.length i).bind λj=>xs[j]?
theorem QI{n:Nat}{i:Int}{j:Nat}(h:ixN n i=some j):seqIndex? i n=some j/\j<n/\-(n:Int)<=i/\i<n:=by
 unfold ixN at h;by_cases h0:0<=i
 ·rw[tK h0]at h;by_cases h1:i<n
  ·rw[tK h1]at h;have e:i.toNat=j:=Option.some.inj h;exact⟨by rw[seqIndex_of h0 h1,e],by omega,by omega,h1⟩
  ·rw[tJ h1]at h;cases h
 ·rw[tJ h0]at h;by_cases h1: -(n:Int)<=i
  ·rw[tK h1]at h;have e:(i+n).toNat=j:=Option.some.inj h;exact⟨by rw[seqIndex_neg #[0] h1,e],by omega,h1,by omega⟩
  ·rw[tJ h1]at h;cases h
theorem RF{α:Type}{xs:List α}{i:Int}{v:α}(h:atI xs i=some v):∃j,seqIndex? i xs.length=some j/\xs[j]? = some v/\j<xs.length/\-(xs.length:Int)<=i/\i<xs.length:=by
 unfold atI at h;cases e:ixN xs.length i with
 | none=>rw[e]at h;cases h
 | some j=>
  rw[e]at h;obtain⟨h1,h2,h3,h4⟩:=QI e;exact⟨j,h1,h,h2,h3,h4⟩
theorem AN{α:Type}{xs:List α}{j:Nat}{v:α}(h:xs[j]? = some v):atI xs (j:Int)=some v:=by
 have hj:j<xs.length:=(gB.mp h).1;have e:ixN xs.length (j:Int)=some j:=by
  unfold ixN;rw[tK #[0],tK #[0]];simp
 unfold atI;rw[e];exact h
def PlainIx(b:Expr):Prop:=∀o i,subscripted b false o i=operate [o,i] (getItem o i)
def IxR(X:Cx)(r:R2):Prop:=
 ∀(value slice:Expr) (ae:List (Addr×Obj)) (s:Shared) (σ:St) (H:Hp) (x y:V) (v u:Value) (Q:VK),Inv X ae σ H s->RelV x v->RelV y u->r x y H Q->
  subscripted slice false v u=operate [v,u] (getItem v u)->wpAny #[2] X.A (subscriptTail value slice v u) (EP X ae σ Q) X.xe s
def MtR(X:Cx)(id:String)(r:V->List V->Hp->VK->Prop):Prop:=
 ∀(ae:List (Addr×Obj)) (s:Shared) (σ:St) (H:Hp) (x:V) (xs:List V) (v:Value) (us:List Value) (Q:VK),Inv X ae σ H s->RelV x v->Vals xs us->r x xs H Q->
  wpAny #[2] X.A (call (.builtin id) (v::us)) (EP X ae σ Q) X.xe s
section
variable{X:Cx}{a b:Expr}{ta tb:TE}{pos:Pos}
theorem jR{r:R2}(hr:IxR X r)(ha:PE X a ta)(hb:PE X b tb)(hs:PlainIx b):PE X (.Subscript a b pos) (tOp r ta tb):=by
 intro ae s σ H Q I h;exact Subscript_ (binT ha hb I h λv u s2 x y H2 I2 rx ry q=>hr a b ae s2 σ H2 x y v u Q I2 rx ry q (hs _ _))
def ML(K:tL):R2:=λx y H Q=>∃p xs i v,x=.ref p/\y=.int i/\SqL K H p xs/\atI xs i=some v/\Q v H
def rIxT(K:tL):R2:=λx y H Q=>∃p xs i v,x=.ref p/\y=.int i/\SqT K H p xs/\atI xs i=some v/\Q v H
theorem kZ:IxR X (ML X.K):=by
 intro value slice ae s σ H x y v u Q I rx ry h hs;obtain⟨p,xs,i,z,rfl,rfl,hq,he,q⟩:=h;cases rx;obtain⟨t,rfl⟩:=ry;obtain⟨its,r,pl,hz⟩:=I.list hq;obtain⟨j,h1,h2,h3,h4,h5⟩:=RF he;obtain⟨w,ew,rw'⟩:=r.get h2;have hl:=r.length;have hn:=IT;have fin:EP X ae σ Q w s:=⟨z,H,I,rw',q⟩;by_cases h0:0<=i
 ·have hj:i.toNat=j:=by
   rw[seqIndex_of h0 h5]at h1;exact Option.some.inj h1
  exact item_listR pl.isList h0 #[0] (by rw[hj];simpa using ew) fin hs
 ·have hj:(i+(its.toArray.size:Int)).toNat=j:=by
   rw[seqIndex_neg #[0] h4]at h1;rw[hV,<-hl];exact Option.some.inj h1
  exact subscriptTail_builtinR (x:=w) pl.isList.typeIs slot_list_getitem.lookup
   (wpAny_getItem_list_neg (Q:=λr s'=>r=w/\EP X ae σ Q r s') pl.isList #[0] (by rw[hV]<;>omega) #[0] (by rw[hj];simpa using ew) ⟨rfl,fin⟩) hs
theorem jU:IxR X (rIxT X.K):=by
 intro value slice ae s σ H x y v u Q I rx ry h hs;obtain⟨p,xs,i,z,rfl,rfl,hq,he,q⟩:=h;cases rx;obtain⟨t,rfl⟩:=ry;obtain⟨its,r,pl,hz⟩:=I.tuple hq;obtain⟨j,h1,h2,h3,h4,h5⟩:=RF he;obtain⟨w,ew,rw'⟩:=r.get h2;have hl:=r.length;have hn:=IT;have fin:EP X ae σ Q w s:=⟨z,H,I,rw',q⟩;exact subscriptTail_builtinR (x:=w) pl.typeIs slot_tuple_getitem.lookup
  (getItem_tuple (j:=j) (Q:=λr s'=>r=w/\EP X ae σ Q r s') pl #[0] #[0] (by rw[hV,<-hl];exact h1) (by simpa using ew) ⟨rfl,fin⟩) hs
theorem MV(its:List Value)(n j:Nat)(u:Value):Obj.mapSeq (·.setIfInBounds j u) { cls:=.type "list",data:=.seq its.toArray n } = { cls:=.type "list",data:=.seq (its.set j u).toArray n } :=by
 simp [Obj.mapSeq]
theorem Inv.lst{ae:List (Addr×Obj)}{σ:St}{H:Hp}{s:Shared}{p:Addr}{xs:List V}(I:Inv X ae σ H s)(h:H p=some (.lst xs)) :
  ∃(its:List Value) (n:Nat),Vals xs its/\s.heap.get? p=some { cls:=.type "list",data:=.seq its.toArray n }/\xs.length<=sizeLine:=by
 obtain⟨z,its,n,r,e⟩:=I.hok p _ h;exact⟨its,n,r,e,z⟩
theorem Inv.lstUpd{ae:List (Addr×Obj)}{σ:St}{H:Hp}{s:Shared}{p:Addr}{xs ys:List V}{its its':List Value}{n n':Nat}{f:Obj->Obj}(I:Inv X ae σ H s)(h:H p=some (.lst xs))
  (ho:s.heap.get? p=some { cls:=.type "list",data:=.seq its.toArray n }) (hf:f { cls:=.type "list",data:=.seq its.toArray n } = { cls:=.type "list",data:=.seq its'.toArray n' }) (r:Vals ys its') (hz:ys.length<=sizeLine) (t:Nat) :
  Inv X ae σ (upd H p (.lst ys)) { s with heap:=s.heap.update p f,toks:=t } :=by
 have e:(s.heap.update p f).get? p=some { cls:=.type "list",data:=.seq its'.toArray n' } :=by
  rw[Heap.get?_update_self f ho (by rw[hf]<;>rfl),hf]
 refine I.write (x:=p) (e:=p) (by rw[h];trivial) (.inl rfl) (λb u hb q=>(Heap.get?_update_other _ _ (Ne.symm hb)).trans q) ⟨_,e⟩ ?_;exact⟨hz,its',n',r,e⟩
def rSetL:V->V->V->Hp->(Hp->Prop)->Prop:=λo i v H Q=>∃p xs k j,o=.ref p/\i=.int k/\H p=some (.lst xs)/\ixN xs.length k=some j/\Q (upd H p (.lst (xs.set j v)))
theorem xE:PSet X rSetL:=by
 intro ae s σ H o i v ov iv u Q I ro ri rv h;obtain⟨p,xs,k,j,rfl,rfl,hp,hj,q⟩:=h;cases ro;obtain⟨t,rfl⟩:=ri;obtain⟨its,n,r,ho,hz⟩:=I.lst hp;obtain⟨h1,h2,h3,h4⟩:=QI hj;have hl:=r.length;have hn:=IT;have I':Inv X ae σ (upd H p (.lst (xs.set j v))) { s with heap:=s.heap.update p (Obj.mapSeq (·.setIfInBounds j u)) } :=
  I.lstUpd hp ho (MV its n j u) (r.set rv j) (by rw[List.length_set];exact hz) s.toks
 by_cases h0:0<=k
 ·have hk:k.toNat=j:=by
   rw[seqIndex_of h0 h4]at h1;exact Option.some.inj h1
  exact PySem.W.ki_setAt ho h0 #[0] (by rw[hV,<-hl];exact h4) (by rw[hk];exact⟨_,I',q⟩)
 ·have hk:(k+(its.toArray.size:Int)).toNat=j:=by
   rw[seqIndex_neg #[0] h3]at h1;rw[hV,<-hl];exact Option.some.inj h1
  exact PySem.W.ki_setBack ho #[0] (by rw[hV,<-hl];exact h3) #[0] (by rw[hk];exact⟨_,I',q⟩)
theorem HY(lo hi:Option Int)(n:Nat):(sliceBounds lo hi none n).1=((HT.sIx n 0 lo:Nat):Int)/\(sliceBounds lo hi none n).2.1=((HT.sIx n n hi:Nat):Int)/\(sliceBounds lo hi none n).2.2=1:=by
 refine⟨?_, ?_,rfl⟩
 ·cases lo with
  | none=>simp [sliceBounds,HT.sIx]
  | some i=>
   simp only[sliceBounds,HT.sIx,Option.getD_none,show(1:Int)>0 by decide,if_true];by_cases h:i<0
   ·simp only[h,if_true]<;>omega
   ·simp only[h,if_false]<;>omega
 ·cases hi with
  | none=>simp [sliceBounds,HT.sIx]
  | some i=>
   simp only[sliceBounds,HT.sIx,Option.getD_none,show(1:Int)>0 by decide,if_true];by_cases h:i<0
   ·simp only[h,if_true]<;>omega
   ·simp only[h,if_false]<;>omega
theorem FG(its:List Value)(lo hi:Option Int):slicePick its.toArray lo hi none=((its.drop (HT.sIx its.length 0 lo)).take (HT.sIx its.length its.length hi-HT.sIx its.length 0 lo)).toArray:=by
 obtain⟨h1,h2,h3⟩:=HY lo hi its.toArray.size;unfold slicePick;rw[h1,h2,h3];simp only[sliceRange_one,pick_run,hV]<;>rfl
def rSlL(K:tL):V->Option Int->Option Int->Hp->VK->Prop:=λx lo hi H Q=>∃a xs,x=.ref a/\SqL K H a xs/\∀p,H p=none->Q (.ref p) (upd H p (.lst (vF xs lo hi)))
theorem ZW:SlR X (rSlL X.K):=by
 intro ae s σ H x v vl vu lo hi sl Q I rx hs pl pu h;obtain⟨a,xs,rfl,hx,q⟩:=h;cases rx;obtain⟨its,r,ht,hz⟩:=I.list hx;have hlen:=r.length;refine⟨"list",_,slot_list_getitem.lookup,ht.isList.typeIs, ?_⟩;refine wpAny_getItem_list_slice ht.isList hs pl pu .none (by simp) ?_ (by rw[hV]<;>omega);rw[FG,<-hlen];refine⟨.ref s.heap.objs.size,_,I.laid (t':=s.toks) (o:=.lst (vF xs lo hi)) (λb ob q=>gH _ q) uU ?_,rfl,q _ (I.hok.fresh uU)⟩;exact⟨nN (BK xs lo hi) hz,_,0,(r.drop (HT.sIx xs.length 0 lo)).take (HT.sIx xs.length xs.length hi-HT.sIx xs.length 0 lo),gT _ rfl⟩
theorem vG:CallR X (.builtin "len") (λxs H Q=>∃p ys,xs=[.ref p]/\(SqL X.K H p ys∨SqT X.K H p ys)/\Q (.int ys.length) H):=by
 intro ae s σ H xs us Q I r h;obtain⟨p,ys,rfl,hq,q⟩:=h;obtain⟨u,rfl,rx⟩:=xU r;cases rx;have hn:=IT;rcases hq with hq | hq
 ·obtain⟨its,r',pl,hz⟩:=I.list hq;have hlen:=r'.length;exact Calls.call_len_list pl.isList (by simp only[hV]<;>omega) ⟨.int ys.length,H,I.tok _,⟨s.toks+1,by rw[hV,hlen]⟩,q⟩
 ·obtain⟨its,r',pl,hz⟩:=I.tuple hq;have hlen:=r'.length;exact len_tuple pl (by simp only[hV]<;>omega) ⟨.int ys.length,H,I.tok _,⟨s.toks+1,by rw[hV,hlen]⟩,q⟩
theorem JC:CallR X (.type "list") (λxs H Q=>∃p ys,xs=[.ref p]/\(SqL X.K H p ys∨SqT X.K H p ys)/\∀l,H l=none->Q (.ref l) (upd H l (.lst ys))):=by
 intro ae s σ H xs us Q I r h;obtain⟨p,ys,rfl,hq,q⟩:=h;obtain⟨u,rfl,rx⟩:=xU r;cases rx;have fin:∀(its:List Value),Vals ys its->ys.length<=sizeLine->∀(h':Heap) (c':Nat),(∀b o',s.heap.get? b=some o'->h'.get? b=some o')->
   h'.get? s.heap.objs.size=some { cls:=.type "list",dict:=none,data:=.seq its.toArray c',slots:=#[] }->EP X ae σ Q (.ref s.heap.objs.size) { s with heap:=h' } :=λits r' hz h' c' kp e=>
  ⟨.ref s.heap.objs.size,_,I.laid (t':=s.toks) kp uU (show ObjOk X.prog X.w _ h' _ (.lst ys)from⟨hz,its,c',r',e⟩),rfl,q _ (I.hok.fresh uU)⟩
 rcases hq with hq | hq
 ·obtain⟨its,r',pl,hz⟩:=I.list hq;have hlen:=r'.length;obtain⟨o,ho,hc,n,hd⟩:=pl.isList;exact call_list_seq p (.inl rfl) ho hc hd (λh' c' kp e=>fin its r' hz h' c' kp e) (by simp only[hV]<;>omega)
 ·obtain⟨its,r',pl,hz⟩:=I.tuple hq;have hlen:=r'.length;obtain⟨o,ho,hc,n,hd⟩:=pl;exact call_list_seq p (.inr rfl) ho hc hd (λh' c' kp e=>fin its r' hz h' c' kp e) (by simp only[hV]<;>omega)
theorem qX:CallR X (.type "tuple") (λxs H Q=>∃p ys,xs=[.ref p]/\((SqL X.K H p ys/\∀l,H l=none->Q (.ref l) (upd H l (.tup ys)))∨(SqT X.K H p ys/\Q (.ref p) H))):=by
 intro ae s σ H xs us Q I r h;obtain⟨p,ys,rfl,h⟩:=h;obtain⟨u,rfl,rx⟩:=xU r;cases rx;rcases h with⟨hq,q⟩ | ⟨hq,q⟩
 ·obtain⟨its,r',pl,hz⟩:=I.list hq;have hlen:=r'.length;refine call_tuple_list pl.isList (λh' kp=>?_) (by simp only[hV]<;>omega);have I1:Inv X ae σ H { s with heap:=h' } :=I.kept (t':=s.toks) kp;have I2:Inv X ae σ (upd H h'.objs.size (.tup ys)) { s with heap:=h'.push { cls:=.type "tuple",data:=.seq its.toArray } } :=
   I1.laid (t':=s.toks) (λb o e=>gH _ e) uU (show ObjOk X.prog X.w _ _ _ (.tup ys)from⟨hz,its,r',IsTup.new _ _,.of (gT _ rfl) rfl⟩)
  exact⟨.ref h'.objs.size,_,I2,rfl,q _ (I1.hok.fresh uU)⟩
 ·obtain⟨its,r',pl,hz⟩:=I.tuple hq;exact call_tuple_same pl ⟨.ref p,H,I,rfl,q⟩
def tyV(K:tL)(T:String)(x:V)(H:Hp):Prop:=match x with
 | .str _=>T="str"
 | .int _=>T="int"
 | .ref p=>(T="list"/\∃xs,SqL K H p xs)∨(T="tuple"/\∃o,K.lookup p=some o/\o.cls=.type "tuple"/\o.dict=none)∨
   (T="dict"/\((∃ah,H p=some (.dK ah))∨∃ah,H p=some (.dT ah)))∨(T="set"/\∃S n,H p=some (.set S n))∨(T="tuple"/\∃xs,H p=some (.tup xs))
 | _=>False
theorem UL{ae:List (Addr×Obj)}{σ:St}{H:Hp}{s:Shared}{T:String}{x:V}{v:Value}(I:Inv X ae σ H s)(r:RelV x v)(ty:tyV X.K T x H) :
  s.TypeIs v T/\∀a,v=.ref a->∃ob,s.heap.get? a=some ob/\ob.dict=none:=by
 cases x with
 | str z=>
  obtain⟨t,rfl⟩:=r;cases (show T="str" from ty);exact⟨typeIs_str s z t,λ_ e=>nomatch e⟩
 | int i=>
  obtain⟨t,rfl⟩:=r;cases (show T="int" from ty);exact⟨typeIs_int s i t,λ_ e=>nomatch e⟩
 | ref p=>
  cases r;rcases ty with⟨rfl,xs,hq⟩ | ⟨rfl,o,hk,hc,hd⟩ | ⟨rfl,hk⟩ | ⟨rfl,S,n,hk⟩ | ⟨rfl,xs,hk⟩
  rotate_left 4
  ·obtain⟨_,its,_,⟨o,h1,h2,_⟩,nd⟩:=(show ObjOk X.prog X.w H s.heap p (.tup xs)from I.hok p _ hk);exact⟨⟨o,h1,h2⟩,λa e=>by cases e;exact⟨o,h1,nd _ h1⟩⟩
  ·obtain⟨its,_,pl,_⟩:=I.list hq;refine⟨pl.isList.typeIs,λa e=>?_⟩;cases e;obtain⟨o,n,e,c,hd,_⟩:=pl;exact⟨o,e,hd⟩
  ·refine⟨⟨o,I.kIn p o hk,hc⟩,λa e=>?_⟩;cases e;exact⟨o,I.kIn _ o hk,hd⟩
  ·have z:∃o,s.heap.get? p=some o/\o.ExactDict:=by
    rcases hk with⟨ah,hk⟩ | ⟨ah,hk⟩
    ·obtain⟨_,_,_,_,o,_,_,e,ex,_⟩:=I.hok p _ hk;exact⟨o,e,ex⟩
    ·obtain⟨_,_,_,_,o,_,_,e,ex,_⟩:=I.hok p _ hk;exact⟨o,e,ex⟩
   obtain⟨o,e,ex⟩:=z;refine⟨⟨o,e,ex.1⟩,λa e2=>?_⟩;cases e2;exact⟨o,e,ex.2.1⟩
  ·obtain⟨o,_,_,_,e,ex,_⟩:=I.hok p _ hk;refine⟨⟨o,e,ex.1⟩,λa e2=>?_⟩;cases e2;exact⟨o,e,ex.2.1⟩
 | _=>exact False.elim ty
def tBM0(K:tL)(T:String)(r:V->List V->Hp->VK->Prop)(to:TE):TE:=fun σ H Q=>to σ H λx H1=>tyV K T x H1/\r x [] H1 Q
def tBM(K:tL)(T:String)(r:V->List V->Hp->VK->Prop)(to:TE)(t:TA):TE:=fun σ H Q=>to σ H λx H1=>tyV K T x H1/\t σ H1 λxs H2=>r x xs H2 Q
variable{o e:Expr}{es:List Expr}{to:TE}{t:TA}{name:Str}{apos cpos:Pos}{T id:String}{r:V->List V->Hp->VK->Prop}
theorem WA(pa:PlainAttrs T)(slot:Slot T name id)(hty:typeOf (.builtin id)=pure (.type "method_descriptor"))(hm:MtR X id r)(ho:PE X o to)
  (hbase:attributeBase o name X.env (eval o X.env)=eval o X.env:=by rfl) (hline:(apos.endLine==cpos.line)=true:=by rfl):PE X (.Call (.Attribute o name apos) [] [] cpos) (tBM0 X.K T r to):=by
 intro ae s σ H Q I h;refine wpAny_Call_method0_late hbase hline (thn (ho ae s σ H _ I h) λv s1 ⟨x,H1,I1,r1,ty,q1⟩=>?_);obtain⟨h1,h2⟩:=UL I1 r1 ty;exact⟨T,id,pa,slot,hty,h1,h2,Calls.callWith_builtin rfl (PySem.evalArgs_none (hm ae s1 σ H1 x [] v [] Q I1 r1 .nil q1))⟩
theorem WB(pa:PlainAttrs T)(slot:Slot T name id)(hty:typeOf (.builtin id)=pure (.type "method_descriptor"))(hm:MtR X id r)(ho:PE X o to)(ha:PA X (e::es) t)
  (hbase:attributeBase o name X.env (eval o X.env)=eval o X.env:=by rfl)
  (hfew:((backTo cpos (starEach (e::es) X.env)).all (λx=>!x.1)&&(backToKw cpos (keywordEach [] X.env)).all (λx=>x.1.isSome)
   &&decide ((e::es).length+([]:List Keyword).length+(if ([]:List Keyword).isEmpty then 0 else 1)<30))=true:=by rfl)
  (hline:(apos.endLine==cpos.line)=true:=by rfl) (hs:starEach (e::es) X.env=(false,eval e X.env)::starEach es X.env:=by rfl) (hplain:(backTo cpos (starEach es X.env)).any (·.1)=false:=by rfl) :
  PE X (.Call (.Attribute o name apos) (e::es) [] cpos) (tBM X.K T r to t):=by
 intro ae s σ H Q I h;refine wpAny_Call_method_late hbase hfew hline rfl (thn (ho ae s σ H _ I h) λv s1 ⟨x,H1,I1,r1,ty,q1⟩=>?_);obtain⟨h1,h2⟩:=UL I1 r1 ty;refine⟨T,id,pa,slot,hty,h1,h2, ?_⟩;have hA:=ha cpos ae s1 σ H1 _ I1 q1;rw[hs]at hA ⊢;refine Calls.callWith_builtin (by show(false||(backTo cpos (starEach es X.env)).any (·.1))=false;rw[hplain]<;>rfl) (Calls.evalArgs_plain ?_);exact thn hA λus s2 ⟨vs,H2,I2,r2,q2⟩=>hm ae s2 σ H2 x vs v us Q I2 r1 r2 q2
end
def MtM(X:Cx)(id:String)(r:V->List V->Hp->VK->Prop):Prop:=
 ∀(ae:List (Addr×Obj)) (s:Shared) (σ:St) (H:Hp) (x:V) (xs:List V) (v:Value) (us:List Value) (Q:VK),Inv X ae σ H s->RelV x v->Vals xs us->r x xs H Q->
  wpAny #[2] X.A (call (.builtin id) (v::us)) (EP X ae σ Q) X.xe s
theorem Vals.one:∀{x:V} {us:List Value},Vals [x] us->∃u,us=[u]/\RelV x u
 | _,_,.cons r .nil=>⟨_,rfl,r⟩
theorem Vals.two:∀{x y:V} {us:List Value},Vals [x,y] us->∃u v,us=[u,v]/\RelV x u/\RelV y v
 | _,_,_,.cons r (.cons q .nil)=>⟨_,_,rfl,r,q⟩
theorem Vals.rep{xs:List V}{us:List Value}(h:Vals xs us):∀k:Nat,Vals (List.replicate k xs).flatten (List.replicate k us).flatten
 | 0=>.nil
 | k+1=>by
  rw[List.replicate_succ,List.replicate_succ,List.flatten_cons,List.flatten_cons];exact Vals.append h (Vals.rep h k)
theorem FZ(its:List Value):∀(k:Nat) (acc:List Value),
  List.foldl (λx1 x2=>x1++x2) acc.toArray (List.replicate k its.toArray)=(acc++(List.replicate k its).flatten).toArray
 | 0,acc=>by simp
 | k+1,acc=>by
  have e:acc.toArray++its.toArray=(acc++its).toArray:=by simp
  have e2:(acc++its)++(List.replicate k its).flatten=acc++(List.replicate (k+1) its).flatten:=by
   rw[List.replicate_succ,List.flatten_cons,List.append_assoc]
  rw[<-e2,<-FZ its k (acc++its),<-e,List.replicate_succ,List.foldl_cons]
section
variable{X:Cx}{ae:List (Addr×Obj)}{σ:St}{H:Hp}{s:Shared}{l b:Addr}{xs ys zs:List V}
theorem Inv.lset{its its':List Value}{n:Nat}{f:Array Value->Array Value}{t':Nat}(I:Inv X ae σ H s)(hH:H l=some (.lst xs))
  (e:s.heap.get? l=some { cls:=.type "list",data:=.seq its.toArray n }) (hf:f its.toArray=its'.toArray) (hv:Vals ys its') (hz:ys.length<=sizeLine) :
  Inv X ae σ (upd H l (.lst ys)) { s with heap:=s.heap.update l (Obj.mapSeq f),toks:=t' } :=by
 have q:=PySem.IsL.update e f;rw[hf]at q;refine I.write (x:=l) (e:=l) (by rw[hH];exact trivial) (.inl rfl) (λb' u hb hu=>(Heap.get?_update_other s.heap (Obj.mapSeq f) (Ne.symm hb)).trans hu) ⟨_,q⟩ ?_;exact⟨hz,its',_,hv,q⟩
theorem Inv.lnew{its:List Value}{t':Nat}(I:Inv X ae σ H s)(hv:Vals ys its)(hz:ys.length<=sizeLine) :
  Inv X ae σ (upd H s.heap.objs.size (.lst ys)) { s with heap:=s.heap.push { cls:=.type "list",data:=.seq its.toArray },toks:=t' } :=
 I.laid (λ_ _ q=>gH _ q) uU ⟨hz,its,0,hv,gT _ rfl⟩
theorem Inv.fresh(I:Inv X ae σ H s):H s.heap.objs.size=none:=I.hok.fresh uU 
theorem Inv.lstM(I:Inv X ae σ H s)(hH:H l=some (.lst xs)):xs.length<=sizeLine/\∃(its:List Value) (n:Nat),Vals xs its/\xs.length=its.length/\s.heap.get? l=some { cls:=.type "list",data:=.seq its.toArray n } :=by
 obtain⟨z,its,n,r,e⟩:=I.hok l _ hH;exact⟨z,its,n,r,r.length,e⟩
theorem KJ{n:Nat}(h:n<=sizeLine):Builtin.List.listTooLong n=false:=by
 unfold Builtin.List.listTooLong;exact mN #[0]
end
section
variable{X:Cx}
def rAppend:V->List V->Hp->VK->Prop:=λx vs H Q=>∃l xs y,x=.ref l/\vs=[y]/\H l=some (.lst xs)/\xs.length<sizeLine/\Q .non (upd H l (.lst (xs++[y])))
theorem yS:MtM X "list.append" rAppend:=by
 intro ae s σ H x vs v us Q I rx rv h;obtain⟨l,xs,y,rfl,rfl,hH,hz,q⟩:=h;cases rx;obtain⟨u,rfl,ru⟩:=rv.one;obtain⟨z,its,n,r,hl,e⟩:=I.lstM hH;refine call_meets F.slot_list_append ⟨_,e,rfl⟩ F.entry_list_append (F.args_list_append_2 _ _) (PySem.list_append l its.toArray n u (by rw[hV];omega)) ⟨e, ?_⟩;refine⟨.non,_,I.lset (its':=its++[u]) hH e (by simp) (r.append (.cons ru .nil)) ?_,rfl,q⟩;rw[List.length_append,List.length_singleton];omega
def rExtend:V->List V->Hp->VK->Prop:=λx vs H Q=>∃l b xs zs,x=.ref l/\vs=[.ref b]/\H l=some (.lst xs)/\H b=some (.lst zs)/\xs.length+zs.length<=sizeLine/\Q .non (upd H l (.lst (xs++zs)))
theorem mt_extend:MtM X "list.extend" rExtend:=by
 intro ae s σ H x vs v us Q I rx rv h;obtain⟨l,b,xs,zs,rfl,rfl,hH,hB,hz,q⟩:=h;cases rx;obtain⟨u,rfl,ru⟩:=rv.one;cases ru;obtain⟨z,its,n,r,hl,e⟩:=I.lstM hH;obtain⟨z2,its2,n2,r2,hl2,e2⟩:=I.lstM hB;have hsz:its.toArray.size+its2.toArray.size<=sizeLine:=by rw[hV,hV];omega
 have hlong:¬(!its.toArray.isEmpty&&Builtin.List.listTooLong (its.toArray.size+its2.toArray.size))=true:=by
  rw[KJ hsz,Bool.and_false];exact gW
 refine call_meets F.slot_list_extend ⟨_,e,rfl⟩ F.entry_list_extend (F.args_list_extend_2 _ _)
  (AutoSeq1.list_extend_list_list_0 l its.toArray n b its2.toArray n2 hlong (by rw[hV];omega) #[0]) ⟨e,e2, ?_⟩
 refine⟨.non,_,I.lset (its':=its++its2) hH e (by simp) (r.append r2) ?_,rfl,q⟩;rw[List.length_append];omega
def rCat:R2:=λx y H Q=>∃l b xs zs,x=.ref l/\y=.ref b/\H l=some (.lst xs)/\H b=some (.lst zs)/\xs.length+zs.length<=sizeLine/\∀p,H p=none->Q (.ref p) (upd H p (.lst (xs++zs)))
theorem op_cat:OpR X (binaryOp .Add) rCat:=by
 intro ae s σ H x y v u Q I rx ry h;obtain⟨l,b,xs,zs,rfl,rfl,hH,hB,hz,q⟩:=h;cases rx;cases ry;obtain⟨z,its,n,r,hl,e⟩:=I.lstM hH;obtain⟨z2,its2,n2,r2,hl2,e2⟩:=I.lstM hB;refine PySem.P.add_list e e2 ?_ (by rw[hV,hV];omega);have ea:its.toArray++its2.toArray=(its++its2).toArray:=by simp
 rw[ea];exact⟨.ref _,_,I.lnew (t':=s.toks) (r.append r2) (by rw[List.length_append];omega),rfl,q _ I.fresh⟩
def rRep:R2:=λx y H Q=>∃l k xs,x=.ref l/\y=.int k/\H l=some (.lst xs)/\-(2^63)<=k/\k<2^63/\xs.length*k.toNat<=sizeLine/\
 ∀p,H p=none->Q (.ref p) (upd H p (.lst (List.replicate k.toNat xs).flatten))
theorem len_rep{α:Type}(xs:List α)(k:Nat):(List.replicate k xs).flatten.length=k*xs.length:=by
 induction k with
 | zero=>simp
 | succ k ih=>rw[List.replicate_succ,List.flatten_cons,List.length_append,ih,Nat.succ_mul,Nat.add_comm]
theorem op_rep:OpR X (binaryOp .Mult) rRep:=by
 intro ae s σ H x y v u Q I rx ry h;obtain⟨l,k,xs,rfl,rfl,hH,h1,h2,hz,q⟩:=h;cases rx;obtain⟨t,rfl⟩:=ry;obtain⟨z,its,n,r,hl,e⟩:=I.lstM hH;have hlen:its.toArray.size*k.toNat<=sizeLine:=by rw[hV,<-hl];exact hz
 have hcap:¬its.toArray.size*k.toNat>(2^63-1)/8:=by
  have:(sizeLine:Nat)<=(2^63-1)/8:=by decide
  omega
 have hfit:¬(!Builtin.List.listFitsIndex k)=true:=by
  rw[fitsIndex_both h1 h2];exact gW
 have hlong:¬Builtin.List.listTooLong (its.toArray.size*k.toNat)=true:=by
  rw[KJ hlen];exact gW
 have hnew:List.foldl (λx1 x2=>x1++x2) #[] (List.replicate (if its.toArray.isEmpty=true then 0 else k.toNat) its.toArray)=(List.replicate k.toNat its).flatten.toArray:=by
  have f0:∀m:Nat,List.foldl (λx1 x2=>x1++x2) #[] (List.replicate m its.toArray)=(List.replicate m its).flatten.toArray:=λm=>by
   have:=FZ its m [];rw[List.nil_append]at this;exact this
  rw[f0];cases its with
  | nil=>simp
  | cons a r'=>rw[tJ (by simp)]
 refine wpAny_binaryOp_repeat_ref (T:="list") (U:="int") #[1] ⟨_,e,rfl⟩ (λs'=>typeIs_int s' k t) noFill_list_mul F.fills_int_mul F.slot_int_rmul repeat_list F.slot_int_index.lookup
  (call_meets F.slot_int_rmul (typeIs_int s k t) F.entry_int_rmul (F.args_int_rmul_2 _ _) (int___rmul___int_list k t l its.toArray n)
   ⟨e,rfl,⟨_,e,rfl⟩,call_meets F.slot_list_mul ⟨_,e,rfl⟩ F.entry_list_mul (F.args_list_mul_2 _ _) (AutoListH.list___mul___list_int_3 l its.toArray n k t hfit hcap hlong) ⟨e, ?_⟩⟩)
 rw[hnew];exact⟨.ref _,_,I.lnew (t':=s.toks) (r.rep k.toNat) (by rw[len_rep,Nat.mul_comm];exact hz),rfl,q _ I.fresh⟩
end
section
variable{prog:Program}{w:World}{A:Around}{E:Value->Shared->Prop}{s:Shared}
set_option maxRecDepth 100000 in
end
section
variable{X:Cx}
end
end L2
namespace Att
open PySem PySem.W PySem.Calls PyProof.Rows
theorem BN{P:Params}{h:Heap} :∀(ns:List Int) (vs:List Value),WellAll P h vs (ns.map WData.int)->IntsAre vs ns:=by
 intro ns;induction ns with
 | nil=>
  intro vs w;rw[List.map_nil]at w;cases w;exact .nil
 | cons n ns ih=>
  intro vs w;rw[mW]at w;cases w with
  | cons a b=>
   cases a;exact .cons _ _ (ih _ b)
theorem RR{l:OpenLaw}{n:Nat}(hn:l.most=some n){P:Params}{h:Heap}{args:List WData}{vals:List Value}
  (hpre:l.row.toRowW.claim.pre args=true) (hwl:WellAll P h vals args) :
  ∃a vs ns,vals=[Value.ref a]/\args=[WData.list (ns.map WData.int)]/\h.get? a=some { cls:=.type "list",data:=.seq vs.toArray }/\IntsAre vs ns/\ns.length<=n:=by
 have hsh:WShape.hasAll [] args [.list .int]=true:=(pre_splitW hpre).1;have hc:l.pre.holds [] { args:=args } = true:=(pre_splitW hpre).2;obtain⟨d,r,rfl,h1,h2⟩:=hasAllW_cons hsh;obtain rfl:=hasAllW_nil h2;obtain⟨xs,rfl,h3⟩:=hasW_list h1;obtain⟨ns,rfl⟩:=items_int h3;have hlen:ns.length<=n:=by
  unfold OpenLaw.pre at hc;have h4:(WTm.not (.lt (.lit (.int (n:Int))) (.len (.arg 0)))).holds [] { args:=[.list (ns.map .int)] } = true:=by
   have h4:=(holds_andW hc).1;rw[hn]at h4;exact h4
  have h5:=condW_of h4 (w_not (w_lt w_lit (w_len_list (w_arg rfl))));rw[mL]at h5;refine Nat.le_of_not_lt λq=>?_;have q':(n:Int)<((ns.length:Nat):Int):=by omega
  first
   | (rw[mP q']at h5;exact absurd h5 #[1])
   | (simp at h5;omega)
 cases hwl with
 | cons w1 w2=>
  cases w2;cases w1 with
  | list ho hall=>exact⟨_,_,ns,rfl,rfl,ho,BN ns _ hall,hlen⟩
theorem SC(l:OpenLaw)(args:List WData):l.row.toRowW.claim.post args (.bool true) args=true:=
 postW_of (r:=l.row.toRowW) (X:=(true==true))
  (show WShape.has [] (.bool true) .bool=true by first | rfl | decide | simp [WShape.has,WShape.arms,WShape.armsAll])
  (show(WTm.eq .res (.lit (.bool true))).value [] { args:=args,res:=some (.bool true),after:=args } = some (.bool (true==true))from w_eq_bool (w_res rfl) w_lit) rfl
theorem attach_call{l:OpenLaw}{n:Nat}{q:Program}{loose:List Str}{XP:(Str->Option Value)->Heap->Prop}{YP:World->Heap->Prop}{d:DefRec}
  (hn:l.most=some n) (hdf:d.params.defaults=[])
  (call:∀(w:World) (s₀ s₁:Shared) (mg mb:Str->Option Value) (fa:Addr) (o:Obj) (pm cd doc:Value) (a:Addr) (vs:List Value) (ns:List Int),
   Ground q loose [] XP w s₀ mg mb s₁.heap->YP w s₁.heap->
   s₁.heap.get? fa=some o->o.data=.func (docDef d.name d.params d.body d.scope pm cd doc)->s₁.heap.CodeRec cd d.name->mg d.name=some (.ref fa)->
   s₁.heap.get? a=some { cls:=.type "list",data:=.seq vs.toArray }->IntsAre vs ns->ns.length<=n->s₁.gens = #[]->
   codeAny (model l.prog w) callerA (.call (.ref fa) ⟨[.ref a],[]⟩) (λr s'=>r=.ok (.ret (.bool true))/\OldK s₁.heap s'.heap/\s'.os=s₁.os/\AllBare s'.gens) s₁) :
  WalkO q loose XP YP l.row.toRowW d [] (λf vs=>PySem.call f vs):=by
 intro w s₀ s₁ mg mb G Y fa o pm cd doc dV kV ho hd hcd hD hmg hg args vals as hpre hlay hrd hwl hlo;obtain rfl:dV=.none:=Dflts.none hD hdf;obtain rfl:kV=.none:=Dflts.noKw hD;obtain⟨a,vs,ns,rfl,rfl,hobj,hints,hlen⟩:=RR hn hpre hwl;refine enter_call (codeAny_mono (call w s₀ s₁ mg mb fa o pm cd doc a vs ns G Y ho (fd_plain hd) hcd hmg hobj hints hlen hg) λr s' hq=>?_);obtain⟨rfl,h2,h3,h4⟩:=hq;exact⟨.inl ⟨.bool true,.bool true,[],rfl,λ_=>rfl,.bool true,SC l _,λ_=>⟨List.Pairwise.nil,λ_ hm=>(nomatch hm)⟩⟩,h2,h3,h4⟩
section
variable{prog:Program}{w:World}{A:Around}{E:Value->Shared->Prop}{s:Shared}{K:Frag}
end
end Att
namespace L2
open PySem PySem.Spec PyProof.Rows
theorem FJ:∀{vs:List Value} {ns:List Int},IntsAre vs ns->Vals (ns.map V.int) vs
 | _,_,.nil=>.nil
 | _,_,.cons n t h=>.cons ⟨t,rfl⟩ (FJ h)
def Only(H:Hp):Prop:=∀b,H b=none∨∃o xs,H b=some (.frz o (.lst xs))
theorem XR{P:Program}{w:World}{K:tL}{mg mb:Str->Option Value}{CX:CXT}{k:Nat}{fa a:Addr}{fd:FuncData}{x:Str}{sp:Sp}{s₁:Shared}{vs:List Value}{ns:List Int}
  (KX:K.In s₁.heap) (hns:s₁.heap.Ns mainGlobals mg) (hb:s₁.heap.Ns builtinsNs mb) (hbb:∀x:Str,x≠"__name__"->mb x=bootBuiltins x) (hlim:s₁.heap.NoLimit) (hg:s₁.gens = #[])
  (ha:s₁.heap.get? a=some { cls:=.type "list",data:=.seq vs.toArray }) (hi:IntsAre vs ns) (hl:ns.length<=sizeLine) (hr:Room k callerA)
  (F:∀base:Heap,K.In base->base.Ns mainGlobals mg->FnOk P w K mg base CX k fa fd [x] sp) (hbind:∀(s:Shared) (u:Value),BindsTo s fd ⟨[u],[]⟩ [(x,u)])
  (hsp:∀H:Hp,Only H->SqL K H a (ns.map V.int)->sp [.ref a] H (λv _=>v=.bl true) λ_ _ _=>False)
  (hCX:∀H e s',CX [] H s₁ (λ_ _ _=>False) e s'->False) :
  codeAny (model P w) callerA (.call (.ref fa) ⟨[.ref a],[]⟩) (λr s'=>r=.ok (.ret (.bool true))/\OldK s₁.heap s'.heap/\s'.os=s₁.os/\AllBare s'.gens) s₁:=by
 have rv:=FJ hi;have lenV:=hi.length;have core:∀H:Hp,Only H->SqL K H a (ns.map V.int)->HOk P w H s₁.heap->(∀b,H b≠none->b=a)->(H a≠none->K.lookup a=none)->
   codeAny (model P w) callerA (.call (.ref fa) ⟨[.ref a],[]⟩) (λr s'=>r=.ok (.ret (.bool true))/\OldK s₁.heap s'.heap/\s'.os=s₁.os/\AllBare s'.gens) s₁:=by
  intro H hO hS hok hA hK;have base_of:∀{b:Addr} {o:Obj},s₁.heap.get? b=some o->H b=none->(IW s₁.heap H).get? b=some o:=λe n=>XZ e n;have noA:∀{b:Addr} {o:Obj} {es:Array DictEntry} {ep:Nat},s₁.heap.get? b=some o->o.data=.dict es ep->H b=none:=fun {b o es ep} e d=>by
   cases q:H b with
   | none=>rfl
   | some u=>
    have e':b=a:=hA b (by rw[q];simp);subst e';rw[ha]at e;cases e;have d':Data.seq vs.toArray _=Data.dict es ep:=d;cases d'
  have nsK:∀{b:Addr} {m:Str->Option Value},s₁.heap.Ns b m->(IW s₁.heap H).Ns b m:=fun {b m} ⟨o,es,ep,e,d,r⟩=>⟨o,es,ep,base_of e (noA e d),d,r⟩;have hKb:K.In (IW s₁.heap H):=λb o e=>base_of (KX b o e) (by
   cases q:H b with
   | none=>rfl
   | some u=>
    have e':b=a:=hA b (by rw[q];simp);subst e';rw[hK (by rw[q];simp)]at e;cases e)
  have hM:Mod K mg (IW s₁.heap H):=⟨hKb,nsK hns,⟨mb,nsK hb,hbb⟩,let ⟨mc,h1,h2⟩:=hlim;⟨mc,nsK h1,h2⟩⟩;have e0:Env0 P w K mg (IW s₁.heap H) callerA [] s₁ H:=⟨rfl,hM,λb o e=>of_hidT e,Nat.le_of_eq (TC _ _),trivial,λb hb=>absurd (show b∈([]:List Addr)from hb) (by simp),hok,.of_eq hg⟩;refine codeAny_mono ((F _ hKb (nsK hns)).run callerA [] s₁ H ⟨[.ref a],[]⟩ [.ref a] [.ref a] _ _ hr e0 (hbind s₁ (.ref a)) (.cons rfl .nil) (hsp H hO hS)) λr s' h=>?_;cases r with
  | error e=>exact(hCX H e s' h).elim
  | ok fl=>
   cases fl with
   | next=>exact False.elim h
   | brk=>exact False.elim h
   | cont=>exact False.elim h
   | ret u=>
    obtain⟨v,H',os,bare,un,hok',r',q⟩:=h;have q':v=.bl true:=q;subst q';obtain rfl:u=Value.bool true:=r';refine⟨rfl,OldK.of_keep λb o e=>?_,os,bare⟩;cases q:H b with
    | none=>exact un.keep b o e q (by intro z;exact absurd (show b∈([]:List Addr)from z) (by simp)) (by simp)
    | some u=>
     rcases hO b with z | ⟨ob,xs,z⟩
     ·rw[q]at z;cases z
     ·have z2:=un.frzs b ob _ z;obtain⟨e1,_⟩:=hok b _ z;obtain⟨e2,_⟩:=hok' b _ z2;rw[e]at e1;cases e1;exact e2
 cases hk:K.lookup a with
 | some o=>
  have e:=KX a o hk;rw[ha]at e;cases e;refine core (λ_=>none) (λ_=>.inl rfl) (.inr ⟨_,vs.toArray,_,hk,rfl,rfl,rfl,by rw[hV,lenV];exact hl,by simpa using rv⟩) (λb u z=>by have z':(none:Option HO)=some u:=z;cases z') (λb z=>absurd rfl z) λz=>absurd rfl z
 | none=>
  refine core (λb=>if b=a then some (.frz { cls:=.type "list",data:=.seq vs.toArray } (.lst (ns.map V.int)))else none) (λb=>?_) (.inl (.inr ⟨{ cls:=.type "list",data:=.seq vs.toArray },tK rfl⟩)) (λb u z=>?_) (λb z=>?_) λ_=>hk
  ·by_cases hb:b=a
   ·exact .inr ⟨_,_,tK hb⟩
   ·exact .inl (tJ hb)
  ·by_cases hb:b=a
   ·have z':=(tK hb).symm.trans z;cases z';subst hb;exact⟨ha,by rw[mL];exact hl,vs,_,rv,ha⟩
   ·have z':=(tJ hb).symm.trans z;cases z'
  ·by_cases hb:b=a
   ·exact hb
   ·exact absurd (tJ hb) z
theorem ZN{l:PySem.W.OpenLaw}{n k:Nat}{q:Program}{loose:List Str}{XP:(Str->Option Value)->Heap->Prop}{YP:World->Heap->Prop}{d:DefRec}{K:Params->tL}{CX:World->CXT}{sp:World->Sp}{x:Str}
  (hn:l.most=some n) (hn2:n<=sizeLine) (hdf:d.params.defaults=[]) (hr:Room k callerA)
  (hY:∀(w:World) (h:Heap),YP w h->(K w.params).In h)
  (F:∀(w:World) (mg:Str->Option Value) (fa:Addr) (h:Heap),(K w.params).In h->h.Ns mainGlobals mg->mg d.name=some (.ref fa)->
   ∃fd:FuncData,(∀(s:Shared) (u:Value),BindsTo s fd ⟨[u],[]⟩ [(x,u)])/\
    ∀base:Heap,(K w.params).In base->base.Ns mainGlobals mg->FnOk l.prog w (K w.params) mg base (CX w) k fa fd [x] (sp w))
  (hsp:∀(w:World) (H:Hp) (a:Addr) (ns:List Int),ns.length<=n->Only H->SqL (K w.params) H a (ns.map V.int)->sp w [.ref a] H (λv _=>v=.bl true) λ_ _ _=>False)
  (hCX:∀(w:World) (H:Hp) (s:Shared) (e:Value) (s':Shared),CX w [] H s (λ_ _ _=>False) e s'->False) :
  PySem.W.WalkO q loose XP YP l.row.toRowW d [] (λf vs=>PySem.call f vs):=by
 refine Att.attach_call hn hdf λw s₀ s₁ mg mb fa o pm cd doc a vs ns G Y ho hd hcd hmg hobj hints hlen hg=>?_;have KX:=hY w _ Y;obtain⟨fd,hb,hF⟩:=F w mg fa _ KX G.T.g hmg;exact XR KX G.T.g G.T.b G.T.builtins G.T.nolimit hg hobj hints (nN hlen hn2) hr hF hb (λH hO hS=>hsp w H a ns hlen hO hS) λH e s'=>hCX w H s₁ e s'
abbrev CX0:CXT:=λ_ _ _ _ _ _=>False
abbrev E0:XK:=λ_ _ _=>False
theorem qS{X:Cx} :Passes CX0 X E0:=λ_ _ _ _ _ _ _ h=>h.elim
structure Fun(K:tL)(x qual:Str)(st:Stmt)(f:Addr)(fd:FuncData):Prop where
 ex:∃(oc:Value) (od:Option Addr) (kV doc pm:Value) (an:Option Addr) (cdv ct:Value) (osl:Array (Option Value)),
  fd=PySem.W.fnOf x qual (vY st) (vM st) (jK st) .none kV doc pm an cdv ct/\K.lookup f=some ⟨oc,od,.func fd,osl⟩/\PySem.W.codeIn K cdv qual=true
 kp:PySem.W.keepIn K (.ref f)=true
section
variable{P:Program}{w:World}{K:tL}{mg:Str->Option Value}{base:Heap}
theorem Fun.ok{x qual:Str}{st:Stmt}{f:Addr}{fd:FuncData}{N ps:List Str}{k:Nat}{sp:Sp}(F:Fun K x qual st f fd)(S:FnScope N ps (jK st))(len:∀vs H Q E,sp vs H Q E->vs.length=ps.length)
  (hbody:∀(cdv:Value) (A:Around) (outer:List Env) (s:Shared) (H:Hp) (vs:List V) (Q:VK) (E:XK),Room k (A.deeper (envOfC qual (jK st) s.heap.objs.size f cdv))->sp vs H Q E->
   ∃t,PSs (xH CX0 P w K mg base N qual (jK st) f cdv A outer s H E).nox (vM st) t/\t { nx:=λ_ H'=>Q .non H',rt:=Q } (BA N vs) H):FnOk P w K mg base CX0 (k+1) f fd ps sp:=by
 obtain⟨oc,od,kV,doc,pm,an,cdv,ct,osl,rfl,lk,hcd⟩:=F.ex;refine LG lk hcd S len λA outer s H vs Q E hr hsp=>?_;obtain⟨t,h,q⟩:=hbody cdv A outer s H vs Q E hr hsp;exact⟨t,h.nox,q⟩
theorem Fun.binds{x qual:Str}{st:Stmt}{f:Addr}{fd:FuncData}{ps:List Str}(F:Fun K x qual st f fd)
  (h:∀(kV doc pm:Value) (an:Option Addr) (cdv ct:Value) (us:List Value),us.length=ps.length->bindArgs (PySem.W.fnOf x qual (vY st) (vM st) (jK st) .none kV doc pm an cdv ct) ⟨us,[]⟩=pure (ps.zip us)):Binds K fd ps []:=by
 obtain⟨oc,od,kV,doc,pm,an,cdv,ct,osl,rfl,lk,hcd⟩:=F.ex;exact .all (h kV doc pm an cdv ct)
theorem NF{x qual:Str}{st:Stmt}{f:Addr}{oc:Value}{od an:Option Addr}{osl:Array (Option Value)}{kV doc pm cdv ct:Value}(l:K.lookup f=some ⟨oc,od,.func (PySem.W.fnOf x qual (vY st) (vM st) (jK st) .none kV doc pm an cdv ct),osl⟩)
  (c:PySem.W.codeIn K cdv qual=true) (k:PySem.W.keepIn K (.ref f)=true):Fun K x qual st f (PySem.W.fnOf x qual (vY st) (vM st) (jK st) .none kV doc pm an cdv ct):=⟨⟨oc,od,kV,doc,pm,an,cdv,ct,osl,rfl,l,c⟩,k⟩
end
section
variable{X:Cx}
theorem pv(i:Nat){x:Str}{pos:Pos}(hN:X.N[i]? = some x:=by rfl)(hv:Vis X.env.scope x:=by first | exact Or.inl rfl | exact Or.inr (Or.inl rfl) | exact Or.inr (Or.inr rfl))(hd:(x==("__debug__" :Str))=false:=by decide)
  (hcd:(x==("__classdict__" :Str))=false:=by decide):PE X (.Name x pos) (kH i):=pe_var hN hv hd hcd
end
theorem XX{A B:Prop}(h:B):if false=true then A else B:=by
 rw[tJ gW];exact h
theorem iteT{A B:Prop}(h:A):if true=true then A else B:=by
 rw[tK rfl];exact h
theorem wH{c A B:Prop} [Decidable c](h1:c->A)(h2:¬c->B):if c then A else B:=by
 by_cases h:c
 ·rw[tK h];exact h1 h
 ·rw[tJ h];exact h2 h
def Same(H H':Hp):Prop:=∀b o,H b=some o->H' b=some o
theorem Same.refl(H:Hp):Same H H:=λ_ _ h=>h
theorem Same.trans{H H1 H2:Hp}(a:Same H H1)(b:Same H1 H2):Same H H2:=λc o h=>b c o (a c o h)
theorem Same.free{H H':Hp}(e:Same H H'){l:Addr}(h:H' l=Option.none):H l=Option.none:=by
 cases q:H l with
 | none=>rfl
 | some o=>
  rw[e l o q]at h;cases h
end L2
namespace LwM
theorem vC{a b c:Int}(h:Int.gcd a b=1)(d:c∣b):Int.gcd a c=1:=by
 have:=Int.gcd_dvd_gcd_of_dvd_right a d;rw[h]at this;exact Nat.eq_one_of_dvd_one this
theorem zK{a b c:Int}(h:Int.gcd a b=1)(d:c∣a):Int.gcd c b=1:=by
 rw[Int.gcd_comm]at h ⊢;exact vC h d
theorem add_low{t b o u:Int}(hb:0<b)(hu:0<u)(g1:Int.gcd t b=1)(g2:Int.gcd o u=1) :
  (t*(u/(Int.gcd b u:Int))+o*(b/(Int.gcd b u:Int)))/(Int.gcd (t*(u/(Int.gcd b u:Int))+o*(b/(Int.gcd b u:Int))) (Int.gcd b u):Int)=(t*u+o*b)/(Int.gcd (t*u+o*b) (b*u):Int)/\
  (b/(Int.gcd b u:Int))*(u/(Int.gcd (t*(u/(Int.gcd b u:Int))+o*(b/(Int.gcd b u:Int))) (Int.gcd b u):Int))=(b*u)/(Int.gcd (t*u+o*b) (b*u):Int):=by
 have sp:0<Int.gcd b u:=Int.gcd_pos_of_ne_zero_left _ #[0];have c1:Int.gcd (b/(Int.gcd b u:Int)) (u/(Int.gcd b u:Int))=1:=Int.gcd_ediv_gcd_ediv_gcd sp;have d1:(Int.gcd b u:Int)∣b:=mJ ..;have d2:(Int.gcd b u:Int)∣u:=mC ..;have e1:(Int.gcd b u:Int)*(b/(Int.gcd b u:Int))=b:=Int.mul_ediv_cancel' d1;have e2:(Int.gcd b u:Int)*(u/(Int.gcd b u:Int))=u:=Int.mul_ediv_cancel' d2;have sp':(0:Int)<(Int.gcd b u:Int):=by omega
 generalize hs:(Int.gcd b u:Int)=s at *;generalize hb':b/s=b' at *;generalize hu':u/s=u' at *;generalize hT:t*u'+o*b'=T at *;have v1:b'∣b:=⟨s,by rw[nW];exact e1.symm⟩;have v2:u'∣u:=⟨s,by rw[nW];exact e2.symm⟩;have x1:t*u+o*b=s*T:=by
  rw[<-hT,Int.mul_add,<-Int.mul_assoc,<-Int.mul_assoc,nW s t,nW s o,Int.mul_assoc,Int.mul_assoc,e1,e2]
 have x2:b*u=s*(b'*u):=by rw[<-Int.mul_assoc,e1]
 have x3:b'*u=s*b'*u':=by rw[nW s b',Int.mul_assoc,e2]
 have y1:Int.gcd T b'=1:=by
  rw[<-hT,Int.gcd_add_mul_right_left,Int.gcd_mul_right_left_of_gcd_eq_one (vC g1 v1),Int.gcd_comm];exact c1
 have y2:Int.gcd T u'=1:=by
  rw[<-hT,Int.add_comm,Int.gcd_add_mul_right_left,Int.gcd_mul_right_left_of_gcd_eq_one (vC g2 v2)];exact c1
 have z:Int.gcd T (b'*u)=Int.gcd T s:=by
  rw[x3,Int.gcd_mul_left_right_of_gcd_eq_one y2,Int.gcd_mul_left_right_of_gcd_eq_one y1]
 have g:(Int.gcd (t*u+o*b) (b*u):Int)=s*(Int.gcd T s:Int):=by
  rw[x1,x2,Int.gcd_mul_left,z,Int.natCast_mul,Int.natAbs_of_nonneg #[0]]
 rw[g];refine⟨?_, ?_⟩
 ·rw[x1,Int.mul_ediv_mul_of_pos _ _ sp']
 ·rw[x2,Int.mul_ediv_mul_of_pos _ _ sp'];exact(Int.mul_ediv_assoc _ (Int.dvd_trans (mC ..) d2)).symm
theorem mul_low{t b o u:Int}(hb:0<b)(hu:0<u)(g1:Int.gcd t b=1)(g2:Int.gcd o u=1) :
  (t/(Int.gcd t u:Int))*(o/(Int.gcd o b:Int))=(t*o)/(Int.gcd (t*o) (b*u):Int)/\
  (b/(Int.gcd o b:Int))*(u/(Int.gcd t u:Int))=(b*u)/(Int.gcd (t*o) (b*u):Int):=by
 have fp:0<Int.gcd t u:=Int.gcd_pos_of_ne_zero_right _ #[0];have sp:0<Int.gcd o b:=Int.gcd_pos_of_ne_zero_right _ #[0];have c1:=Int.gcd_ediv_gcd_ediv_gcd fp;have c2:=Int.gcd_ediv_gcd_ediv_gcd sp;have e1:(Int.gcd t u:Int)*(t/(Int.gcd t u:Int))=t:=Int.mul_ediv_cancel' (mJ ..);have e2:(Int.gcd t u:Int)*(u/(Int.gcd t u:Int))=u:=Int.mul_ediv_cancel' (mC ..);have e3:(Int.gcd o b:Int)*(o/(Int.gcd o b:Int))=o:=Int.mul_ediv_cancel' (mJ ..);have e4:(Int.gcd o b:Int)*(b/(Int.gcd o b:Int))=b:=Int.mul_ediv_cancel' (mC ..);have fp':(0:Int)<(Int.gcd t u:Int):=by omega
 have sp':(0:Int)<(Int.gcd o b:Int):=by omega
 generalize (Int.gcd t u:Int)=f at *;generalize (Int.gcd o b:Int)=s at *;generalize t/f=t' at *;generalize u/f=u' at *;generalize o/s=o' at *;generalize b/s=b' at *;have v1:t'∣t:=⟨f,by rw[nW];exact e1.symm⟩;have v2:u'∣u:=⟨f,by rw[nW];exact e2.symm⟩;have v3:o'∣o:=⟨s,by rw[nW];exact e3.symm⟩;have v4:b'∣b:=⟨s,by rw[nW];exact e4.symm⟩;have x1:t*o=(f*s)*(t'*o'):=by
  rw[<-e1,<-e3];simp only[Int.mul_assoc,Int.mul_left_comm,nW]
 have x2:b*u=(f*s)*(b'*u'):=by
  rw[<-e2,<-e4];simp only[Int.mul_assoc,Int.mul_left_comm,nW]
 have n1:Int.gcd (t'*o') b'=1:=by
  rw[Int.gcd_mul_right_left_of_gcd_eq_one (zK (vC g1 v4) v1)];exact c2
 have n2:Int.gcd (t'*o') u'=1:=by
  rw[Int.gcd_mul_right_left_of_gcd_eq_one c1];exact zK (vC g2 v2) v3
 have n3:Int.gcd (t'*o') (b'*u')=1:=by
  rw[Int.gcd_mul_right_right_of_gcd_eq_one n1];exact n2
 have fs:(0:Int)<f*s:=nZ fp' sp';have g:(Int.gcd (t*o) (b*u):Int)=f*s:=by
  rw[x1,x2,Int.gcd_mul_left,n3,Nat.mul_one,Int.natAbs_of_nonneg #[0]]
 rw[g,x1,x2,Int.mul_ediv_cancel_left _ #[0],Int.mul_ediv_cancel_left _ #[0]];exact⟨rfl,rfl⟩
theorem LD(a b:Int):Int.gcd b (a%b)=Int.gcd a b:=by
 rw[Int.emod_def,nW b,Int.gcd_sub_mul_right_right,Int.gcd_comm]
theorem vE(a b:Int)(h:0<b):(1:Int)<=(Int.gcd a b:Int):=by
 have:0<Int.gcd a b:=Int.gcd_pos_of_ne_zero_right _ #[0];omega
theorem YD(a b:Int)(h:0<b):(Int.gcd a b:Int)<=b:=Int.le_of_dvd h (mC a b)
theorem AI(t g:Int)(h:1<=g):(t/g).natAbs<=t.natAbs:=by
 rcases Int.lt_or_le t 0 with n | n
 ·have h1:t/g<0:=Int.ediv_neg_of_neg_of_pos n #[0];have h2:t<=t/g:=by
   rw[Int.le_ediv_iff_mul_le #[0]];have:=Int.mul_le_mul_of_nonpos_left (a:=t) (b:=g) (c:=1) #[0] h;omega
  omega
 ·have h1:0<=t/g:=Int.ediv_nonneg n #[0];have h2:t/g<=t:=Int.ediv_le_self g n;omega
theorem log2_lt{n:Nat}{k:Nat}(hk:0<k)(h:n<2^k):n.log2<k:=by
 by_cases e:n=0
 ·subst e;simpa using hk
 ·exact(Nat.log2_lt e).mpr h
end LwM
namespace Lw
open PySem PySem.Spec PyProof.Rows L2
inductive Kd where
 | non | bl | int | str | lst | tup
 deriving DecidableEq
def Kd.ty:Kd->String
 | .non=>"NoneType" | .bl=>"bool" | .int=>"int" | .str=>"str" | .lst=>"list" | .tup=>"tuple"
inductive KdOf(H:Hp):V->Kd->Prop where
 | non:KdOf H .non .non
 | bl (b:Bool):KdOf H (.bl b) .bl
 | int (i:Int):KdOf H (.int i) .int
 | str (x:Str):KdOf H (.str x) .str
 | lst {a:Addr} {xs:List V} (e:H a=some (.lst xs)):KdOf H (.ref a) .lst
 | tup {a:Addr} {xs:List V} (e:H a=some (.tup xs)):KdOf H (.ref a) .tup
theorem KdOf.ty{K:tL}{H:Hp}{v:V}{k:Kd}(h:KdOf H v k):TyOf K H v (.type k.ty):=by
 cases h with
 | non=>exact .non
 | bl b=>exact .bl b
 | int i=>exact .int i
 | str x=>exact .str x
 | lst e=>exact .lst e
 | tup e=>exact .tup e
def Kd.isInt:Kd->Bool
 | .int=>true | .bl=>true | _=>false
def Kd.isBool:Kd->Bool
 | .bl=>true | _=>false
def Isi(T:String)(f:Kd->Bool):Prop:=∀(K:tL) (k:Kd),PySem.W.kitOne K (.type k.ty) (.type T)=some (f k)
theorem isi_int:Isi "int" Kd.isInt:=λK k=>by cases k<;>rfl
theorem LA:Isi "bool" Kd.isBool:=λK k=>by cases k<;>rfl
section
variable{X:Cx}
def rIsi(T:String)(f:Kd->Bool):List V->Hp->VK->Prop:=λxs H Q=>match xs with
 | [x,y]=>y=.ty T/\∃k,KdOf H x k/\Q (.bl (f k)) H
 | _=>False
theorem ZK{T:String}{f:Kd->Bool}(hf:Isi T f):CallR X (.builtin "isinstance") (rIsi T f):=by
 intro ae s σ H xs us Q I r h
 match xs,h with
 | [x,y],h=>
  obtain⟨rfl,k,ty,q⟩:=h;obtain⟨u,w',rfl,ru,rw'⟩:=NQ r;cases (show w'=Value.type T from rw');exact SZ I ru (ty.ty) (hf X.K k) λtk=>⟨.bl (f k),H,I.tok tk,rfl,q⟩
theorem MP{T:String}{f:Kd->Bool}{x:Str}{e:Expr}{te:TE}{p p2 pos:Pos}(hf:Isi T f)(hm:X.mg "isinstance" = none)(hm2:X.mg x=none)(hb:bootBuiltins x=some (.type T))(he:PE X e te)
  (hg:Gl X "isinstance":=by rfl) (hg2:Gl X x:=by rfl) (hn:x≠"__name__":=by decide) (hd:(x==("__debug__" :Str))=false:=by decide)
  (hs:starEach [e,.Name x p2] X.env=(false,eval e X.env)::starEach [.Name x p2] X.env:=by rfl) (hs2:starEach [.Name x p2] X.env=(false,eval (.Name x p2) X.env)::starEach [] X.env:=by rfl)
  (hpl:(backTo pos (starEach [.Name x p2] X.env)).any (·.1)=false:=by rfl):PE X (.Call (.Name "isinstance" p) [e,.Name x p2] [] pos) (tCB (rIsi T f) (qO te (qO (tC (.ty T)) tNil))):=
 kR (X:=X) (p:=p) (pos:=pos) (ZK hf) hg hm boot_isinstance (jA he (jA (OT (v:=.ty T) hg2 hm2 hb rfl hn hd) jC hs2) hs) #[1] #[1] hs hpl
theorem vW:∀{vs:List Value} {ns:List Int} {j:Nat} (_:IntsAre vs ns) (h:j<vs.length),∃n t,ns[j]? = some n/\vs[j]=.int n t
 | _,_,_,.nil,h=>absurd h (Nat.not_lt_zero _)
 | _,_,0,.cons n t _,_=>⟨n,t,rfl,rfl⟩
 | _,_,j+1,.cons _ _ r,h=>by
  obtain⟨n,t,e1,e2⟩:=vW (j:=j) r (by simpa using h);exact⟨n,t,by simpa using e1,by simpa using e2⟩
theorem vK:∀{vs:List Value} {ns:List Int},IntsAre vs ns->vs.length=ns.length
 | _,_,.nil=>rfl
 | _,_,.cons _ _ r=>by simp [vK r]
def CDivL(_ j:Int):Prop:=0<j/\j.natAbs<2^8000
theorem qQ:OpR X (binaryOp .FloorDiv) (rI CDivL λi j=>.int (i/j)):=opI λi j _ _ _ _ _ hc q=>by
 refine floordiv_int (by have:=hc.1;omega) ?_ (.inl (PyProof.noPylong_of_log2 (gX (LwM.log2_lt #[1] hc.2) #[1])));rw[Int.fdiv_eq_ediv_of_nonneg _ (Int.le_of_lt hc.1)];exact q
def CMulL(i j:Int):Prop:=i.natAbs<2^100000/\j.natAbs<2^100000
theorem qI:OpR X (binaryOp .Mult) (rI CMulL λi j=>.int (i*j)):=opI λ_ _ _ _ _ _ _ hc q=>mul_int q (IntMulOk.of_bits (nN (PySem.intBits_le_iff.mpr hc.1) #[1]) (nN (PySem.intBits_le_iff.mpr hc.2) #[1]))
end
theorem AF{c:Bool}{A B:Prop}(h:c=true)(a:A):if c=true then A else B:=by
 rw[tK h];exact a
theorem xB{c:Bool}{A B:Prop}(h:c=false)(b:B):if c=true then A else B:=by
 subst h;exact XX b
theorem zO{t k:TS}{D:Ends}{σ:L2.St}{H:Hp}(J:L2.St->Hp->Prop)(h2:∀σ H,J σ H->k D σ H)(h1:(∀σ H,J σ H->k D σ H)->t { D with nx:=k D } σ H):vZ t k D σ H:=h1 h2
def But(p:Addr)(H H':Hp):Prop:=∀c o,H c=some o->c≠p->H' c=some o
theorem But.refl(p:Addr)(H:Hp):But p H H:=λ_ _ h _=>h
theorem But.trans{p:Addr}{H H1 H2:Hp}(a:But p H H1)(b:But p H1 H2):But p H H2:=λc o h n=>b c o (a c o h n) n
theorem But.upd(p:Addr)(H:Hp)(o:HO):But p H (upd H p o):=λc _ h n=>by
 rw[jG n];exact h
theorem But.of{p:Addr}{H H':Hp}(s:Same H H'):But p H H':=λc o h _=>s c o h
theorem jY{H:Hp}{p:Addr}(o:HO)(n:H p=none):Same H (upd H p o):=λb q e=>by
 rw[jG (jQ e n)];exact e
theorem fresh{H:Hp}{o:HO}{Q:VK}(h:∀p H',H p=none->Same H H'->H' p=some o->Q (.ref p) H'):∀p,H p=none->Q (.ref p) (upd H p o):=
 λp n=>h p _ n (jY o n) jE
def New(H:Hp)(o:HO)(Q:VK):Prop:=∀p H',H p=none->Same H H'->H' p=some o->Q (.ref p) H'
theorem New.at{H:Hp}{o:HO}{Q:VK}(h:New H o Q){p:Addr}(n:H p=none):Q (.ref p) (upd H p o):=h p _ n (jY o n) jE
section
variable{X:Cx}{es:List Expr}{t:TA}{pos:Pos}
def tTupF(t:TA):TE:=fun σ H Q=>t σ H λxs H1=>xs.length<=sizeLine/\New H1 (.tup xs) Q
def tLstF(t:TA):TE:=fun σ H Q=>t σ H λxs H1=>xs.length<=sizeLine/\New H1 (.lst xs) Q
theorem jW{x1}(h:PA X es t):PE X (.Tuple es x1 pos) (tTupF t):=by
 intro ae s σ H Q I hq;refine wpAny_Tuple_spliced (thn (h pos ae s σ H _ I hq) λus s1 ⟨xs,H1,I1,r,z,q⟩=>⟨by rw[<-r.length];exact z, ?_⟩);have hf:H1 s1.heap.objs.size=none:=I1.hok.fresh uU ;refine⟨.ref s1.heap.objs.size,upd H1 s1.heap.objs.size (.tup xs),I1.laid (t':=s1.toks) (λb u e=>gH _ e) uU ?_,rfl,q.at hf⟩;exact⟨z,us,r,⟨_,gT _ rfl,rfl,_,rfl⟩,.of (gT _ rfl) rfl⟩
theorem vL(h:PA X es t):PE X (.List es pos) (tLstF t):=by
 intro ae s σ H Q I hq;refine wpAny_List_spliced (thn (h pos ae s σ H _ I hq) λus s1 ⟨xs,H1,I1,r,z,q⟩=>⟨by rw[<-r.length];exact z, ?_⟩);have hf:H1 s1.heap.objs.size=none:=I1.hok.fresh uU ;refine⟨.ref s1.heap.objs.size,upd H1 s1.heap.objs.size (.lst xs),I1.laid (t':=s1.toks) (λb u e=>gH _ e) uU ?_,rfl,q.at hf⟩;exact⟨z,us,0,r,gT _ rfl⟩
theorem opr_of{f:Value->Value->Sem Value}{r r':R2}(h:OpR X f r)(i:∀x y H Q,r' x y H Q->r x y H Q):OpR X f r':=
 λae s σ H x y v u Q I rx ry q=>h ae s σ H x y v u Q I rx ry (i x y H Q q)
theorem ZJ{f:Value}{r r':List V->Hp->VK->Prop}(h:CallR X f r)(i:∀xs H Q,r' xs H Q->r xs H Q):CallR X f r':=
 λae s σ H xs us Q I rv q=>h ae s σ H xs us Q I rv (i xs H Q q)
theorem slr_of{r r':V->Option Int->Option Int->Hp->VK->Prop}(h:SlR X r)(i:∀x a b H Q,r' x a b H Q->r x a b H Q):SlR X r':=
 λae s σ H x v vl vu lo hi sl Q I rx hs pl pu q=>h ae s σ H x v vl vu lo hi sl Q I rx hs pl pu (i x lo hi H Q q)
def rListF(K:tL):List V->Hp->VK->Prop:=λxs H Q=>∃p ys,xs=[.ref p]/\(SqL K H p ys∨SqT K H p ys)/\New H (.lst ys) Q
theorem NM:CallR X (.type "list") (rListF X.K):=ZJ JC λxs H Q ⟨p,ys,e,h,q⟩=>⟨p,ys,e,h,λl n=>q.at n⟩
def rCatF:R2:=λx y H Q=>∃l b xs zs,x=.ref l/\y=.ref b/\H l=some (.lst xs)/\H b=some (.lst zs)/\xs.length+zs.length<=sizeLine/\New H (.lst (xs++zs)) Q
theorem op_catF:OpR X (binaryOp .Add) rCatF:=opr_of op_cat λx y H Q ⟨l,b,xs,zs,e1,e2,h1,h2,h3,q⟩=>⟨l,b,xs,zs,e1,e2,h1,h2,h3,λp n=>q.at n⟩
def rSlLF(K:tL):V->Option Int->Option Int->Hp->VK->Prop:=λx lo hi H Q=>∃a xs,x=.ref a/\SqL K H a xs/\New H (.lst (vF xs lo hi)) Q
theorem zM:SlR X (rSlLF X.K):=slr_of ZW λx a b H Q ⟨p,xs,e,h1,q⟩=>⟨p,xs,e,h1,λp n=>q.at n⟩
end
section
variable{prog:Program}{w:World}{A:Around}{R:Result->Shared->Prop}{s:Shared}
theorem JB{elt target iter:Expr}{scope:Scope}{pos:Pos}{it acc:Value}{env:Env}(I:Nat->Shared->Prop)
  (turn:∀n s,I n s->wpAny #[4] A (pyNext it) (λr s₁=>match r with
   | none=>R (.ok .next) s₁
   | some v=>wpAny #[4] A (letOwnedTupleGo target it v) (λ_ s₁'=>wpAny #[4] A (assign target env v) (λ_ s₂=>wpAny #[4] A (eval elt env) (λx s₃=>
     wpAny #[4] A (call (.builtin "list.append") [acc,x]) (λ_ s₄=>∃m,m<n/\I m s₄) (notedBy #[4] A env λe s'=>R (.error e) s') s₃)
     (notedBy #[4] A env λe s'=>R (.error e) s') s₂) (notedBy #[4] A env λe s'=>R (.error e) s') s₁') (notedBy #[4] A env λe s'=>R (.error e) s') s₁) (notedBy #[4] A env λe s'=>R (.error e) s') s)
  (n:Nat) (h:I n s) :
  codeAny #[4] A (.compLoop (.ListComp elt [⟨target,iter,[],0⟩] scope pos) 0 it acc env) R s:=by
 refine codeAny_loop rfl I (λn s hI=>?_) n h;show wpAny _ _ ((compTurn (.ListComp elt [⟨target,iter,[],0⟩] scope pos) 0 it acc env).onRaise (λx=>do noteFrame x env;theTreesLotGoes x)) _ _ s;refine wpAny_noted ?_;rw[compTurn_list1];refine tF (wpAny_standAt (tF (tH (turn n s hI) (λr s₁ h₁=>?_) λ_ _ h'=>h')));cases r with
 | none=>exact tG h₁
 | some v=>
  refine tF (tH h₁ (λ_ s₁' h₁'=>?_) λ_ _ h'=>h');exact tF (tH h₁' (λ_ s₂ h₂=>tF (tF (tH h₂ (λx s₃ h₃=>tF (tH h₃
   (λ_ s₄ h₄=>tG (tG ⟨rfl,h₄⟩)) λ_ _ h'=>h')) λ_ _ h'=>h'))) λ_ _ h'=>h')
end
section
variable{X:Cx}
end
mutual
inductive DecV(H:Hp):V->PyData->Prop where
 | non:DecV H .non .none
 | bl (b:Bool):DecV H (.bl b) (.bool b)
 | int (i:Int):DecV H (.int i) (.int i)
 | str (x:Str):DecV H (.str x) (.str x)
 | lst {a:Addr} {xs:List V} {ds:List PyData} (e:H a=some (.lst xs)) (h:DecVs H xs ds):DecV H (.ref a) (.list ds)
 | tup {a:Addr} {xs:List V} {ds:List PyData} (e:H a=some (.tup xs)) (h:DecVs H xs ds):DecV H (.ref a) (.tuple ds)
inductive DecVs(H:Hp):List V->List PyData->Prop where
 | nil:DecVs H [] []
 | cons {x:V} {d:PyData} {xs:List V} {ds:List PyData} (h:DecV H x d) (t:DecVs H xs ds):DecVs H (x::xs) (d::ds)
end
section
variable{X:Cx}
mutual
theorem DecV.reads{ae:List (Addr×Obj)}{σ:L2.St}{H:Hp}{s:Shared}(I:Inv X ae σ H s):∀{x:V} {d:PyData} {u:Value},DecV H x d->RelV x u->∃as,Reads s.heap u d as
 | _,_,_,.non,r=>by cases r;exact⟨_,.none⟩
 | _,_,_,.bl b,r=>by cases r;exact⟨_,.bool b⟩
 | _,_,_,.int i,r=>by obtain⟨t,rfl⟩:=r;exact⟨_,.int i t⟩
 | _,_,_,.str x,r=>by obtain⟨t,rfl⟩:=r;exact⟨_,.str x t⟩
 | _,_,_,.lst e h,r=>by
  cases r;obtain⟨its,rv,⟨o,n,ho,hc,_,hd⟩,_⟩:=I.list (SqL.of e);obtain⟨as,ra⟩:=DecVs.reads I h rv;exact⟨_,.list ho hc hd (by simpa using ra)⟩
 | _,_,_,.tup e h,r=>by
  cases r;obtain⟨its,rv,⟨o,ho,hc,n,hd⟩,_⟩:=I.tuple (SqT.of e);obtain⟨as,ra⟩:=DecVs.reads I h rv;exact⟨_,.tuple ho hc hd (by simpa using ra)⟩
theorem DecVs.reads{ae:List (Addr×Obj)}{σ:L2.St}{H:Hp}{s:Shared}(I:Inv X ae σ H s):∀{xs:List V} {ds:List PyData} {us:List Value},DecVs H xs ds->Vals xs us->∃as,ReadsAll s.heap us ds as
 | _,_,_,.nil,r=>by cases r;exact⟨_,.nil⟩
 | _,_,_,.cons h t,r=>by
  cases r with
  | cons q r=>
   obtain⟨as,ra⟩:=DecV.reads I h q;obtain⟨bs,rb⟩:=DecVs.reads I t r;exact⟨_,.cons ra rb⟩
end
def DataOk(d:PyData):Prop:=d.canLay0=true/\d.depth<=60
def rEqD:R2:=λx y H Q=>∃da db,DecV H x da/\DecV H y db/\DataOk da/\DataOk db/\Q (.bl (PyData.eqv da db)) H
def rNeD:R2:=λx y H Q=>∃da db,DecV H x da/\DecV H y db/\DataOk da/\DataOk db/\Q (.bl (!PyData.eqv da db)) H
theorem WG(hu:X.A.units+64<cLine):OpR X (compareOp .Eq) rEqD:=by
 intro ae s σ H x y v u Q I rx ry h;obtain⟨da,db,d1,d2,o1,o2,q⟩:=h;obtain⟨as,ra⟩:=d1.reads I rx;obtain⟨bs,rb⟩:=d2.reads I ry;exact SeqAt.rcAt_reads ra rb o1.1 o2.1 (by have:=o1.2;omega) _ _ _ _ ⟨.bl _,H,I,rfl,q⟩
theorem EK(hu:X.A.units+64<cLine):OpR X (compareOp .NotEq) rNeD:=by
 intro ae s σ H x y v u Q I rx ry h;obtain⟨da,db,d1,d2,o1,o2,q⟩:=h;obtain⟨as,ra⟩:=d1.reads I rx;obtain⟨bs,rb⟩:=d2.reads I ry;exact SeqAt.rcNeAt_reads ra rb o1.1 o2.1 (by have:=o1.2;omega) _ _ _ _ ⟨.bl _,H,I,rfl,q⟩
end
def CompW(xs:List V)(Pv:Nat->List V->Hp->Prop)(i m:Nat)(ys:List V)(H:Hp):Prop:=m=xs.length-i/\i<=xs.length/\ys.length=i/\Pv i ys H
theorem wW{xs:List V}{Pv:Nat->List V->Hp->Prop}{i m:Nat}{ys:List V}{x y:V}{H5:Hp}{p:Addr}(hx:xs[i]? = some x)(hm:m=xs.length-i)(hl:ys.length=i)(e:H5 p=some (.lst ys))(h:Pv (i+1) (ys++[y]) (upd H5 p (.lst (ys++[y])))) :
  H5 p=some (.lst ys)/\∃m',m'<m/\CompW xs Pv (i+1) m' (ys++[y]) (upd H5 p (.lst (ys++[y]))):=by
 have hi:i<xs.length:=(gB.mp hx).1;exact⟨e,xs.length-(i+1),by omega,rfl,by omega,by simp [hl],h⟩
section
end
def jN(X:Cx)(N:List Str)(scope:Scope)(cl:List (Str×Addr))(C:Addr)(fp:List Addr)(s2:Shared)(H2:Hp):Cx:=
 { X with N:=N,s₀:=s2,H₀:=H2,env:=compEnvC scope cl C X.env,outer:=X.stack,stack:=X.stack,ex:=fp,fn:=λ_=>false,pn:=[],xe:=λ_ _=>False }
def Keep(σ τ:L2.St):Prop:=∀(i:Nat) (v:V),σ[i]? = some (some v)->τ[i]? = some (some v)
theorem QD{x:Option V}{r:L2.St} :Keep (none::r) (x::r):=λi v h=>by
 cases i with
 | zero=>cases h
 | succ j=>exact h
theorem KY{x y:Option V}{r:L2.St} :Keep (none::none::r) (x::y::r):=λi v h=>by
 cases i with
 | zero=>cases h
 | succ j=>cases j with
  | zero=>cases h
  | succ k=>exact h
def CompGoF(σ0:L2.St)(J:It)(g:TG)(te:TE)(Q:VK)(p:Addr)(H':Hp):Prop:=
 ∃W:Nat->Nat->List V->Hp->Prop,(∃m,W 0 m [] H')/\∀i m ys H2,W i m ys H2->H2 p=some (.lst ys)/\ys.length<sizeLine/\
  ((J.stop i H2/\Q (.ref p) H2)∨(J.go i H2/\∀x H3,J.yld i H2 x H3->g x σ0 H3 fun σ4 H4=>Keep σ0 σ4/\te σ4 H4 λy H5=>H5 p=some (.lst ys)/\∃m',m'<m/\W (i+1) m' (ys++[y]) (upd H5 p (.lst (ys++[y])))))
def UV(own:Nat)(idx:List Nat)(wi:TI)(g:TG)(te:TE):TE:=fun σ H Q=>wi σ H λJ H1=>∀p H',H1 p=none->Same H1 H'->H' p=some (.lst [])->
 CompGoF (List.replicate own none++idx.map λj=>(σ[j]?).getD none) J g te Q p H'
section
variable{X:Cx}
theorem NI{ae:List (Addr×Obj)}{σ:L2.St}{H1:Hp}{s2:Shared}{N:List Str}{scope:Scope}{cl:List (Str×Addr)}{C:Addr}{fp:List Addr}(I:Inv X ae σ H1 s2)(hk:scope.kind=.function)
  (hsub:∀x c,cl.lookup x=some c->X.env.cells.lookup x=some c) (hhas:∀x,((relabel scope X.env).names.lookup x=some .cell∨(relabel scope X.env).names.lookup x=some .free)->∃c,cl.lookup x=some c)
  (hC:s2.heap.objs.size<=C) (hf:∀b∈fp,FpOk X ae H1 b) (hlt:∀b∈fp,b<s2.heap.objs.size):(jN X N scope cl C fp s2 H1).Ok where
 mod:=I.ok.mod
 kind:=hk
 glob:=I.ok.glob
 blt:=I.ok.blt
 above:=hC
 inj:=λx y c h1 h2=>I.ok.inj x y c (hsub x c h1) (hsub y c h2)
 has:=hhas
 cab:=λx c h _=>by cases h
 hd:=I.ok.hd
 frames:=I.ok.frames
 stk:=.inl rfl
 exf:=λb hb=>⟨nO (gX (hlt b hb) hC),λx c h=>(hf b hb).2.2.2.2.1 x c (hsub x c h)⟩
 bs:=I.bs
 bsz:=nN I.ok.bsz I.sz
 noex:=λb o e hb=>by
  rcases(hf b hb).2.2.2.1 with z | z
  ·exact I.ok.noex b o e z
  ·exact absurd (gX (nJ e) (nN I.ok.bsz z)) (mY _)
 exfs:=λb hb z=>(mX.mp (I.stkSub b z)).elim (hf b hb).2.1 (hf b hb).2.2.1
 funs:=I.stack
 frf:=I.stkFree
structure CmpH(X:Cx)(own:Nat)(idx:List Nat)(N:List Str)(scope:Scope)(cl:List (Str×Addr)):Prop where
 k:scope.kind=.function
 clos:closureFor scope X.env=pure cl
 cell:∀x∈scope.names,x.2≠.cell
 names:∀x∈scope.names,x.2=.local->scope.names.lookup x.1=some .local
 sub:∀x c,cl.lookup x=some c->X.env.cells.lookup x=some c
 has:∀x,((relabel scope X.env).names.lookup x=some .cell∨(relabel scope X.env).names.lookup x=some .free)->∃c,cl.lookup x=some c
 len:N.length=own+idx.length
 at':∀(k j:Nat) (x:Str),idx[k]? = some j->N[own+k]? = some x->X.N[j]? = some x/\X.env.kindOf x=some .cell/\(relabel scope X.env).names.lookup x=some .cell/\X.env.scope.names.lookup x=some .cell
def CGo(Y:Cx)(σ0:L2.St)(J:It)(B:Value->(Shared->Prop)->Shared->Prop)(Qn:Hp->Prop)(H':Hp):Prop:=
 ∃W:Nat->Nat->Hp->Prop,(∃m,W 0 m H')/\∀i m H2,W i m H2->(J.stop i H2/\Qn H2)∨(J.go i H2/\∀x H3,J.yld i H2 x H3->∀pns u s5 K,Inv Y pns σ0 H3 s5->RelV x u->
  (∀s8 σ6 H8 m',Inv Y pns σ6 H8 s8->Keep σ0 σ6->m'<m->W (i+1) m' H8->K s8)->B u K s5)
def LeaveOk(X:Cx)(ae:List (Addr×Obj))(σ:L2.St)(use:Option (Value->Sem Unit))(Qc:Value->Shared->Prop)(Qn:Addr->Hp->Prop):Prop:=
 ∀N scope cl C fp s2 H1 σ0 H3 s4,Inv X ae σ H1 s2->(∀b∈fp,FpOk X ae H1 b)->C=s2.heap.objs.size+1->Inv (jN X N scope cl C fp s2 H1) [] σ0 H3 s4->Qn s2.heap.objs.size H3->
  compPost #[2] X.A X.xe use Qc (.ref s2.heap.objs.size) C (.ok .next) s4
theorem LK{ae:List (Addr×Obj)}{σ:L2.St}{N scope cl C fp s2 H1 σ0 H3 s4}(I2:Inv X ae σ H1 s2)(f2:∀b∈fp,FpOk X ae H1 b)(hC:C=s2.heap.objs.size+1)(I5:Inv (jN X N scope cl C fp s2 H1) [] σ0 H3 s4) :
  (∃m,s4.heap.Ns C m)/\Inv X ae σ H3 s4/\(∀b,b<s2.heap.objs.size->b≠C)/\∀σ' s5,Inv X ae σ' H3 s5->∀h',(∀b o,b≠C->s5.heap.get? b=some o->h'.get? b=some o)->Inv X ae σ' H3 { s5 with heap:=h' } :=by
 have lt:∀b,b<s2.heap.objs.size->b≠C:=λb hb=>by omega
 refine⟨I5.loc.imp λ_ h=>h.1,I2.call' (ch:=fp) (s':=s4) I5.os I5.base I5.hok I5.bare (λb hb=>⟨(f2 b hb).2.2.2.1,(f2 b hb).2.1,(f2 b hb).2.2.2.2.1,(f2 b hb).2.2.2.2.2⟩),lt,fun σ' s5 I6 h' k=>?_⟩;refine I6.turned (it:=C) (t':=s5.toks) k I5.free (Ne.symm (lt _ I2.lt)) (.inr (nN I2.sz (hC▸Nat.le_succ _))) (λx c hc=>?_) (λp hp=>lt _ (nJ (I2.pin p hp).1));obtain⟨v,hv⟩:=I2.cell x c hc;exact lt _ hv.lt
theorem XO{ae:List (Addr×Obj)}{σ:L2.St}{Q:VK} :LeaveOk X ae σ none (EP X ae σ Q) (λp H=>Q (.ref p) H):=by
 intro N scope cl C fp s2 H1 σ0 H3 s4 I2 f2 hC I5 qn;obtain⟨⟨m,hm⟩,IX,_,k⟩:=LK I2 f2 hC I5;exact⟨m,hm,λh' sb=>⟨.ref s2.heap.objs.size,H3,k _ _ IX h' (λb o hb e=>sb.extBut b o hb e),rfl,qn⟩⟩
theorem XN{ae:List (Addr×Obj)}{σ:L2.St}{i:Nat}{y:Str}{py:Pos}{Qx:L2.St->Hp->Prop}(hN:X.N.Nodup)(hi:X.N[i]? = some y)(hx:Loc X.env.scope y)(hfn:X.fn y=true∨X.env.scope.names.lookup y=some .local) :
  LeaveOk X ae σ (some (assign (.Name y py) X.env)) (λ_ s'=>∃σ' H',Inv X ae σ' H' s'/\Qx σ' H') (λp H=>Qx (σ.set i (some (.ref p))) H):=by
 intro N scope cl C fp s2 H1 σ0 H3 s4 I2 f2 hC I5 qn;obtain⟨⟨m,hm⟩,IX,lt,k⟩:=LK I2 f2 hC I5;show wpAny _ X.A (assign (.Name y py) X.env (.ref s2.heap.objs.size)) _ _ s4;refine wpAny_assign_Name (FM IX hN hi hx (v:=.ref s2.heap.objs.size) rfl (λs5 I6 ⟨a,sb,ha⟩=>?_) hfn);have aC:a≠C:=by
  rcases ha with ha | ha
  ·rw[ha];exact lt _ I2.lt
  ·obtain⟨v,hv⟩:=I2.cell y a ha;exact lt _ hv.lt
 exact⟨m,hm.sameBut sb (Ne.symm aC),λh' sb'=>⟨_,H3,k _ _ I6 h' (λb o hb e=>sb'.extBut b o hb e),qn⟩⟩
theorem wX{own:Nat}{idx:List Nat}{N:List Str}{scope:Scope}{cl:List (Str×Addr)}(M:CmpH X own idx N scope cl)(hc:X.calm=true){e target iter:Expr}{gs:List Comprehension}{ifs:List Expr}{pos:Pos}{T:String}{data:Data}{u0:HO}{wi:TI}{G:It->Addr->Hp->Prop}
  {B:Env->Addr->(Result->Shared->Prop)->Value->(Shared->Prop)->Shared->Prop} {use:Option (Value->Sem Unit)} {Qc:Value->Shared->Prop} {Qn:Addr->Hp->Prop} {ae:List (Addr×Obj)} {s:Shared} {σ:L2.St} {H:Hp} (I:Inv X ae σ H s) (hi:PI X target iter wi)
  (h:wi σ H λJ H1=>∀p H',H1 p=none->Same H1 H'->H' p=some u0->G J p H') (hcl:clausesOf e=⟨target,iter,ifs,0⟩::gs) (hs:∀x,foldedSetIterable iter X.env x=pure x) (hd:sizeOk data) (hfr:({ cls:=.type T,dict:=none,data:=data } :Obj).isFreed=false)
  (hnew:∀s2 H1 h,Inv X ae σ H1 s2->h.get? s2.heap.objs.size=some { cls:=.type T,dict:=none,data:=data }->ObjOk X.prog X.w (upd H1 s2.heap.objs.size u0) h s2.heap.objs.size u0)
  (hloop:∀{it:Value} {a:Addr} {env:Env} {R:Result->Shared->Prop} {s:Shared} (V:Nat->Shared->Prop),(∀n s,V n s->wpAny #[2] X.A (pyNext it) (λr s₁=>match r with
   | none=>R (.ok .next) s₁
   | some v=>wpAny #[2] X.A (letOwnedTupleGo target it v) (λ_ s₁'=>B env a R v (λs₄=>∃m,m<n/\V m s₄) s₁') (notedBy #[2] X.A env λe s'=>R (.error e) s') s₁) (notedBy #[2] X.A env λe s'=>R (.error e) s') s)->
   ∀n,V n s->codeAny #[2] X.A (.compLoop e 0 it (.ref a) env) R s)
  (hstart:∀{it acc:Value} {env:Env} {R:Result->Shared->Prop} {s:Shared},codeAny #[2] X.A (.compLoop e 0 it acc env) R s->wpAny #[2] X.A (pyIter it) (λit' s'=>codeAny #[2] X.A (.compLoop e 0 it' acc env) R s') (notedBy #[2] X.A env λx s'=>R (.error x) s') s->codeAny #[2] X.A (.compStart e 0 it acc env) R s)
  (hG:∀C fp s2 H2 J p H' R,G J p H'->CGo (jN X N scope cl C fp s2 H2) (List.replicate own none++idx.map λj=>(σ[j]?).getD none) J (B (compEnvC scope cl C X.env) p R) (Qn p) H')
  (hL:LeaveOk X ae σ use Qc Qn):wpAny #[2] X.A (comprehension e scope X.env pos (newObj (.type T) data) false (eval iter X.env) use) Qc X.xe s:=by
 refine wpAny_comprehension_free hcl hs M.clos M.k M.names (thn (hi ae s σ H _ I h) λv s1 h1=>thn h1 λitv s2 h2=>?_);obtain⟨it,fp,tn,J,H1,e,I2,T,st2,f2,hR⟩:=h2;subst e;have hlt:∀b∈fp,b<s2.heap.objs.size:=λb hb=>by
  obtain⟨o,ho,_⟩:=T.obj 0 _ st2 b hb;exact nJ ho
 refine wpAny_newObj_type (wpAny_newFunctionEnv M.cell (by intro y hy;simp at hy) (λh₁ hns₁ hsb₁=>?_) M.k) hd;dsimp only at hns₁ hsb₁ ⊢;generalize hHH:s2.heap.push _=HH at hns₁ hsb₁ ⊢;have hCe:HH.objs.size=s2.heap.objs.size+1:=by rw[<-hHH,mV]
 have hDC:s2.heap.objs.size≠HH.objs.size:=by rw[hCe];exact nO (Nat.lt_succ_self _)
 have hCle:s2.heap.objs.size<=HH.objs.size:=by rw[hCe];exact Nat.le_succ _
 have old:∀b o,s2.heap.get? b=some o->h₁.get? b=some o:=λb o e=>hsb₁.extBut b o (by rw[hCe];exact nO (Nat.lt_succ_of_lt (nJ e))) (gH _ (hHH▸gH _ e));have hD:=hsb₁.extBut _ _ hDC (gH _ (hHH▸gT _ hfr));have nD:H1 s2.heap.objs.size=none:=I2.hok.fresh uU ;obtain⟨W,⟨m0,w0⟩,turn⟩:=hG HH.objs.size fp s2 H1 J _ _ (compPost #[2] X.A X.xe use Qc (.ref s2.heap.objs.size) HH.objs.size) (hR s2.heap.objs.size _ nD (jY u0 nD) jE);generalize hσ:(List.replicate own none++idx.map λj=>(σ[j]?).getD none:L2.St)=σ0 at turn;have lσ:σ0.length=N.length:=by rw[<-hσ,List.length_append,gK,mL,M.len]
 have ok:=NI (N:=N) (cl:=cl) (C:=HH.objs.size) I2 M.k M.sub M.has hCle f2 hlt;have oldC:∀c v,s2.heap.IsCell c v->h₁.IsCell c v:=λc v ⟨o,ho,hd⟩=>⟨o,old c o ho,hd⟩;have I4:Inv (jN X N scope cl HH.objs.size fp s2 H1) [] σ0 (upd H1 s2.heap.objs.size u0) { s2 with heap:=h₁,toks:=s2.toks+([]:List (Str×Value)).length } :=by
  refine⟨ok,rfl,I2.bare,Un.laid old uU nD,⟨_,hns₁,λi x v e1 e2 _=>?_⟩,(λx c z=>?_), ?_,(λx c z=>?_),(λp hp=>nomatch hp),I2.hok.laid old uU (hnew _ _ _ I2 hD),lσ⟩
  ·
   rw[<-hσ]at e2;by_cases hi':i<own
   ·rw[gC (by rw[gK];exact hi'),List.getElem?_replicate]at e2;split at e2<;>cases e2
   ·obtain⟨k,rfl⟩:∃k,i=own+k:=⟨i-own,by omega⟩;rw[uZ (by rw[gK];omega),gK,Nat.add_sub_cancel_left,hU]at e2;cases ej:idx[k]? with
    | none=>rw[ej]at e2;cases e2
    | some j=>
     rw[ej,Option.map_some]at e2;have e2:=Option.some.inj e2;obtain⟨n1,n2,n3,n4⟩:=M.at' k j x ej e1;have e3:σ[j]? = some (some v):=by
      cases q:σ[j]? with
      | none=>rw[q]at e2;cases e2
      | some y=>rw[q,Option.getD_some]at e2;rw[e2]
     obtain⟨m,hm,hl⟩:=I2.loc;obtain⟨u,ru,lk⟩:=hl j x v n1 e3 (.inr (.inl n4));refine⟨u,ru, ?_⟩;rcases lk with⟨kl,_⟩ | ⟨_,c,hcl,hic⟩
     ·rw[n2]at kl;cases kl
     ·obtain⟨c',hc'⟩:=M.has x (.inl n3);have:c'=c:=Option.some.inj ((M.sub x c' hc').symm.trans hcl);subst this;exact .inr ⟨.inl n3,c',hc',oldC _ _ hic⟩
  ·obtain⟨v,hv⟩:=I2.cell x c (M.sub x c z);exact⟨v,oldC _ _ hv⟩
  ·show(upd H1 s2.heap.objs.size u0) HH.objs.size=none;rw[jG (Ne.symm hDC)];exact I2.hok.fresh hCle
  ·obtain⟨v,hv⟩:=I2.cell x c (M.sub x c z);show(upd H1 s2.heap.objs.size u0) c=none;rw[jG (nO hv.lt)];exact I2.freeC x c (M.sub x c z)
 have stat:∀{H':Hp},(∀b∈fp,H' b=none)->∀b∈fp,FpOk (jN X N scope cl HH.objs.size fp s2 H1) [] H' b:=λhn b hb=>
  ⟨hn b hb,(ok.exf b hb).1,ok.exfs b hb,.inl hb,(ok.exf b hb).2,λp hp=>nomatch hp⟩
 have st4:tn 0 h₁:=T.keep _ _ _ st2 λb _ o e=>old b o e;have fr4:∀b∈fp,(upd H1 s2.heap.objs.size u0) b=none:=λb hb=>by
  rw[jG (nO (hlt b hb))];exact(f2 b hb).1
 have loop:=hloop (it:=.ref it) (a:=s2.heap.objs.size) (env:=compEnvC scope cl HH.objs.size X.env) (R:=compPost #[2] X.A X.xe use Qc (.ref s2.heap.objs.size) HH.objs.size) (s:={ s2 with heap:=h₁,toks:=s2.toks+([]:List (Str×Value)).length })
  (λn s'=>∃i H',Inv (jN X N scope cl HH.objs.size fp s2 H1) [] σ0 H' s'/\tn i s'.heap/\(∀b∈fp,H' b=none)/\W i n H') (by
  rintro n s3 ⟨i,H3,I3,st3,fr3,w3⟩;rcases turn i n H3 w3 with⟨stop,qn⟩ | ⟨go,step⟩
  ·refine thn (T.done (jN X N scope cl HH.objs.size fp s2 H1) rfl rfl rfl hc i [] s3 _ H3 _ I3 (stat fr3) st3 stop) λr s4 ⟨hr,I5⟩=>?_;subst hr;exact hL _ _ _ _ _ _ _ _ _ _ I2 f2 hCe I5 qn
  ·refine tH (T.item (jN X N scope cl HH.objs.size fp s2 H1) rfl rfl rfl hc i [] s3 _ H3 (λ_ _=>False) I3 (stat fr3) st3 go) (λr s4 ⟨u,hr,h4⟩=>?_) λ_ _ z=>z.elim;subst hr;refine tH h4 (λ_ s5 ⟨x,H5,I5,r5,y5,st5,fr5⟩=>?_) λ_ _ z=>z.elim;refine step x H5 y5 _ u s5 _ (I5.pinned (stat fr5) (T.obj _ _ st5)) r5 λs8 σ6 H8 m' I8 kp6 hm' w7=>?_;refine⟨m',hm',i+1,_,(I8.unpinned).weak (by rw[lσ,I8.len];rfl) kp6,T.keep _ _ _ st5 λb hb o e=>(I8.pin (b,o) (gJ _ (gJ _ (yX hb e)))).1,λb hb=>?_,w7⟩;obtain⟨o,e,d⟩:=T.obj _ _ st5 b hb;exact(I8.pin (b,o) (gJ _ (gJ _ (yX hb e)))).2.1) m0 ⟨0,_,I4,st4,fr4,w0⟩
 exact hstart loop (T.self _ 0 _ _ _ st4 loop)
theorem OY{ae:List (Addr×Obj)}{σ:L2.St}(s2:Shared)(H1:Hp)(h:Heap)(_:Inv X ae σ H1 s2)(hD:h.get? s2.heap.objs.size=some { cls:=.type "list",dict:=none,data:=.seq ([]:List Value).toArray }):ObjOk X.prog X.w (upd H1 s2.heap.objs.size (.lst [])) h s2.heap.objs.size (.lst []):=
 ⟨by show 0<=sizeLine;decide,[],0,.nil,hD⟩
abbrev BF(X:Cx)(target elt:Expr)(env:Env)(a:Addr)(R:Result->Shared->Prop)(v:Value)(K:Shared->Prop)(s:Shared):Prop:=
 wpAny #[2] X.A (assign target env v) (λ_ s₂=>wpAny #[2] X.A (eval elt env) (λx s₃=>
  wpAny #[2] X.A (call (.builtin "list.append") [.ref a,x]) (λ_ s₄=>K s₄) (notedBy #[2] X.A env λe s'=>R (.error e) s') s₃)
  (notedBy #[2] X.A env λe s'=>R (.error e) s') s₂) (notedBy #[2] X.A env λe s'=>R (.error e) s') s
theorem cgoF{target elt:Expr}{g:TG}{te:TE}{N:List Str}{scope:Scope}{cl:List (Str×Addr)}(hg:∀C fp s2 H2,PG (jN X N scope cl C fp s2 H2) target g)(he:∀C fp s2 H2,PE (jN X N scope cl C fp s2 H2) elt te){σ0:L2.St}{Q:VK}(C:Addr)(fp:List Addr)(s2:Shared)(H2:Hp)(J:It)(p:Addr)(H':Hp)(R:Result->Shared->Prop)
  (h:CompGoF σ0 J g te Q p H'):CGo (jN X N scope cl C fp s2 H2) σ0 J (BF X target elt (compEnvC scope cl C X.env) p R) (λH=>Q (.ref p) H) H':=by
 obtain⟨W,⟨m0,w0⟩,turn⟩:=h;refine⟨λi m H=>∃ys,W i m ys H,⟨m0,[],w0⟩, ?_⟩;rintro i m H3 ⟨ys,w⟩;obtain⟨hp3,hz3,hw⟩:=turn i m ys H3 w;refine hw.imp id λ⟨go,step⟩=>⟨go,λx H5 y5 pns u s5 K I5 r5 hK=>?_⟩;refine tH (hg _ _ _ _ _ s5 _ H5 x u _ I5 r5 (step x H5 y5)) (λ_ s6 ⟨σ6,H6,I6,kp6,q6⟩=>?_) λ_ _ z=>z.elim;refine tH (he _ _ _ _ _ s6 σ6 H6 _ I6 q6) (λy s7 ⟨yv,H7,I7,r7,e7,m',hm',w7⟩=>?_) λ_ _ z=>z.elim;refine tH (yS (X:=jN X N scope cl C fp s2 H2) _ s7 σ6 H7 (.ref p) [yv] (.ref p) [y] (λ_ H8=>H8=upd H7 p (.lst (ys++[yv]))) I7 rfl (.cons r7 .nil) ⟨_,ys,yv,rfl,rfl,e7,hz3,rfl⟩) (λ_ s8 ⟨_,H8,I8,_,q8⟩=>?_) λ_ _ z=>z.elim;subst q8;exact hK _ _ _ m' I8 kp6 hm' ⟨_,w7⟩
theorem uR{own:Nat}{idx:List Nat}{N:List Str}{elt target iter:Expr}{scope:Scope}{cl:List (Str×Addr)}{pos:Pos}{wi:TI}{g:TG}{te:TE}(hc:X.calm=true)
  (hk:scope.kind=.function) (hclos:closureFor scope X.env=pure cl) (hcell:∀x∈scope.names,x.2≠.cell) (hnames:∀x∈scope.names,x.2=.local->scope.names.lookup x.1=some .local)
  (hsub:∀x c,cl.lookup x=some c->X.env.cells.lookup x=some c) (hhas:∀x,((relabel scope X.env).names.lookup x=some .cell∨(relabel scope X.env).names.lookup x=some .free)->∃c,cl.lookup x=some c)
  (hlen:N.length=own+idx.length)
  (hidx:∀(k j:Nat) (x:Str),idx[k]? = some j->N[own+k]? = some x->X.N[j]? = some x/\X.env.kindOf x=some .cell/\(relabel scope X.env).names.lookup x=some .cell/\X.env.scope.names.lookup x=some .cell)
  (hi:PI X target iter wi) (hg:∀C fp s2 H2,PG (jN X N scope cl C fp s2 H2) target g) (he:∀C fp s2 H2,PE (jN X N scope cl C fp s2 H2) elt te)
  (hs:∀x,foldedSetIterable iter X.env x=pure x:=by intro _;rfl):PE X (.ListComp elt [⟨target,iter,[],0⟩] scope pos) (UV own idx wi g te):=by
 intro ae s σ H Q I h;rw[eval_ListComp];exact wX ⟨hk,hclos,hcell,hnames,hsub,hhas,hlen,hidx⟩ hc I hi h rfl hs (data:=.seq ([]:List Value).toArray) (nY _) rfl OY (B:=BF X target elt) (λV=>JB V) codeAny_compStart_list (cgoF hg he) XO
def hasB(names:List (Str×NameKind))(cl:List (Str×Addr)):Bool:=names.all λy=>match y.2 with
 | .cell=>(cl.lookup y.1).isSome
 | .free=>(cl.lookup y.1).isSome
 | _=>true
theorem yI{names:List (Str×NameKind)}{cl:List (Str×Addr)}(h:hasB names cl=true):∀x,(names.lookup x=some .cell∨names.lookup x=some .free)->∃c,cl.lookup x=some c:=by
 intro x hx;have all:=List.all_eq_true.mp h;rcases hx with hx | hx
 ·have:=all _ (PySem.mem_of_lookup hx);exact Option.isSome_iff_exists.mp this
 ·have:=all _ (PySem.mem_of_lookup hx);exact Option.isSome_iff_exists.mp this
theorem CD{X:Cx}{scope:Scope}{own j0:Nat}{N:List Str}{x0:Str}(h0:N[own]? = some x0)(h:X.N[j0]? = some x0/\X.env.kindOf x0=some .cell/\(relabel scope X.env).names.lookup x0=some .cell/\X.env.scope.names.lookup x0=some .cell) :
  ∀(k j:Nat) (x:Str),[j0][k]? = some j->N[own+k]? = some x->X.N[j]? = some x/\X.env.kindOf x=some .cell/\(relabel scope X.env).names.lookup x=some .cell/\X.env.scope.names.lookup x=some .cell:=by
 intro k j x e1 e2
 match k,e1 with
 | 0,e1=>
  cases e1;rw[nV,h0]at e2;cases e2;exact h
 | k+1,e1=>cases e1
end
theorem QX{J:It}{xs:List V}{σ0:L2.St}{g:TG}{te:TE}{Q:VK}{p:Addr}{H':Hp}(Pv:Nat->List V->Hp->Prop)(hz:xs.length<sizeLine)(h0:Pv 0 [] H')
  (hgo:∀i ys H2,Pv i ys H2->i<xs.length->J.go i H2/\∀x H3,J.yld i H2 x H3->H3=H2/\xs[i]? = some x) (hst:∀ys H2,Pv xs.length ys H2->J.stop xs.length H2) (hl:∀i ys H2,Pv i ys H2->H2 p=some (.lst ys))
  (hs:∀i m ys x H2,xs[i]? = some x->m=xs.length-i->ys.length=i->Pv i ys H2->g x σ0 H2 fun σ4 H4=>Keep σ0 σ4/\te σ4 H4 λy H5=>H5 p=some (.lst ys)/\∃m',m'<m/\CompW xs Pv (i+1) m' (ys++[y]) (upd H5 p (.lst (ys++[y]))))
  (hd:∀ys H2,ys.length=xs.length->Pv xs.length ys H2->Q (.ref p) H2):CompGoF σ0 J g te Q p H':=by
 unfold CompGoF;refine⟨CompW xs Pv,⟨_,rfl,nY _,rfl,h0⟩, ?_⟩;rintro i m ys H2 ⟨hm,hi,hy,hp⟩;refine⟨hl i ys H2 hp,by omega, ?_⟩;by_cases hlt:i<xs.length
 ·obtain⟨g1,g2⟩:=hgo i ys H2 hp hlt;refine .inr ⟨g1,λx H3 y=>?_⟩;obtain⟨e3,z⟩:=g2 x H3 y;subst e3;exact hs i m ys x _ z hm hy hp
 ·have ei:i=xs.length:=by omega
  subst ei;exact .inl ⟨hst ys H2 hp,hd ys H2 hy hp⟩
theorem NJ{K:tL}{a:Addr}{xs:List V}{σ0:L2.St}{g:TG}{te:TE}{Q:VK}{p:Addr}{H':Hp}(Pv:Nat->List V->Hp->Prop)(hz:xs.length<sizeLine)(h0:Pv 0 [] H')
  (hl:∀i ys H2,Pv i ys H2->SqL K H2 a xs/\H2 p=some (.lst ys))
  (hs:∀i m ys x H2,xs[i]? = some x->m=xs.length-i->ys.length=i->Pv i ys H2->g x σ0 H2 fun σ4 H4=>Keep σ0 σ4/\te σ4 H4 λy H5=>H5 p=some (.lst ys)/\∃m',m'<m/\CompW xs Pv (i+1) m' (ys++[y]) (upd H5 p (.lst (ys++[y]))))
  (hd:∀ys H2,ys.length=xs.length->Pv xs.length ys H2->Q (.ref p) H2):CompGoF σ0 (Itl K a) g te Q p H':=
 QX Pv hz h0 (λi ys H2 h hi=>⟨⟨xs,xs[i],(hl i ys H2 h).1,by simp [hi]⟩,λx H3 y=>⟨y.1,y.2 xs (hl i ys H2 h).1⟩⟩) (λys H2 h=>⟨xs,(hl _ ys H2 h).1,nX _⟩) (λi ys H2 h=>(hl i ys H2 h).2) hs hd
theorem TR{K:tL}{a:Addr}{xs:List V}{σ0:L2.St}{g:TG}{te:TE}{Q:VK}{p:Addr}{H':Hp}(Pv:Nat->List V->Hp->Prop)(hz:xs.length<sizeLine)(h0:Pv 0 [] H')
  (hl:∀i ys H2,Pv i ys H2->SqT K H2 a xs/\H2 p=some (.lst ys))
  (hs:∀i m ys x H2,xs[i]? = some x->m=xs.length-i->ys.length=i->Pv i ys H2->g x σ0 H2 fun σ4 H4=>Keep σ0 σ4/\te σ4 H4 λy H5=>H5 p=some (.lst ys)/\∃m',m'<m/\CompW xs Pv (i+1) m' (ys++[y]) (upd H5 p (.lst (ys++[y]))))
  (hd:∀ys H2,ys.length=xs.length->Pv xs.length ys H2->Q (.ref p) H2):CompGoF σ0 (Itt K a) g te Q p H':=
 QX Pv hz h0 (λi ys H2 h hi=>⟨⟨xs,xs[i],(hl i ys H2 h).1,by simp [hi]⟩,λx H3 y=>⟨y.1,y.2 xs (hl i ys H2 h).1⟩⟩) (λys H2 h=>⟨xs,(hl _ ys H2 h).1,nX _⟩) (λi ys H2 h=>(hl i ys H2 h).2) hs hd
section
theorem zV(ns:List Int):∀j,j<=ns.length->preSum (λi=>ns.getD i 0) j=(ns.take j).sum
 | 0,_=>by simp [preSum]
 | j+1,h=>by
  have hj:j<ns.length:=h;show preSum (λi=>ns.getD i 0) j+ns.getD j 0=_;rw[zV ns j #[0],List.take_succ_eq_append_getElem hj,List.sum_append,uY,gD hj];simp
theorem FL{M:Int} :∀(ns:List Int),(∀n∈ns,0<=n/\n<=M)->0<=ns.sum/\ns.sum<=ns.length*M
 | [],_=>by simp
 | n::r,h=>by
  have h1:=h n (by simp);have h2:=FL r λm hm=>h m (by simp [hm]);rw[mZ,mH,Int.natCast_succ,Int.add_mul];omega
def VP(K:tL):List V->Hp->VK->Prop:=λxs H Q=>∃(a:Addr) (ns:List Int),xs=[.ref a]/\SqT K H a (ns.map V.int)/\(∀n∈ns,0<=n/\n<=2^40)/\ns.length<=1000/\Q (.int ns.sum) H
theorem GJ(hc:X.calm=true):CallR X (.builtin "sum") (VP X.K):=by
 intro ae s σ H xs us Q I r h;obtain⟨a,ns,rfl,hq,hb,hn,q⟩:=h;obtain⟨u,rfl,ru⟩:=xU r;cases ru;obtain⟨its,rv,p,hz⟩:=I.tuple hq;have i1:IntsAre its ns:=vB rv;have hl:=vK i1;have ha:a<s.heap.objs.size:=by
  obtain⟨o,e,_⟩:=p;exact nJ e
 refine PySem.call_sum_walk (wpAny_pyIter_tuple (t:=a) (items:=its.toArray) p ?_);refine⟨s.heap.objs.size,_,_,_,_,_,λi=>ns.getD i 0,rfl,Walks.tuple (show X.A.in1.handled=none from I.ok.hd hc) s.heap.objs.size a (nO ha) its.toArray,⟨⟨_,gT _ rfl,rfl,rfl⟩,p.keeps λb o e=>gH _ e⟩, ?_, ?_, ?_, ?_⟩
 ·intro b hb;show b<(s.heap.push _).objs.size;rw[mV];simp only[mX,mF,or_false]at hb;rcases hb with rfl | rfl
  ·exact Nat.lt_succ_self _
  ·exact Nat.lt_succ_of_lt ha
 ·intro i v hv;have hv':its[i]? = some v:=by simpa using hv
  obtain⟨hi,e⟩:=gB.mp hv';obtain⟨n,t,e1,e2⟩:=vW i1 hi;exact⟨t,by dsimp only;rw[<-e,e2,uY,e1];rfl⟩
 ·intro j hj;have hj':j<ns.length:=by rw[<-hl];simpa using hj
  have b1:=hb ns[j] (List.getElem_mem hj');have b2:=FL (ns.take (j+1)) λn hn'=>hb n (gR hn');have e1:ns.getD j 0=ns[j]:=by rw[uY,gD hj'];rfl
  have l1:(ns.take (j+1)).length<=1000:=by rw[mD];omega
  dsimp only;rw[zV ns (j+1) hj',e1];unfold InLong;refine⟨⟨by omega,by omega⟩,⟨by omega, ?_⟩⟩;have:((ns.take (j+1)).length:Int)*2^40<=1000*2^40:=Int.mul_le_mul_of_nonneg_right #[0] #[1];omega
 ·intro h' tk t' k;have e:preSum (λi=>ns.getD i 0) its.toArray.size=ns.sum:=by
   rw[hV,hl,zV ns _ uU,mG]
  rw[e];refine⟨.int ns.sum,H,I.kept (t':=tk) (λb o q=>?_),⟨t',rfl⟩,q⟩;exact k b o (by simp;exact nO (nJ q)) (gH _ q)
end
end Lw
namespace LwE
open PySem PySem.W PySem.Calls PySem.Spec PyProof.Rows
structure XCls(K:Frag)(C fI:Addr)(bl:List Value)(newId:String):Prop where
 obj:∃nm q N bs hd sn sub ab col dd a0 a1 a2 a3 a5,K.lookup C=some (excClassObj nm q C N bs bl hd sn sub ab col dd a0 a1 a2 a3 a5 newId)
 isB:bl.contains (.type "ValueError")=true
 isBase:bl.contains (.type "BaseException")=true
 noAt:bl.contains (.type "AttributeError")=false
 noNm:bl.contains (.type "NameError")=false
 init:findIn K (.ref C) "__init__" = some (some (.ref fI))
 fn:typeIn K (.ref fI)=some (.type "function")
 kp:keepIn K (.ref C)=true
 ga:findIn K (.ref C) "__getattribute__" = some (some (.builtin "BaseException.__getattribute__"))
 gn:findIn K (.ref C) "__getattr__" = some none
 cl:findIn K (.ref C) "__class__" = some (some (.builtin "object.__class__"))
 obj':mroIn K C (.type "object")=some true
section
variable{prog:Program}{w:World}{A:Around}{E:Value->Shared->Prop}{R:Result->Shared->Prop}{hp:Heap}{g:Array GenState}{d:Drawn}{tk:Nat}{os:OsState}
variable{nm q:Str}{C N:Addr}{bs bl bb:List Value}{hd:Bool}{sn:List Str}{sub:List Value}{ab:Bool}{col:Option Bool}{dd:Option Addr}{a0 a1 a2 a3 a5:Option Value}{B newId initId:String}
theorem new_ok(F:ExcBaseFacts B newId initId bb)(zB:bl.contains (.type B)=true){us:List Value}{Q:Unit->Shared->Prop}(o:hp.get? C=some (excClassObj nm q C N bs bl hd sn sub ab col dd a0 a1 a2 a3 a5 newId))
  (k:Q () ⟨hp,g,d,tk,os⟩):wpAny #[4] A (checkBuiltinCall newId ⟨.ref C::us,[]⟩) Q E ⟨hp,g,d,tk,os⟩:=by
 have z:(Value.ref C::bl).contains (.type B)=true:=by rw[List.contains_cons,zB,Bool.or_true]
 have nostar:=F.noStar;simp only[checkBuiltinCall,F.newKind,F.newSplit,F.newRow]
 repeat (first | refine wpAny_loadPart_at o ?_ | (refine wpAny_isSubtype_exc o ?_;rw[z]) | refine wpAny_staticBase_exc o ?_ | refine wpAny_madeBy_exc o ?_ | simp only[bne_self_eq_false,Bool.false_eq_true,if_false] | wp_step)
 exact k
theorem new_run(F:ExcBaseFacts B newId initId bb)(zB:bl.contains (.type B)=true)(zA:bl.contains (.type "AttributeError")=false)(zN:bl.contains (.type "NameError")=false)
  {us:List Value} (o:hp.get? C=some (excClassObj nm q C N bs bl hd sn sub ab col dd a0 a1 a2 a3 a5 newId))
  (k:R (.ok (.ret (.ref (hp.objs.size+1)))) ⟨(hp.push { cls:=.type "tuple",data:=.seq us.toArray }).push
   { cls:=.ref C,data:=.fields #[.ref hp.objs.size,.none,.none,.none,.bool false,.none] },g,d,tk,os⟩) (fits:us.length<=sizeLine) :
  codeAny #[4] A (.builtin newId ⟨.ref C::us,[]⟩) R ⟨hp,g,d,tk,os⟩:=by
 have ends:=F.ends;have y1:(Value.ref C::bl).contains (.type B)=true:=by rw[List.contains_cons,zB,Bool.or_true]
 have y2:(Value.ref C::bl).contains (.type "AttributeError")=false:=by rw[List.contains_cons,zA];rfl
 have y3:(Value.ref C::bl).contains (.type "NameError")=false:=by rw[List.contains_cons,zN];rfl
 refine codeAny_builtinAt F.entry ?_;unfold Builtin.«BaseException.__new__»;refine PySem.wpAt_bind ?_;show PySem.wpAt _ _ _ (stack >>= _) _ _ _;refine PySem.wpAt_bind (PySem.wpAt_stack λp below=>PySem.wpAt_of_wpAny ?_)
 wp_walk
 refine PySem.wpAt_of_wpAny ?_;rw[F.owner]
 repeat (first | with_reducible refine wpAny_madeHere_exc F.canon o ?_ | with_reducible refine wpAny_loadPart_at o ?_ | (with_reducible refine wpAny_isSubtype_exc o ?_;first | rw[y1] | rw[y2] | rw[y3]) | wp_step)
 show R _ _;rw[mV];exact k
theorem XA(F:ExcBaseFacts B newId initId bb){K:Frag}{fI:Addr}(KI:K.In hp)(zB:bl.contains (.type B)=true)(zA:bl.contains (.type "AttributeError")=false)(zN:bl.contains (.type "NameError")=false)
  (zi:findIn K (.ref C) "__init__" = some (some (.ref fI))) (zf:typeIn K (.ref fI)=some (.type "function"))
  {us:List Value} {Q:Fin->Shared->Prop} (o:hp.get? C=some (excClassObj nm q C N bs bl hd sn sub ab col dd a0 a1 a2 a3 a5 newId))
  (k:∀h' e,hp.objs.size<=e->Heap.MadeExcOf hp h' e (.ref C) us->
   wpAny #[4] A (call (.ref fI) (.ref e::us)) (λr s'=>r=.none/\Q (.done (.ret (.ref e))) s') E ⟨h',g,d,tk,os⟩) (fits:us.length<=sizeLine) :
  wpAny #[4] A (Builtin.«type.__call__» ⟨.ref C::us,[]⟩) Q E ⟨hp,g,d,tk,os⟩:=by
 repeat (first | with_reducible refine wpAny_loadPart_at o ?_ | with_reducible refine wpAny_madeBy_exc o ?_ | wp_step)
 refine codeAny_call_builtin_code (Code.quiet_builtin _ F.quiet) (new_ok F zB o ?_);refine new_run F zB zA zN o ?_ fits;show wpAny _ _ _ _ _ _;have kp:∀b ob,hp.get? b=some ob->((hp.push { cls:=.type "tuple",data:=.seq us.toArray }).push { cls:=.ref C,data:=.fields #[.ref hp.objs.size,.none,.none,.none,.bool false,.none] }).get? b=some ob:=
  λb ob e=>gH _ (gH _ e)
 have o1:=kp _ _ o;have oe:((hp.push { cls:=.type "tuple",data:=.seq us.toArray }).push { cls:=.ref C,data:=.fields #[.ref hp.objs.size,.none,.none,.none,.bool false,.none] }).get? (hp.objs.size+1)
   = some { cls:=.ref C,data:=.fields #[.ref hp.objs.size,.none,.none,.none,.bool false,.none] } :=by heap_get
 have y:(Value.ref C::bl).contains (.ref C)=true:=by simp
 have K1:=KI.keeps kp;unfold isInstance
 repeat (first | with_reducible refine wpAny_loadPart_at oe ?_ | (with_reducible refine wpAny_isSubtype_exc o1 ?_;rw[y]) | wp_step)
 show wpAny _ _ (typeLookup (.ref C) _) _ _ _;refine(looks_findIn K1 zi).at ?_;refine wpAny_holding (tF ((bind_fn K1 (.ref (hp.objs.size+1)) zf).at ?_));refine tF (tH (k _ (hp.objs.size+1) (Nat.le_succ _) ⟨kp,Heap.get?_none_of_le (Nat.le_succ _),hp.objs.size,oe,Heap.get?_none_of_le uU, ?_⟩) (λr s' hr=>?_) λ_ _ x=>x)
 ·exact gH _ (Heap.get?_push_at rfl rfl)
 ·obtain⟨rfl,hQ⟩:=hr
  wp_walk
  exact hQ
theorem YL(F:ExcBaseFacts B newId initId bb){K:Frag}{fI:Addr}(KI:K.In hp)(zB:bl.contains (.type B)=true)(zA:bl.contains (.type "AttributeError")=false)(zN:bl.contains (.type "NameError")=false)
  (zi:findIn K (.ref C) "__init__" = some (some (.ref fI))) (zf:typeIn K (.ref fI)=some (.type "function"))
  {us:List Value} {Q:Value->Shared->Prop} (o:hp.get? C=some (excClassObj nm q C N bs bl hd sn sub ab col dd a0 a1 a2 a3 a5 newId))
  (k:∀h' e,hp.objs.size<=e->Heap.MadeExcOf hp h' e (.ref C) us->
   wpAny #[4] (A.under (.builtin "type.__call__" ⟨.ref C::us,[]⟩)) (call (.ref fI) (.ref e::us)) (λr s'=>r=.none/\Q (.ref e) s') E ⟨h',g,d,tk,os⟩) (fits:us.length<=sizeLine) :
  wpAny #[4] A (call (.ref C) us) Q E ⟨hp,g,d,tk,os⟩:=by
 have u1:=tc_lookup;have u2:=tc_bind (.ref C);have ty:(⟨hp,g,d,tk,os⟩:Shared).TypeIs (.ref C) "type":=⟨_,o,rfl⟩;refine wpAny_call (codeAny_of_tree ?_);show wpAny _ _ (callAny (.ref C) _) _ _ _
 repeat (any_goals (first | assumption | with_reducible refine wpAny_loadPart_at o ?_ | wp_step))
 refine⟨rfl, ?_⟩;refine codeAny_call_builtin_at (Code.quiet_builtin _ (by decide +kernel)) entry_typeCall (wpAny_check_type_call_sub o (XA F KI zB zA zN zi zf o (λh' e hl hm=>?_) fits));exact k h' e hl hm
end
end LwE
namespace LwE
open PySem PySem.W PySem.Spec PyProof.Rows L2
def yT(e C:Addr):HO:=.ext λh=>∃t,h.get? e=some { cls:=.ref C,data:=.fields #[.ref t,.none,.none,.none,.bool false,.none] }
theorem QN{P:Program}{w:World}{H:Hp}{h:Heap}{e C t:Addr}(q:h.get? e=some { cls:=.ref C,data:=.fields #[.ref t,.none,.none,.none,.bool false,.none] }):ObjOk P w H h e (yT e C):=
 ⟨⟨t,q⟩,⟨_,q⟩,λ_ _ ⟨t,z⟩ k=>⟨t,k _ z⟩⟩
theorem UH{H:Hp}{a:Addr}{o:HO}(e:H a=some o):upd H a o=H:=by
 funext b
 unfold upd;by_cases h:b=a
 ·rw[tK h,h,e]
 ·rw[tJ h]
def tInit(K:Frag)(t:TA):TE:=fun σ H Q=>t σ H λvs H1=>∃e C fI bl nid v,vs=[.ref e,v]/\H1 e=some (yT e C)/\XCls K C fI bl nid/\Q .non H1
theorem UG{M:Model}{A:Around}{E:Value->Shared->Prop}{hp:Heap}{g:Array GenState}{d:Drawn}{tk:Nat}{os:OsState}{K:Frag}{C fI e:Addr}{bl:List Value}{nid:String}{oe:Obj}{us:List Value}{Q:Unit->Shared->Prop}
  (KI:K.In hp) (c:XCls K C fI bl nid) (he:hp.get? e=some oe) (hc:oe.cls=.ref C) (q:Q () ⟨hp,g,d,tk,os⟩):wpAny M A (checkBuiltinCall "ValueError.__init__" ⟨.ref e::us,[]⟩) Q E ⟨hp,g,d,tk,os⟩:=by
 obtain⟨nm,qn,N,bs,hd,sn,sub,ab,col,dd,a0,a1,a2,a3,a5,lk⟩:=c.obj;have o:=KI _ _ lk;have y:(Value.ref C::bl).contains (.type "ValueError")=true:=by rw[List.contains_cons,c.isB,Bool.or_true]
 have nostar:=PySem.F.excBase_ValueError.noStar;simp only[checkBuiltinCall,PySem.F.excBase_ValueError.initKind,PySem.F.excBase_ValueError.initSplit,PySem.F.excBase_ValueError.initRow]
 repeat (first | (with_reducible refine wpAny_loadPart_at he ?_;rw[hc]) | with_reducible refine wpAny_loadPart_at o ?_ | (with_reducible refine wpAny_isSubtype_exc o ?_;rw[y]) | wp_step)
 refine wpAny_onRaise ?_;rw[show ∀(a b:String) (n:Nat),Bind.check ⟨.positional,"*","ValueError",.self,[⟨"args",.varPos,false⟩]⟩ a b n (List.map (λx=>x.fst) ({ pos:=.ref e::us } :Args).kw)=pure ()from λ_ _ _=>check_star_args _ _ _ _ _ _];exact tG q
theorem ZO:typeOf (.type "ValueError")=pure (.type "type"):=kitMeta_of (by decide +kernel)
section
variable{X:Cx}{e1 e2:Expr}{t:TA}{np apos pos:Pos}{pl:Sem Bool}
theorem VM{ae:List (Addr×Obj)}{σ:L2.St}{H:Hp}{s:Shared}{Q:VK}{e C fI:Addr}{bl:List Value}{nid:String}{u:Value}(I:Inv X ae σ H s)(he:H e=some (yT e C))(hs:XCls X.K C fI bl nid)(q:Q .non H) :
  wpAny #[2] X.A (call (.builtin "ValueError.__init__") [.ref e,u]) (EP X ae σ Q) X.xe s:=by
 obtain⟨⟨tt,hx⟩,_⟩:=(show ObjOk X.prog X.w H s.heap e (yT e C)from I.hok e _ he);have I':=I;obtain⟨hp,g,d,tk,os⟩:=s;refine wpAny_call (codeAny_call_builtin PySem.F.excBase_ValueError.init.plain PySem.F.excBase_ValueError.initEntry (UG I.kIn hs hx rfl ?_))
 wp_walk
 refine⟨.non,H, ?_,rfl,q⟩;have w:=I'.write (x:=e) (e:=e) (o:=yT e C) (t':=tk) (h':=(hp.push { cls:=.type "tuple",data:=.seq #[u] }).update e (Obj.mapFields (·.setIfInBounds 0 (.ref hp.objs.size)))) (by rw[he];trivial) (.inl rfl) (λb ob hb z=>by
  rw[Heap.get?_update_other _ _ (Ne.symm hb)];exact gH _ z) ⟨_,Heap.get?_update_self _ (gH _ hx) rfl⟩ (QN (t:=hp.objs.size) (Heap.get?_update_self _ (gH _ hx) rfl))
 rw[UH he]at w;exact w
theorem pe_baseInit(ha:PA X [e1,e2] t)(hg:Gl X "ValueError":=by rfl)(hm:X.mg "ValueError" = none)
  (hs:starEach [e1,e2] X.env=(false,eval e1 X.env)::starEach [e2] X.env:=by rfl) (hpl:(backTo pos (starEach [e2] X.env)).any (·.1)=false:=by rfl)
  (ht:eval (.Call (.Attribute (.Name "ValueError" np) "__init__" apos) [e1,e2] [] pos) X.env=(do
   let ov<-eval (.Name "ValueError" np) X.env
   standAt apos.atName
   let (f,first)<-holding [ov] (getMethod ov "__init__" pl)
   callWith pos f first (backTo pos (starEach [e1,e2] X.env)) (backToKw pos (keywordEach [] X.env))):=by rfl) :
  PE X (.Call (.Attribute (.Name "ValueError" np) "__init__" apos) [e1,e2] [] pos) (tInit X.K t):=by
 intro ae s σ H Q I h;refine methodCall_KW (pl:=pl) (uD I hg hm PyProof.Rows.Boot.«ValueError» ?_ #[1] #[1]) ht;obtain⟨m,fr⟩:=I.fr;refine method_type (K:=X.K) (v:=.builtin "ValueError.__init__") fr I.ok.mod.kin ZO (by decide +kernel) (by rfl) (by decide +kernel) ?_;have J:=I.tok (s.toks+1);have hA:=ha pos ae _ σ H _ J h;rw[hs]at hA ⊢;refine Calls.callWith_builtin (by show(false||(backTo pos (starEach [e2] X.env)).any (·.1))=false;rw[hpl]<;>rfl) (Calls.evalArgs_plain ?_);refine thn hA λus s2 ⟨vs,H2,I2,r2,e,C,fI,bl,nid,v,ev,he,hc,q⟩=>?_;subst ev;obtain⟨u1,u2,rfl,r3,r4⟩:=Vals.two r2;cases r3;exact VM I2 he hc q
end
def spInit(K:Frag):Sp:=λvs H Q _=>∃e C fI bl nid v,vs=[.ref e,v]/\H e=some (yT e C)/\XCls K C fI bl nid/\Q .non H
def CXF(P:Program)(w:World):CXT:=λouter H s E v s'=>∃(e C:Addr) (a0:Value) (H':Hp) (B:Heap),v=.ref e/\s.heap.objs.size<=e/\s'.os=s.os/\AllBare s'.gens/\Un (frs outer) [] H H' s.heap s'.heap/\HOk P w H' B/\H' e=none/\
 Heap.FlyingW B outer e (.ref C) a0 s'.heap/\(∀b o,s.heap.get? b=some o->b∉frs outer->(∃o',B.get? b=some o')/\(H b=none->B.get? b=some o))/\E (.ref C) none H'
section
variable{X:Cx}{ae:List (Addr×Obj)}{σ:L2.St}{H H':Hp}{s:Shared}{B h':Heap}
theorem UK(hx:X.ex=[])(I:Inv X ae σ H s)(st:B.StaysIn h')(up:s.heap.UpToSlots h')(cover:∀b o,X.s₀.heap.get? b=some o->b∉X.fs->(∃o',B.get? b=some o')/\(X.H₀ b=none->B.get? b=some o))
  (fr:∀b o,X.s₀.heap.get? b=some o->H b=none->H' b=none) (tu:∀b xs,H b=some (.tup xs)->H' b=some (.tup xs)) (fz:∀b o u,H b=some (.frz o u)->H' b=some (.frz o u)) (tb:∀b ps,H b=some (.tbl ps)->H' b=some (.tbl ps)) :
  Un X.fs [] X.H₀ H' X.s₀.heap h':=by
 have nex:∀b:Addr,b∉X.ex:=λb z=>by rw[hx]at z;exact absurd z (by simp)
 have nf:∀b o,b∈X.fs->s.heap.get? b=some o->∃sl,h'.get? b=some { o with slots:=sl } :=λb o hb e=>by
  obtain⟨_,o',e',hd⟩:=I.funs.mem hb;rw[e]at e';cases e';exact up b o e hd
 refine⟨λb o e n hb _=>st b o ((cover b o e hb).2 n),λb o e n hb _=>?_,λb o e n _=>fr b o e (I.base.free b o e n (nex b)),λb o e _=>?_,
  λb xs e=>tu b xs (I.base.tups b xs e),λb o u e=>fz b o u (I.base.frzs b o u e),λb ps e=>?_⟩
 ·obtain⟨sl,e1⟩:=I.base.slot b o e n hb (nex b);obtain⟨sl',e2⟩:=nf b _ hb e1;exact⟨sl',e2⟩
 ·by_cases hb:b∈X.fs
  ·obtain⟨o',e1⟩:=I.base.there b o e (nex b);obtain⟨sl',e2⟩:=nf b _ hb e1;exact⟨_,e2⟩
  ·obtain⟨⟨o',e1⟩,_⟩:=cover b o e hb;exact⟨o',st b o' e1⟩
 ·obtain⟨m,e1⟩:=I.base.tbls b ps e;exact⟨m,tb b _ e1⟩
variable{P:Program}{w:World}{K:Frag}{mg:Str->Option Value}{base:Heap}{N:List Str}{qual:Str}{scope:Scope}{f:Addr}{cd:Value}{A:Around}{outer:List Env}{s0:Shared}{H0:Hp}{E:XK}
theorem SU{e C:Addr}(I:Inv (xH (CXF P w) P w K mg base N qual scope f cd A outer s0 H0 E) ae σ (upd H e (yT e C)) s)(hn:H e=none)(he:s0.heap.objs.size<=e)(q:E (.ref C) none H) :
  (xH (CXF P w) P w K mg base N qual scope f cd A outer s0 H0 E).xe (.ref e) s:=by
 obtain⟨⟨t,hx⟩,_⟩:=(show ObjOk P w (upd H e (yT e C)) s.heap e (yT e C)from I.hok e _ jE);have hfr:∀b∈frs (envOfC qual scope s0.heap.objs.size f cd::outer),upd H e (yT e C) b=none:=I.stkFree;have nfr:∀b o,upd H e (yT e C) b=some o->b∉frs (envOfC qual scope s0.heap.objs.size f cd::outer):=λb o z hb=>by rw[hfr b hb]at z;cases z
 have hB:∀b o,s.heap.get? b=some o->b≠e->b∉frs (envOfC qual scope s0.heap.objs.size f cd::outer)->(hideAll s.heap (e::frs (envOfC qual scope s0.heap.objs.size f cd::outer))).get? b=some o:=λb o z h1 h2=>
  hideAll_get _ z λhm=>(mX.mp hm).elim h1 h2
 have cover:∀b o,s0.heap.get? b=some o->b∉frs outer->(∃o',(hideAll s.heap (e::frs (envOfC qual scope s0.heap.objs.size f cd::outer))).get? b=some o')/\(H0 b=none->(hideAll s.heap (e::frs (envOfC qual scope s0.heap.objs.size f cd::outer))).get? b=some o):=λb o z hb=>by
  have lt:=nJ z;have b1:b≠e:=nO (gX lt he);have b2:b∉frs (envOfC qual scope s0.heap.objs.size f cd::outer):=λhm=>(mX.mp hm).elim (λy=>mY s0.heap.objs.size (by have y':b=s0.heap.objs.size:=y;rw[y']at lt;exact lt)) hb;obtain⟨o',e1⟩:=I.base.there b o z (by show b∉[];simp);exact⟨⟨o',hB b o' e1 b1 b2⟩,λn=>hB b o (I.base.keep b o z n hb (by show b∉[];simp)) b1 b2⟩
 have ne_e:∀b (u:HO),upd H e (yT e C) b=some u->(∀φ,u≠.ext φ)->H b=some u:=λb u z hu=>by
  by_cases hb:b=e
  ·subst hb;rw[jE]at z;cases z;exact absurd rfl (hu _)
  ·rw[jG hb]at z;exact z
 have hok:HOk P w H (hideAll s.heap (e::frs (envOfC qual scope s0.heap.objs.size f cd::outer))):=λa o z=>by
  have ha:a≠e:=jQ z hn;have z':upd H e (yT e C) a=some o:=by rw[jG ha];exact z
  refine(I.hok a o z').stay (λb u hb e1=>?_) (λb e1=>ne_e b _ e1 (fun φ y=>by cases y)) λb xs e1=>ne_e b _ e1 (fun φ y=>by cases y);rcases hb with rfl | hb
  ·exact hB _ u e1 ha (nfr _ _ z')
  ·exact hB _ u e1 (jQ (ne_e b _ hb fun φ y=>by cases y) hn) (nfr _ _ hb)
 show wpAny (model P w) (A.deeper (envOfC qual scope s0.heap.objs.size f cd)) (leaving (envOfC qual scope s0.heap.objs.size f cd) (.ref e)) _ _ s;refine wpAny_leaving_firstW (base:=hideAll s.heap (e::frs (envOfC qual scope s0.heap.objs.size f cd::outer))) (L:=s0.heap.objs.size) (a0:=.ref t) I.ok.frames
  (funFrames_hide I.stack λenv hm b hb=>gN _ (List.mem_filterMap.mpr ⟨env,hm,hb⟩)) rfl hx (λb o z=>of_hideAll _ z) (hideAll_none _ (gZ ..)) rfl rfl rfl λh' ⟨k1,k2,k3,k4⟩=>?_
 refine⟨e,C,.ref t,H,_,rfl,he,I.os,I.bare, ?_,hok,hn,⟨k1,hideAll_none _ (gZ ..),k2.2.2,k3⟩,cover,q⟩;refine UK (X:=xH (CXF P w) P w K mg base N qual scope f cd A outer s0 H0 E) rfl I k1 k4 cover (λb o z n=>?_) (λb xs z=>ne_e b _ z (fun φ y=>by cases y)) (λb o u z=>ne_e b _ z (fun φ y=>by cases y)) (λb ps z=>ne_e b _ z (fun φ y=>by cases y));have lt:=nJ z;rw[jG (nO (gX lt he))]at n;exact n
theorem pass_fly:Passes (CXF P w) (xH (CXF P w) P w K mg base N qual scope f cd A outer s0 H0 E) E:=by
 rintro ae σ H s v s' I ⟨e,C,a0,H',B,rfl,he,ho,bare,un,hok,hn,fly,cover,q⟩;have I':Inv (xH (CXF P w) P w K mg base N qual scope f cd A outer s0 H0 E) ae σ H' s':=I.call' ho un (hok.kept fly.1) bare λ_ z=>nomatch z;have cov:∀b o,s0.heap.get? b=some o->b∉frs outer->(∃o',B.get? b=some o')/\(H0 b=none->B.get? b=some o):=λb o z hb=>by
  have lt:=nJ z;have nb:b∉frs (envOfC qual scope s0.heap.objs.size f cd::outer):=λhm=>(mX.mp hm).elim (λy=>mY s0.heap.objs.size (by have y':b=s0.heap.objs.size:=y;rw[y']at lt;exact lt)) hb;obtain⟨o',e1⟩:=I.base.there b o z (by show b∉[];simp);refine⟨(cover b o' e1 nb).1,λn=>?_⟩;exact(cover b o (I.base.keep b o z n hb (by show b∉[];simp)) nb).2 (I.base.free b o z n (by show b∉[];simp))
 show wpAny (model P w) (A.deeper (envOfC qual scope s0.heap.objs.size f cd)) (leaving (envOfC qual scope s0.heap.objs.size f cd) (.ref e)) _ _ s';refine wpAny_leaves_onW (L:=s0.heap.objs.size) I.ok.frames rfl fly λh' k1 k4=>?_;refine⟨e,C,a0,H',B,rfl,nN I.sz he,I'.os,I'.bare, ?_,hok,hn,k1,cov,q⟩;exact UK (X:=xH (CXF P w) P w K mg base N qual scope f cd A outer s0 H0 E) rfl I' k1.1 k4 cov (λ_ _ _ n=>n) (λ_ _ z=>z) (λ_ _ _ z=>z) (λ_ _ z=>z)
end
section
variable{ae:List (Addr×Obj)}{σ:L2.St}{H H':Hp}{s:Shared}
variable{P:Program}{w:World}{K:Frag}{mg:Str->Option Value}{base:Heap}{N:List Str}{qual:Str}{scope:Scope}{f:Addr}{cd:Value}{A:Around}{outer:List Env}{s0:Shared}{H0:Hp}{E:XK}
variable{C fI:Addr}{fdI:FuncData}{bl:List Value}{k:Nat}{x:Str}{np cpos pos:Pos}{e1:Expr}{te:TE}
theorem ZY{X:Cx}{Q:VK}{us:List Value}{v:V}(c:XCls X.K C fI bl "ValueError.__new__")(G:FnOk X.prog X.w X.K X.mg X.base CX0 k fI fdI ["self","text"] (spInit X.K))(hr:Room (k+1) X.A)(b:Binds X.K fdI ["self","text"] [])
  (I:Inv X ae σ H s) (r:Vals [v] us) (h:∀e,H e=none->X.s₀.heap.objs.size<=e->Q (.ref e) (upd H e (yT e C))):wpAny #[2] X.A (call (.ref C) us) (EP X ae σ Q) X.xe s:=by
 obtain⟨nm,qn,N',bs,hd,sn,sub,ab,col,dd,a0,a1,a2,a3,a5,lk⟩:=c.obj;have o:=I.kIn _ _ lk;have lim:us.length<=sizeLine:=by rw[<-r.length];show 1<=sizeLine;decide
 have I0:=I;have sz:=I.sz;obtain⟨hp,g,d,tk,os⟩:=s;refine YL PySem.F.excBase_ValueError I.kIn c.isB c.noAt c.noNm c.init c.fn o (λh' e hle hm=>?_) lim;obtain⟨t,ht,_,_⟩:=hm.there;have hn:H e=none:=I0.hok.fresh hle;have I2:Inv X ae σ (upd H e (yT e C)) ⟨h',g,d,tk,os⟩:=I0.laid (t':=tk) hm.keeps hle (QN ht);have r2:Vals [V.ref e,v] (.ref e::us):=.cons rfl r;refine wpAny_call (codeAny_mono (G.run _ X.stack _ (upd H e (yT e C)) ⟨.ref e::us,[]⟩ (.ref e::us) [.ref e,v] (λy H2=>y=.non/\H2=upd H e (yT e C)) E0 (hr.make C us []) (I2.env0.make C us []) ?_ r2
  ⟨e,C,fI,bl,_,v,rfl,jE,c,rfl,rfl⟩) λr s' hq=>?_)
 ·have z:=b ⟨h',g,d,tk,os⟩ (.ref e::us) I2.kIn (by rw[List.append_nil,<-r2.length];rfl);rw[List.append_nil]at z;exact z
 ·cases r with
  | error y=>exact False.elim hq
  | ok fl=>
   cases fl with
   | ret u=>
    obtain⟨y,H3,I3,ry,ey,e3⟩:=I2.after hq;subst ey e3;exact⟨ry,⟨.ref e,_,I3,rfl,h e hn (nN sz hle)⟩⟩
   | next=>exact False.elim hq
   | brk=>exact False.elim hq
   | cont=>exact False.elim hq
def tRaise(C:Addr)(E:XK)(te:TE):TS:=λ_ σ H=>qO te tNil σ H λvs H1=>∃v,vs=[v]/\E (.ref C) none H1
theorem ps_raise(c:XCls K C fI bl "ValueError.__new__")(G:FnOk P w K mg base CX0 k fI fdI ["self","text"] (spInit K))(b:Binds K fdI ["self","text"] [])
  (hr:Room (k+1) (xH (CXF P w) P w K mg base N qual scope f cd A outer s0 H0 E).A) (hg:Gl (xH (CXF P w) P w K mg base N qual scope f cd A outer s0 H0 E) x) (hm:mg x=some (.ref C))
  (he:PE (xH (CXF P w) P w K mg base N qual scope f cd A outer s0 H0 E) e1 te) (hdb:(x==("__debug__" :Str))=false:=by decide)
  (hs:starEach [e1] (xH (CXF P w) P w K mg base N qual scope f cd A outer s0 H0 E).env=(false,eval e1 (xH (CXF P w) P w K mg base N qual scope f cd A outer s0 H0 E).env)::starEach [] (xH (CXF P w) P w K mg base N qual scope f cd A outer s0 H0 E).env:=by rfl) :
  PS (xH (CXF P w) P w K mg base N qual scope f cd A outer s0 H0 E) (.Raise (some (.Call (.Name x np) [e1] [] cpos)) none pos) (tRaise C E te):=by
 intro ae s σ H D I h;obtain⟨nm,qn,N',bs,hd,sn,sub,ab,col,dd,a0,a1,a2,a3,a5,lk⟩:=id c.obj;rw[arm_exec_Raise];refine tF (wpAny_standAt (wpAny_raiseStmt_made_sub (C:=C) (nm:=nm) (q:=qn) (N:=N') (bs:=bs) (bm:=bl) (hdct:=hd) (sn:=sn) (sub:=sub) (ab:=ab) (col:=col) (dd:=dd) (k0:=a0) (k1:=a1) (k2:=a2) (k3:=a3) (k5:=a5) (newId:="ValueError.__new__") c.isBase (I.ok.hd rfl) ?_));have go:wpAny (model P w) (xH (CXF P w) P w K mg base N qual scope f cd A outer s0 H0 E).A (eval (.Call (.Name x np) [e1] [] cpos) (xH (CXF P w) P w K mg base N qual scope f cd A outer s0 H0 E).env)
   (EP (xH (CXF P w) P w K mg base N qual scope f cd A outer s0 H0 E) ae σ λv H2=>∃e H1,v=.ref e/\H1 e=none/\s0.heap.objs.size<=e/\H2=upd H1 e (yT e C)/\E (.ref C) none H1) (xH (CXF P w) P w K mg base N qual scope f cd A outer s0 H0 E).xe s:=by
  refine wpAny_Call_Name_kw (CI I hg hm ?_ hdb);refine PySem.W.callWith_K (h₀:=base) I.ok.mod.kin c.kp (thn ((jA he jC hs) cpos ae s σ H _ I h) λus s1 ⟨vs,H1,I1,r,v,ev,q⟩=>⟨I1.kIn, ?_⟩) hs rfl;subst ev;exact ZY (X:=xH (CXF P w) P w K mg base N qual scope f cd A outer s0 H0 E) c G hr b I1 r λe hn hle=>⟨e,H1,rfl,hn,hle,rfl,q⟩
 refine tF (tH go (λv s1 h1=>tF (wpAny_standAt (tG ?_))) λ_ _ z=>z);obtain⟨v',H2,I2,rv,e,H1,rfl,hn,hle,rfl,q⟩:=h1;cases rv;obtain⟨⟨t,hx⟩,_⟩:=(show ObjOk P w (upd H1 e (yT e C)) s1.heap e (yT e C)from I2.hok e _ jE);exact⟨e,t,rfl,I2.kIn _ _ lk,hx,SU I2 hn hle q⟩
end
def excH(e C:Addr):HO:=.ext λh=>∃o,h.get? e=some o/\o.cls=.ref C
theorem excH_ok{P:Program}{w:World}{H:Hp}{h:Heap}{e C:Addr}{o:Obj}(q:h.get? e=some o)(c:o.cls=.ref C):ObjOk P w H h e (excH e C):=
 ⟨⟨o,q,c⟩,⟨o,q⟩,λ_ _ ⟨o,z,c⟩ k=>⟨o,k _ z,c⟩⟩
abbrev hdl(X:Cx)(e:Addr):Cx:={ X with A:=X.A.mark (some (.ref e)),calm:=false,xe:=λ_ _=>False }
section
variable{X:Cx}{ae:List (Addr×Obj)}{σ:L2.St}{H H' H1:Hp}{s:Shared}
theorem YA{e:Addr}(I:Inv X ae σ H s):Inv (hdl X e) ae σ H s:=
 ⟨⟨I.ok.mod,I.ok.kind,I.ok.glob,I.ok.blt,I.ok.above,I.ok.inj,I.ok.has,I.ok.cab,λz=>Bool.noConfusion z,I.ok.frames,I.ok.stk,I.ok.exf,I.ok.bs,I.ok.bsz,I.ok.noex,I.ok.exfs,I.ok.funs,I.ok.frf⟩,
  I.os,I.bare,I.base,I.loc,I.cell,I.free,I.freeC,I.pin,I.hok,I.len⟩
theorem CK{e:Addr}(ok:X.Ok)(I:Inv (hdl X e) ae σ H s):Inv X ae σ H s:=⟨ok,I.os,I.bare,I.base,I.loc,I.cell,I.free,I.freeC,I.pin,I.hok,I.len⟩
def XP(X:Cx)(ae:List (Addr×Obj))(σ:L2.St)(E:XK)(v:Value)(s':Shared):Prop:=∃H1 s1,Inv X ae σ H1 s1/\CXF X.prog X.w X.stack H1 s1 E v s'
theorem un_up{fs:List Addr}{h0 h1 h2 B:Heap}(un:Un fs [] H1 H' h0 h1)(nf:∀b o,b∈fs->h1.get? b=some o->∀vs,o.data≠.fields vs)(st:B.StaysIn h2)(up:h1.UpToSlots h2)
  (cover:∀b o,h0.get? b=some o->b∉fs->(∃o',B.get? b=some o')/\(H1 b=none->B.get? b=some o)):Un fs [] H1 H' h0 h2:=by
 refine⟨λb o e n hb _=>st b o ((cover b o e hb).2 n),λb o e n hb hx=>?_,un.free,λb o e hx=>?_,un.tups,un.frzs,un.tbls⟩
 ·obtain⟨sl,e1⟩:=un.slot b o e n hb hx;obtain⟨sl',e2⟩:=up b _ e1 (nf b _ hb e1);exact⟨sl',e2⟩
 ·by_cases hb:b∈fs
  ·obtain⟨o',e1⟩:=un.there b o e hx;obtain⟨sl',e2⟩:=up b _ e1 (nf b _ hb e1);exact⟨_,e2⟩
  ·obtain⟨⟨o',e1⟩,_⟩:=cover b o e hb;exact⟨o',st b o' e1⟩
theorem track{a:Addr}{o:HO}(hx:X.ex=[])(I:Inv X ae σ H s)(hn:H a=none)(hle:X.s₀.heap.objs.size<=a)(hL:a≠X.env.locals)(hc:∀x c,X.env.cells.lookup x=some c->c≠a)(hp:∀p∈X.pn++ae,p.1≠a)
  (new:∀H,ObjOk X.prog X.w H s.heap a o):Inv X ae σ (upd H a o) s:=by
 have nb:∀b q,X.s₀.heap.get? b=some q->b≠a:=λb q z=>nO (gX (nJ z) hle);refine⟨I.ok,I.os,I.bare,⟨I.base.keep,I.base.slot,λb q e n hb=>?_,I.base.there,λb xs e=>?_,λb q u e=>?_,λb ps e=>?_⟩,I.loc,I.cell, ?_,λx c e=>?_,λp z=>?_,λb u e=>?_,I.len⟩
 ·rw[jG (nb b q e)];exact I.base.free b q e n hb
 ·have z:=I.base.tups b xs e;rw[jG (jQ z hn)];exact z
 ·have z:=I.base.frzs b q u e;rw[jG (jQ z hn)];exact z
 ·obtain⟨m,z⟩:=I.base.tbls b ps e;exact⟨m,by rw[jG (jQ z hn)];exact z⟩
 ·rw[jG (Ne.symm hL)];exact I.free
 ·rw[jG (hc x c e)];exact I.freeC x c e
 ·obtain⟨z1,z2,z3,z4,z5⟩:=I.pin p z;exact⟨z1,by rw[jG (hp p z)];exact z2,z3,z4,z5⟩
 ·by_cases hb:b=a
  ·subst hb;rw[jE]at e;cases e;exact new _
  ·rw[jG hb]at e;refine(I.hok b u e).stay (λ_ _ _ z=>z) (λc z=>?_) λc xs z=>?_
   ·rw[jG (jQ z hn)];exact z
   ·rw[jG (jQ z hn)];exact z
theorem wK{M:Model}{A:Around}{E:Value->Shared->Prop}{j:Nat}{n:Str}{pos:Pos}{Q:Unit->Shared->Prop}(I:Inv X ae σ H s)(hN:X.N.Nodup)(hj:X.N[j]? = some n)(hk:X.env.kindOf n=some .local)
  (h:∀s',Inv X ae (σ.set j none) H s'->Q () s'):wpAny M A (do bindName X.env n .none;unbindBehindTheSuite X.env n pos) Q E s:=by
 obtain⟨m,hn,hl⟩:=id I.loc;have cne:=I.cne;have hcls:(X.env.scope.kind==.class||(X.env.scope.kind==.module&&X.env.locals != X.env.globals))=false:=by rw[I.ok.kind];rfl
 have hjσ:j<σ.length:=by rw[I.len];exact(gB.mp hj).1
 refine wpAny_nameGoes_keeps hk hn hcls λh' v hn' hs=>?_;have ab:∀b q,X.s₀.heap.get? b=some q->b≠X.env.locals:=λb q e=>nO (gX (nJ e) I.ok.above);refine h _ ⟨I.ok,I.os,I.bare,⟨λb o e n hb hx=>(hs.2 b (ab b o e)).trans (I.base.keep b o e n hb hx),λb o e n hb hx=>?_,I.base.free,λb o e hx=>?_,I.base.tups,I.base.frzs,I.base.tbls⟩,⟨_,hn',λi y v' e1 e2 e3=>?_⟩,λy c e=>?_,I.free,I.freeC,λp hp=>?_,λb ob e=>?_,by simpa using I.len⟩
 ·obtain⟨sl,e1⟩:=I.base.slot b o e n hb hx;exact⟨sl,(hs.2 b (ab b o e)).trans e1⟩
 ·obtain⟨o',e1⟩:=I.base.there b o e hx;exact⟨o',(hs.2 b (ab b o e)).trans e1⟩
 ·by_cases hi:i=j
  ·subst hi;rw[List.getElem?_set_self hjσ]at e2;cases e2
  ·rw[List.getElem?_set_ne (Ne.symm hi)]at e2;obtain⟨u',r',q⟩:=hl i y v' e1 e2 e3;refine⟨u',r', ?_⟩;rcases q with⟨k,e⟩ | ⟨k,c,e,z⟩
   ·refine .inl ⟨k, ?_⟩;by_cases hy:y=n
    ·subst hy;exact absurd (EM hN e1 hj) hi
    ·simp [hy,e]
   ·exact .inr ⟨k,c,e,z.sameBut hs (cne y c e)⟩
 ·obtain⟨w',z⟩:=I.cell y c e;exact⟨w',z.sameBut hs (cne y c e)⟩
 ·obtain⟨e,n,ne,nf,d⟩:=I.pin p hp;exact⟨(hs.2 p.1 ne).trans e,n,ne,nf,d⟩
 ·refine(I.hok b ob e).stay (λc w' hc q=>(hs.2 c ?_).trans q) (λ_ q=>q) λ_ _ q=>q;rintro rfl;rcases hc with rfl | hc
  ·rw[I.free]at e;cases e
  ·rw[I.free]at hc;cases hc
end
theorem TH{M:Model}{A:Around}{E:Value->Shared->Prop}{hp:Heap}{g:Array GenState}{d:Drawn}{tk:Nat}{os:OsState}{K:Frag}{C D fC fD e:Addr}{bl bd:List Value}{n1 n2:String}{oe:Obj}{Q:Bool->Shared->Prop}
  (KI:K.In hp) (c:XCls K C fC bl n1) (cd:XCls K D fD bd n2) (up:bl.contains (.ref D)=true) (he:hp.get? e=some oe) (hc:oe.cls=.ref C) (q:Q true ⟨hp,g,d,tk,os⟩):wpAny M A (excMatches (.ref e) (.ref D)) Q E ⟨hp,g,d,tk,os⟩:=by
 obtain⟨nm,qn,N,bs,hd,sn,sub,ab,col,dd,a0,a1,a2,a3,a5,lk⟩:=c.obj;obtain⟨nm',qn',N',bs',hd',sn',sub',ab',col',dd',b0,b1,b2,b3,b5,lk'⟩:=cd.obj;have o:=KI _ _ lk;have o':=KI _ _ lk';have y1:(Value.ref D::bd).contains (.type "BaseException")=true:=by rw[List.contains_cons,cd.isBase,Bool.or_true]
 have y2:(Value.ref C::bl).contains (.ref D)=true:=by rw[List.contains_cons,up,Bool.or_true]
 have f:=tc_notTuple;unfold excMatches
 repeat (first | (with_reducible refine wpAny_loadPart_at he ?_;rw[hc]) | with_reducible refine wpAny_loadPart_at o' ?_ | (with_reducible refine wpAny_isSubtype_exc o' ?_;rw[y1]) | (with_reducible refine wpAny_isSubtype_exc o ?_;rw[y2]) | wp_step)
 exact q
section
variable{X:Cx}{k:Nat}{f:Addr}{fd:FuncData}{ps:List Str}{sp:Sp}{x:Str}{p pos:Pos}{e:Expr}{es:List Expr}{t:TA}
def PBx(X:Cx)(b:List Stmt)(t:XK->TS):Prop:=
 ∀(ae:List (Addr×Obj)) (s:Shared) (σ:L2.St) (H:Hp) (D:Ends) (E:XK),Inv X ae σ H s->t E D σ H->wpAny #[2] X.A (execs b X.env) (SP X ae D) (XP X ae σ E) s
def tCatch(K:Frag)(D j:Nat)(tb:XK->TS)(ts:TS):TS:=λEd σ H=>∃E:XK,tb E Ed σ H/\∀(c:Value) (H':Hp),E c none H'->∃(C fC:Addr) (bl:List Value) (n1:String),c=.ref C/\XCls K C fC bl n1/\bl.contains (.ref D)=true/\
 ∀e,H' e=none->ts { nx:=fun σ2 H2=>Ed.nx (σ2.set j none) H2,bk:=fun σ2 H2=>Ed.bk (σ2.set j none) H2,ct:=fun σ2 H2=>Ed.ct (σ2.set j none) H2,rt:=Ed.rt } (σ.set j (some (.ref e))) (upd H' e (excH e C))
theorem ps_catch{D fD:Addr}{bd:List Value}{n2:String}{body:List Stmt}{cl n:Str}{b0:Stmt}{suite:List Stmt}{np hpos tpos:Pos}{j:Nat}{tb:XK->TS}{ts:TS}(hex:X.ex=[])(hxe:X.xe=λ_ _=>False)
  (stk:X.stack=X.env::X.outer) (frm:X.env.frame=some X.env.locals) (cd:XCls X.K D fD bd n2) (hg:Gl X cl) (hm:X.mg cl=some (.ref D)) (hN:X.N.Nodup) (hj:X.N[j]? = some n) (hk:X.env.kindOf n=some .local)
  (hb:PBx X body tb) (hs:∀e,PSs (hdl X e) (b0::suite) ts) (hdb:(cl==("__debug__" :Str))=false:=by decide) :
  PS X (.Try body [.ExceptHandler (some (.Name cl np)) (some n) (b0::suite) hpos] [] [] tpos) (tCatch X.K D j tb ts):=by
 intro ae s σ H Ed I ⟨E,hbody,hcont⟩;refine wpAny_Try_except (tH (hb ae s σ H Ed E I hbody) (λfl s1 h1=>?_) λv s1 h1=>?_)
 ·cases fl with
  | next=>exact wpAny_execs_nil h1
  | brk=>exact h1
  | cont=>exact h1
  | ret u=>exact h1
 ·obtain⟨H1,sc,I1,e,C,a0,H',B,rfl,hle,ho,bare,un,hok,hn,fly,cover,q⟩:=h1;obtain⟨C',fC,bl,n1,ec,c,up,hts⟩:=hcont _ _ q;cases ec;have nf:∀b o,b∈frs X.stack->s1.heap.get? b=some o->∀vs,o.data≠.fields vs:=λb o hb z=>by
   obtain⟨_,o',z',hd⟩:=fly.2.2.1.mem hb;rw[z]at z';cases z';exact hd
  have inv:∀h2:Heap,B.StaysIn h2->s1.heap.UpToSlots h2->Inv X ae σ H' { s1 with heap:=h2 } :=λh2 st u2=>
   I1.call' (s':={ s1 with heap:=h2 }) ho (un_up un nf st u2 cover) (hok.kept st) bare λ_ z=>nomatch z
  have hfr:X.A.frames=some (X.env::X.outer):=by rw[<-stk];exact I.ok.frames
  rw[stk]at fly;refine wpAny_looks_onW hfr frm fly λh4 held4 up4=>?_;refine wpAny_landsW held4 λh5 fly5 up5=>?_;have I5:=inv h5 fly5.1 (up4.trans up5);obtain⟨oe,hoe,hoc⟩:=fly5.there;refine wpAny_handleBy_cons (codeAny_handlers_test (CI (X:=hdl X e) (YA I5) hg hm ?_ hdb)) (by intro z;cases z);have KI:=I5.kIn;obtain⟨hp1,g1,d1,tk1,os1⟩:=s1;refine TH KI c cd up hoe hoc ?_;refine codeAny_handlers_suite_as (lands_againW fly5 λh6 fly6 up6=>?_);have I6:=inv h6 fly6.1 ((up4.trans up5).trans up6);obtain⟨o6,h6e,h6c⟩:=fly6.there;have hsz:X.s₀.heap.objs.size<=e:=nN I1.sz hle;have hL:e≠X.env.locals:=λz=>mY e (gX (by rw[z];exact I1.lt) hle);have I7:Inv X ae σ (upd H' e (excH e C)) { (⟨hp1,g1,d1,tk1,os1⟩:Shared)with heap:=h6 } :=track hex I6 hn hsz hL (λx c z=>by obtain⟨_,o,ho,_⟩:=I1.cell x c z;exact nO (gX (nJ ho) hle)) (λp z=>nO (gX (nJ (I1.pin p z).1) hle)) λH=>excH_ok h6e h6c;refine yL I7 hN hj (Or.inl hk) (v:=.ref e) rfl (λs8 I8=>?_) (.inr hk);refine tH (hs e ae s8 _ _ _ (YA I8) (hts e hn)) (λfl s9 h9=>?_) λ_ _ z=>z.elim;cases fl with
  | next=>
   obtain⟨σ2,H2,I9,q9⟩:=h9;exact wK (CK I.ok I9) hN hj hk λs' I'=>⟨_,H2,I',q9⟩
  | brk=>
   obtain⟨σ2,H2,I9,q9⟩:=h9;exact wK (CK I.ok I9) hN hj hk λs' I'=>⟨_,H2,I',q9⟩
  | cont=>
   obtain⟨σ2,H2,I9,q9⟩:=h9;exact wK (CK I.ok I9) hN hj hk λs' I'=>⟨_,H2,I',q9⟩
  | ret u=>
   obtain⟨v,σ2,H2,I9,rv,q9⟩:=h9;exact wK (CK I.ok I9) hN hj hk λs' I'=>⟨v,_,H2,I',rv,q9⟩
end
open PySem.Calls
section
variable{prog:Program}{w:World}{A:Around}{E:Value->Shared->Prop}{hp:Heap}{g:Array GenState}{d:Drawn}{tk:Nat}{os:OsState}{K:Frag}{C fC a:Addr}{bl:List Value}{n1:String}{o:Obj}
theorem ga_slot:Slot "BaseException" "__getattribute__" "BaseException.__getattribute__":=
 .of (owner:="BaseException") (n:="__getattribute__") (by rw[typeLookup_type,builtinLookup_eq_fast];kernel_rfl) (by decide +kernel) (by decide +kernel) (by decide +kernel)
  (by first | exact .inl (by decide +kernel) | exact .inr (by decide +kernel)) (by rw[isSubtype_type];kernel_rfl)
theorem ga_kind:builtinKind "BaseException.__getattribute__" = some .slot:=by decide +kernel
theorem YE:splitId "BaseException.__getattribute__" = some ("BaseException","__getattribute__"):=by decide +kernel
theorem cls_get{R:Result->Shared->Prop}(KI:K.In hp)(c:XCls K C fC bl n1)(hx:hp.get? a=some o)(hc:o.cls=.ref C)(q:R (.ok (.ret (.ref C))) ⟨hp,g,d,tk,os⟩) :
  codeAny #[4] A (.call (.builtin "getset_descriptor.__get__") ⟨[.builtin "object.__class__",.ref a,.ref C],[]⟩) R ⟨hp,g,d,tk,os⟩:=by
 have t5:(⟨hp,g,d,tk,os⟩:Shared).TypeIs (.builtin "object.__class__") "getset_descriptor":=PySem.F.typeOf_object_class;have LS:Looks #[4] hp (isSubtype (.ref C) (.type (".".intercalate ("object.__class__".cutAt '.').dropLast))) true:=by
  rw[PySem.F.owner_object_class];exact looks_mroIn KI c.obj'
 refine codeAny_call_builtin PySem.F.slot_gs_get.plain PySem.F.entry_gs_get (PySem.F.slot_gs_get.check _ _ _ _ _ _ _ _ t5 (PySem.F.args_gs_get _ _ _) ?_)
 repeat (any_goals (first | assumption | (with_reducible refine wpAny_loadPart_at hx ?_;rw[hc]) | with_reducible refine LS.at ?_ | wp_step))
 refine⟨Code.quiet_builtin _ (by decide +kernel),codeAny_builtin PySem.F.entry_object_class ?_⟩
 repeat (any_goals (first | assumption | (with_reducible refine wpAny_loadPart_at hx ?_;rw[hc]) | wp_step))
theorem TV{u:Tok}{Q:Fin->Shared->Prop}(KI:K.In hp)(c:XCls K C fC bl n1)(hx:hp.get? a=some o)(hc:o.cls=.ref C)(q:Q (.done (.ret (.ref C))) ⟨hp,g,d,tk,os⟩) :
  wpAny #[4] A (Builtin.«object.__getattribute__» ⟨[.ref a,.str "__class__" u],[]⟩) Q E ⟨hp,g,d,tk,os⟩:=by
 have t5:(⟨hp,g,d,tk,os⟩:Shared).TypeIs (.builtin "object.__class__") "getset_descriptor":=PySem.F.typeOf_object_class;have t6:=PySem.F.typeOf_object_class;have t7:=PySem.F.slot_gs_get.lookup;have t8:=PySem.F.slot_gs_set.lookup;have L3:=looks_findIn (M:=model prog w) KI c.cl
 repeat (any_goals (first | assumption | (with_reducible refine wpAny_loadPart_at hx ?_;rw[hc]) | with_reducible refine L3.at ?_ | wp_step))
 refine cls_get KI c hx hc ?_
 repeat (any_goals (first | assumption | wp_step))
theorem YF{M:Model}{v:Value}{Q:Unit->Shared->Prop}(LI:Looks M hp (isInstance (.ref a) (.type "BaseException")) true)(q:Q () ⟨hp,g,d,tk,os⟩) :
  wpAny M A (checkBuiltinCall "BaseException.__getattribute__" ⟨[.ref a,v],[]⟩) Q E ⟨hp,g,d,tk,os⟩:=by
 have z3:=PySem.F.args_bexc_ga (.ref a) v;simp only[checkBuiltinCall,ga_kind,YE];refine tF (LI.at ?_)
 repeat (first | assumption | wp_step)
theorem ZH{u:Tok}{R:Result->Shared->Prop}(KI:K.In hp)(c:XCls K C fC bl n1)(hx:hp.get? a=some o)(hc:o.cls=.ref C)(q:R (.ok (.ret (.ref C))) ⟨hp,g,d,tk,os⟩) :
  codeAny #[4] A (.call (.builtin "BaseException.__getattribute__") ⟨[.ref a,.str "__class__" u],[]⟩) R ⟨hp,g,d,tk,os⟩:=by
 obtain⟨nm,qn,N,bs,hd,sn,sub,ab,col,dd,a0,a1,a2,a3,a5,lk'⟩:=c.obj;have oc:=KI _ _ lk';have y:(Value.ref C::bl).contains (.type "BaseException")=true:=by rw[List.contains_cons,c.isBase,Bool.or_true]
 have T0:Looks #[4] hp (typeOf (.ref a)) (.ref C):=by
  have z:Looks #[4] hp (typeOf (.ref a)) o.cls:=(Looks.ld hx).andThen .now;rw[hc]at z;exact z
 have LI:Looks #[4] hp (isInstance (.ref a) (.type "BaseException")) true:=by
  refine T0.andThen ?_;intro A' Q' E' s' k q';obtain⟨hp',g',d',tk',os'⟩:=s';refine wpAny_isSubtype_exc (k _ _ oc) ?_;rw[y];exact q'
 exact codeAny_call_builtin ga_slot.plain PySem.F.entry_bexc_ga (YF LI (TV KI c hx hc q))
theorem cls_by{u:Tok}{Q:Value->Shared->Prop}(KI:K.In hp)(c:XCls K C fC bl n1)(hx:hp.get? a=some o)(hc:o.cls=.ref C)(q:Q (.ref C) ⟨hp,g,d,tk,os⟩) :
  wpAny #[4] A (getAttrBy (.ref a) (.str "__class__" u) false) Q E ⟨hp,g,d,tk,os⟩:=by
 have t3:=ga_slot.bind (.ref a);have x0:(false&&onTheHeap (Value.builtin "BaseException.__getattribute__"))=false:=rfl;have x2:(Value.builtin "BaseException.__getattribute__"==Value.builtin "object.__getattribute__")=false:=by decide +kernel
 have x1:(onTheHeap (Value.ref C)&&Value.builtin "BaseException.__getattribute__"==Value.builtin "object.__getattribute__")=false:=by rw[x2];rfl
 have L1:=looks_findIn (M:=model prog w) KI c.ga;have L2:=looks_findIn (M:=model prog w) KI c.gn
 repeat (any_goals (first | assumption | (with_reducible refine wpAny_loadPart_at hx ?_;rw[hc]) | with_reducible refine L1.at ?_ | with_reducible refine L2.at ?_ | wp_step))
 refine ZH KI c hx hc ?_
 repeat (any_goals (first | assumption | wp_step))
theorem TJ{Q:Option Value->Shared->Prop}(KI:K.In hp)(c:XCls K C fC bl n1)(hx:hp.get? a=some o)(hc:o.cls=.ref C)(q:Q (some (.ref C)) ⟨hp,g,d,tk+1,os⟩) :
  wpAny #[4] A (getAttr? (.ref a) "__class__") Q E ⟨hp,g,d,tk,os⟩:=by
 unfold getAttr? getAttrBy?
 repeat (any_goals (first | assumption | with_reducible apply cls_by KI c hx hc | wp_step))
end
theorem KU{K:Frag}{C fC a:Addr}{bl:List Value}{n1:String}(c:XCls K C fC bl n1):KitX K (.ref a) (.ref C) (λh=>∃o,h.get? a=some o/\o.cls=.ref C) where
 ty:=λM h _ ⟨o,h1,h2⟩=>by
  have z:Looks M h (typeOf (.ref a)) o.cls:=(Looks.ld h1).andThen .now;rw[h2]at z;exact z
 it:=λM h KI _=>by
  obtain⟨nm,qn,N,bs,hd,sn,sub,ab,col,dd,a0,a1,a2,a3,a5,lk'⟩:=c.obj;intro A' Q' E' s' k q;unfold isType loadHead;exact tF (wpAny_loadPart (k _ _ (KI _ _ lk')) (tG q))
 ne:=λh tp dd its n sl KI htp=>by
  obtain⟨nm,qn,N,bs,hd,sn,sub,ab,col,dd,a0,a1,a2,a3,a5,lk'⟩:=c.obj;refine Bool.eq_false_iff.mpr λq=>?_;have z:C=tp:=Value.ref.inj (beq_iff_eq.mp q);subst z;have y:=congrArg Obj.data (Option.some.inj ((KI _ _ lk').symm.trans htp));cases y
 ca:=fun {prog w A E Q s} KI p k=>by
  obtain⟨o,h1,h2⟩:=p;obtain⟨hp,g,d,tk,os⟩:=s;exact TJ KI c h1 h2 k
def VCls:V->Value->Prop
 | .ref D,v=>v=.ref D
 | .ty T,v=>v=.type T
 | _,_=>False
theorem VCls.rel{x:V}{v u:Value}(h:VCls x v)(r:RelV x u):u=v:=by
 cases x with
 | ref D=>exact(show u=.ref D from r).trans (show v=.ref D from h).symm
 | ty T=>exact(show u=.type T from r).trans (show v=.type T from h).symm
 | _=>exact h.elim
theorem CV:∀{xs:List V} {us vs:List Value},Paired VCls xs vs->Vals xs us->us=vs
 | _,_,_,.nil,.nil=>rfl
 | _,_,_,.cons c t,.cons r s=>by rw[c.rel r,CV t s]
section
variable{X:Cx}
def rIsX(K:Frag):List V->Hp->VK->Prop:=λxs H Q=>∃(a C fC:Addr) (bl:List Value) (n1:String) (y:V) (c:Value) (b:Bool),xs=[.ref a,y]/\H a=some (excH a C)/\XCls K C fC bl n1/\VCls y c/\kitOne K (.ref C) c=some b/\Q (.bl b) H
theorem call_isX:CallR X (.builtin "isinstance") (rIsX X.K):=by
 intro ae s σ H xs us Q I r h;obtain⟨a,C,fC,bl,n1,y,c,b,rfl,ha,cc,hy,hb,q⟩:=h;obtain⟨u1,u2,rfl,r1,r2⟩:=NQ r;cases r1;rw[hy.rel r2];obtain⟨p,_⟩:=(show ObjOk X.prog X.w H s.heap a (excH a C)from I.hok a _ ha);exact kia_one (KU cc) I.kIn p hb (λz=>nomatch z) λtk=>⟨.bl b,H,I.tok tk,rfl,q⟩
def rIsXT(K:Frag):List V->Hp->VK->Prop:=λxs H Q=>∃(a C fC tp:Addr) (bl:List Value) (n1:String) (ys:List V) (cs:List Value) (b:Bool),xs=[.ref a,.ref tp]/\H a=some (excH a C)/\XCls K C fC bl n1/\H tp=some (.tup ys)/\Paired VCls ys cs/\kitAny K (.ref C) cs=some b/\Q (.bl b) H
theorem UB:CallR X (.builtin "isinstance") (rIsXT X.K):=by
 intro ae s σ H xs us Q I r h;obtain⟨a,C,fC,tp,bl,n1,ys,cs,b,rfl,ha,cc,ht,hy,hb,q⟩:=h;obtain⟨u1,u2,rfl,r1,r2⟩:=NQ r;cases r1;cases r2;obtain⟨p,_⟩:=(show ObjOk X.prog X.w H s.heap a (excH a C)from I.hok a _ ha);obtain⟨_,its,rv,it,_⟩:=(show ObjOk X.prog X.w H s.heap tp (.tup ys)from I.hok tp _ ht);have e:=CV hy rv;subst e;obtain⟨o,h1,h2,n,h3⟩:=it;obtain⟨oc,od,odt,osl⟩:=o;cases h2;cases h3;exact kia_tup (KU cc) I.kIn p h1 hb (λz=>nomatch z) λtk=>⟨.bl b,H,I.tok tk,rfl,q⟩
end
end LwE
namespace Lw
open PySem PySem.Spec PyProof.Rows L2
theorem FnOk.both{P:Program}{w:World}{K:tL}{mg:Str->Option Value}{base:Heap}{CX:CXT}{j k n:Nat}{f:Addr}{fd:FuncData}{ps:List Str}{sp0 sp1:Sp}(F0:FnOk P w K mg base CX0 j f fd ps sp0)(F1:FnOk P w K mg base CX k f fd ps sp1)(h0:j<=n)(h1:k<=n) :
  FnOk P w K mg base CX n f fd ps (λvs H Q E=>sp0 vs H Q E∨sp1 vs H Q E):=
 ⟨λvs H Q E h=>h.elim (F0.len vs H Q E) (F1.len vs H Q E),λA outer s H args us vs Q E hr he hb hv h=>by
  rcases h with h | h
  ·refine codeAny_mono (F0.run A outer s H args us vs Q E (hr.mono h0) he hb hv h) λr s' hq=>?_;cases r with
   | error e=>exact absurd hq (λz=>nomatch z)
   | ok fl=>cases fl with
    | ret u=>exact hq
    | next=>exact hq
    | brk=>exact hq
    | cont=>exact hq
  ·exact F1.run A outer s H args us vs Q E (hr.mono h1) he hb hv h⟩
theorem GZ(o i:Expr)(q:Pos)(args:List Expr)(keywords:List Keyword)(pos:Pos)(env:Env):eval (.Call (.Subscript o i q) args keywords pos) env=(do
  callWith pos (<-eval (.Subscript o i q) env) [] (backTo pos (starEach args env)) (backToKw pos (keywordEach keywords env))):=rfl
def LY(f1 f2:Addr)(sp1 sp2:Sp)(E:XK)(tf:TE)(t:TA):TE:=fun σ H Q=>tf σ H λv H1=>(v=.ref f1/\t σ H1 λvs H2=>sp1 vs H2 Q E)∨(v=.ref f2/\t σ H1 λvs H2=>sp2 vs H2 Q E)
section
variable{X:Cx}{CX1 CX2:CXT}{k1 k2:Nat}{f1 f2:Addr}{fd1 fd2:FuncData}{ps1 ps2:List Str}{sp1 sp2:Sp}{E:XK}{q pos:Pos}{o i e:Expr}{es:List Expr}{tf:TE}{t:TA}
theorem VZ(hf:PE X (.Subscript o i q) tf)(F1:FnOk X.prog X.w X.K X.mg X.base CX1 k1 f1 fd1 ps1 sp1)(F2:FnOk X.prog X.w X.K X.mg X.base CX2 k2 f2 fd2 ps2 sp2)(hr1:Room k1 X.A)(hr2:Room k2 X.A)(hk1:PySem.W.keepIn X.K (.ref f1)=true)(hk2:PySem.W.keepIn X.K (.ref f2)=true)
  (hb1:Binds X.K fd1 ps1 []) (hb2:Binds X.K fd2 ps2 []) (hx1:Passes CX1 X E) (hx2:Passes CX2 X E)
  (ha:PA X (e::es) t) (he:starEach (e::es) X.env=(false,eval e X.env)::starEach es X.env:=by rfl) (hpl:(backTo pos (starEach es X.env)).any (·.1)=false:=by rfl) :
  PE X (.Call (.Subscript o i q) (e::es) [] pos) (LY f1 f2 sp1 sp2 E tf t):=by
 intro ae s σ H Q I h;rw[GZ];refine tF (thn (hf ae s σ H _ I h) λu s1 ⟨v,H1,I1,r,q1⟩=>?_);rcases q1 with⟨rfl,q1⟩ | ⟨rfl,q1⟩
 ·cases r;refine PySem.W.callWith_K (h₀:=X.base) I1.ok.mod.kin hk1 (thn (ha pos ae s1 σ H1 _ I1 q1) λus s2 ⟨vs,H2,I2,r2,q2⟩=>⟨I2.kIn, ?_⟩) he hpl;exact MH F1 hr1 hb1 .nil hx1 I2 r2 (by rw[List.append_nil];exact q2)
 ·cases r;refine PySem.W.callWith_K (h₀:=X.base) I1.ok.mod.kin hk2 (thn (ha pos ae s1 σ H1 _ I1 q1) λus s2 ⟨vs,H2,I2,r2,q2⟩=>⟨I2.kIn, ?_⟩) he hpl;exact MH F2 hr2 hb2 .nil hx2 I2 r2 (by rw[List.append_nil];exact q2)
end
end Lw
namespace LwT
open PySem PySem.Spec PyProof.Rows L2 Lw
def kY(f:Int->Int->Bool)(g:Nat->Nat->Bool):List Int->List Int->Bool
 | x::xs,y::ys=>if x=y then kY f g xs ys else f x y
 | xs,ys=>g xs.length ys.length
abbrev FW:List Int->List Int->Bool:=kY (λi j=>decide (i<j)) (λm n=>decide (m<n))
abbrev lexNe:List Int->List Int->Bool:=kY (λ_ _=>true) (λm n=>m != n)
abbrev lexGe:List Int->List Int->Bool:=kY (λi j=>decide (j<=i)) (λm n=>decide (n<=m))
theorem xC{f g}{ys:List Int} :kY f g [] ys=g 0 ys.length:=by cases ys<;>rfl
theorem vV{f g}{xs:List Int} :kY f g xs []=g xs.length 0:=by cases xs<;>rfl
theorem XM:∀(xs ys:List Int),lexGe xs ys = !FW xs ys
 | [],ys=>by
  show kY _ _ _ _ = !kY _ _ _ _;rw[xC,xC];cases ys<;>simp
 | x::xs,[]=>by
  show kY _ _ _ _ = !kY _ _ _ _;rw[vV,vV];simp
 | x::xs,y::ys=>by
  show(if x=y then lexGe xs ys else _) = !(if x=y then FW xs ys else _);by_cases h:x=y
  ·rw[tK h,tK h];exact XM xs ys
  ·rw[tJ h,tJ h];by_cases h2:x<y
   ·simp [h2,show ¬y<=x by omega]
   ·simp [h2,show y<=x by omega]
theorem lexNe_eq:∀(xs ys:List Int),kY (λ_ _=>true) (λm n=>m != n) xs ys = !decide (xs=ys)
 | [],ys=>by
  rw[xC];cases ys<;>simp
 | x::xs,[]=>by
  rw[vV];simp
 | x::xs,y::ys=>by
  show(if x=y then kY _ _ xs ys else true)=_;by_cases h:x=y
  ·rw[tK h,lexNe_eq xs ys];simp [h]
  ·rw[tJ h];simp [h]
theorem PV{f:Int->Int->Bool}{g:Nat->Nat->Bool}{xs ys:List Int}{i:Nat}(h:min xs.length ys.length<=i):kY f g (xs.drop i) (ys.drop i)=g (xs.length-i) (ys.length-i):=by
 by_cases hx:xs.length<=i
 ·rw[List.drop_of_length_le hx,xC,List.length_drop];rw[show xs.length-i=0 by omega]
 ·have hy:ys.length<=i:=by omega
  rw[List.drop_of_length_le hy,vV,List.length_drop];rw[show ys.length-i=0 by omega]
theorem wV{vs:List Value}{ns:List Int}(r:IntsAre vs ns){i:Nat}(h:i<vs.length):∃n t,vs[i]=.int n t/\ns.drop i=n::ns.drop (i+1):=by
 obtain⟨n,t,e1,e2⟩:=vW r h;refine⟨n,t,e2, ?_⟩;obtain⟨hi,e⟩:=gB.mp e1;rw[List.drop_eq_getElem_cons hi,e]
section
variable{l b:Addr}{as bs:List Value}{xs ys:List Int}{n n2:Nat}{dd dd2:Option Addr}{sl sl2:Array (Option Value)}
theorem tuple_lt(ra:IntsAre as xs)(rb:IntsAre bs ys) :
  Meets (Builtin.«tuple.__lt__» ⟨[.ref l,.ref b],[]⟩)
   (λ_ R s=>s.heap.get? l=some { cls:=.type "tuple",dict:=dd,data:=.seq as.toArray n,slots:=sl }/\s.heap.get? b=some { cls:=.type "tuple",dict:=dd2,data:=.seq bs.toArray n2,slots:=sl2 }/\
    R (.ok (.ret (.bool (FW xs ys)))) s):=
 .of_wp λprog w A R s h=>by
  obtain⟨hp,g,d,tk,os⟩:=s;obtain⟨hl,hb,h⟩:=h;have f2:=AutoSeq1.sub_tuple_tuple;have la:=vK ra;have lb:=vK rb;have hZ:(as.zip bs).length=min as.length bs.length:=by simp
  wp_walk using wpAny_loadPart' hl,wpAny_loadPart' hb,wpAny_forIn_list _ (λrest b s'=>b.1=none/\s'=⟨hp,g,d,tk,os⟩/\∃i,i<=(as.zip bs).length/\rest=(as.zip bs).drop i/\
   R (.ok (.ret (.bool (FW (xs.drop i) (ys.drop i))))) ⟨hp,g,d,tk,os⟩) _
  case turn=>
   rintro⟨y,x⟩ rest b s' ⟨hb',rfl,i,hi,hz,hR⟩;have hlt:i<(as.zip bs).length:=by
    rcases Nat.lt_or_ge i (as.zip bs).length with h' | h'
    ·exact h'
    ·rw[List.drop_of_length_le h']at hz;cases hz
   have h1:i<as.length:=by omega
   have h2:i<bs.length:=by omega
   rw[List.drop_eq_getElem_cons hlt]at hz;injection hz with hyx hrest
   obtain⟨p,t1,e1,d1⟩:=wV ra h1;obtain⟨q,t2,e2,d2⟩:=wV rb h2;have hy:y=.int p t1:=by have:=congrArg Prod.fst hyx;rw[<-e1];simpa using this
   have hx:x=.int q t2:=by have:=congrArg Prod.snd hyx;rw[<-e2];simpa using this
   subst hy hx;rw[d1,d2]at hR;have hR:R (.ok (.ret (.bool (if p=q then FW (xs.drop (i+1)) (ys.drop (i+1))else decide (p<q))))) ⟨hp,g,d,tk,os⟩:=hR;refine tF (SeqAt.EqAt.int_int _ _ _ _ prog w _ _ ?_);by_cases hpq:p=q
   ·rw[tK hpq]at hR;have e:(p==q)=true:=by simp [hpq]
    rw[e]
    wp_walk
    exact⟨rfl,rfl,i+1,hlt,hrest,hR⟩
   ·rw[tJ hpq]at hR;have e:(p==q)=false:=by simp [hpq]
    rw[e];simp only[Bool.not_false,if_true];refine tF (wpAny_rule ?_);refine tF (lt_int (a:=p) (b:=q) ?_)
    wp_walk
    exact⟨_,rfl,hR⟩
  case fin=>
   rintro⟨b1,b2⟩ s' ⟨hb',rfl,i,hi,hz,hR⟩;simp only at hb';subst hb';have hge:min as.length bs.length<=i:=by
    rcases Nat.lt_or_ge i (as.zip bs).length with h' | h'
    ·rw[List.drop_eq_getElem_cons h']at hz;cases hz
    ·exact hZ▸h'
   have e:FW (xs.drop i) (ys.drop i)=decide (xs.length-i<ys.length-i):=PV (by rw[la,lb]at hge;exact hge);have e2:decide (xs.length-i<ys.length-i)=decide (as.length<bs.length):=by
    rw[hZ]at hi;by_cases q:as.length<bs.length
    ·rw[mP q,mP #[0]]
    ·rw[mN q,mN #[0]]
   rw[e,e2]at hR
   wp_walk
   exact⟨_,rfl,by simpa [Builtin.Tuple.tupleCompareSizes]using hR⟩
  case h=>
   exact⟨rfl,rfl,0,nY _,rfl,by simpa using h⟩
theorem UO(ra:IntsAre as xs)(rb:IntsAre bs ys) :
  Meets (Builtin.«tuple.__ne__» ⟨[.ref l,.ref b],[]⟩)
   (λ_ R s=>s.heap.get? l=some { cls:=.type "tuple",dict:=dd,data:=.seq as.toArray n,slots:=sl }/\s.heap.get? b=some { cls:=.type "tuple",dict:=dd2,data:=.seq bs.toArray n2,slots:=sl2 }/\
    R (.ok (.ret (.bool (lexNe xs ys)))) s):=
 .of_wp λprog w A R s h=>by
  obtain⟨hp,g,d,tk,os⟩:=s;obtain⟨hl,hb,h⟩:=h;have f2:=AutoSeq1.sub_tuple_tuple;have la:=vK ra;have lb:=vK rb;have hZ:(as.zip bs).length=min as.length bs.length:=by simp
  wp_walk using wpAny_loadPart' hl,wpAny_loadPart' hb,wpAny_forIn_list _ (λrest b s'=>b.1=none/\s'=⟨hp,g,d,tk,os⟩/\∃i,i<=(as.zip bs).length/\rest=(as.zip bs).drop i/\
   R (.ok (.ret (.bool (lexNe (xs.drop i) (ys.drop i))))) ⟨hp,g,d,tk,os⟩) _
  case turn=>
   rintro⟨y,x⟩ rest b s' ⟨hb',rfl,i,hi,hz,hR⟩;have hlt:i<(as.zip bs).length:=by
    rcases Nat.lt_or_ge i (as.zip bs).length with h' | h'
    ·exact h'
    ·rw[List.drop_of_length_le h']at hz;cases hz
   have h1:i<as.length:=by omega
   have h2:i<bs.length:=by omega
   rw[List.drop_eq_getElem_cons hlt]at hz;injection hz with hyx hrest
   obtain⟨p,t1,e1,d1⟩:=wV ra h1;obtain⟨q,t2,e2,d2⟩:=wV rb h2;have hy:y=.int p t1:=by have:=congrArg Prod.fst hyx;rw[<-e1];simpa using this
   have hx:x=.int q t2:=by have:=congrArg Prod.snd hyx;rw[<-e2];simpa using this
   subst hy hx;rw[d1,d2]at hR;have hR:R (.ok (.ret (.bool (if p=q then lexNe (xs.drop (i+1)) (ys.drop (i+1))else true)))) ⟨hp,g,d,tk,os⟩:=hR;refine tF (SeqAt.EqAt.int_int _ _ _ _ prog w _ _ ?_);by_cases hpq:p=q
   ·rw[tK hpq]at hR;have e:(p==q)=true:=by simp [hpq]
    rw[e]
    wp_walk
    exact⟨rfl,rfl,i+1,hlt,hrest,hR⟩
   ·rw[tJ hpq]at hR;have e:(p==q)=false:=by simp [hpq]
    rw[e]
    wp_walk
    exact⟨_,rfl,hR⟩
  case fin=>
   rintro⟨b1,b2⟩ s' ⟨hb',rfl,i,hi,hz,hR⟩;simp only at hb';subst hb';have hge:min as.length bs.length<=i:=by
    rcases Nat.lt_or_ge i (as.zip bs).length with h' | h'
    ·rw[List.drop_eq_getElem_cons h']at hz;cases hz
    ·exact hZ▸h'
   have e:lexNe (xs.drop i) (ys.drop i)=(xs.length-i != ys.length-i):=PV (by rw[la,lb]at hge;exact hge);have e2:(xs.length-i != ys.length-i)=(as.length != bs.length):=by
    rw[hZ]at hi;by_cases q:as.length=bs.length
    ·have q2:xs.length-i=ys.length-i:=by omega
     rw[bne,bne,q2,q,beq_self_eq_true,beq_self_eq_true]
    ·have q2:¬xs.length-i=ys.length-i:=by omega
     rw[bne,bne,beq_eq_false_iff_ne.mpr q2,beq_eq_false_iff_ne.mpr q]
   rw[e,e2]at hR
   wp_walk
   exact⟨_,rfl,by simpa [Builtin.Tuple.tupleCompareSizes]using hR⟩
  case h=>
   exact⟨rfl,rfl,0,nY _,rfl,by simpa using h⟩
end
section
variable{X:Cx}
def rOrdT(K:tL)(f:List Int->List Int->Bool):R2:=λx y H Q=>∃(a b:Addr) (ns ms:List Int),x=.ref a/\y=.ref b/\SqT K H a (ns.map V.int)/\SqT K H b (ms.map V.int)/\Q (.bl (f ns ms)) H
theorem op_neT(hu:X.A.units<cLine):OpR X (compareOp .NotEq) (rOrdT X.K lexNe):=by
 intro ae s σ H x y v u Q I rx ry h;obtain⟨a,b,ns,ms,rfl,rfl,ha,hb,q⟩:=h;cases rx;cases ry;obtain⟨its,r1,p1,_⟩:=I.tuple ha;obtain⟨its2,r2,p2,_⟩:=I.tuple hb;obtain⟨⟨cls,dd,data,sl⟩,ho,hc,n,hd⟩:=id p1;obtain⟨⟨cls2,dd2,data2,sl2⟩,ho2,hc2,n2,hd2⟩:=id p2;simp only at hc hd hc2 hd2;subst hc hd hc2 hd2;exact richCompare_meets_room (op:=.NotEq) ⟨_,ho,rfl⟩ ⟨_,ho2,rfl⟩ PySem.F.slot_tuple_ne PySem.F.entry_tuple_ne (PySem.F.args_tuple_ne_2 _ _) (UO (vB r1) (vB r2)) ⟨ho,ho2,show Value.bool _≠Value.notImplemented/\_ from⟨(λz=>nomatch z),⟨.bl _,H,I,rfl,q⟩⟩⟩ hu
end
end LwT
namespace L2
open PySem PySem.Spec PyProof.Rows
section
variable{κ:Type} [DecidableEq κ]
def qR(ah:List (κ×V))(k:κ):Option V:=(ah.find? λkv=>decide (kv.1=k)).map (·.2)
def qU(ah:List (κ×V))(k:κ)(v:V):List (κ×V):=
 if (ah.any λkv=>decide (kv.1=k))=true then ah.map (λkv=>if kv.1=k then(kv.1,v)else kv)else ah++[(k,v)]
def BH(ah:List (κ×V))(k:κ):List (κ×V):=ah.filter λkv=>decide (kv.1≠k)
theorem yJ{p:κ×V}{r:List (κ×V)}{k:κ}(e:p.1=k):qR (p::r) k=some p.2:=by simp [qR,List.find?_cons,e]
theorem CY{p:κ×V}{r:List (κ×V)}{k:κ}(e:¬p.1=k):qR (p::r) k=qR r k:=by simp [qR,List.find?_cons,e]
theorem JI(k:κ):∀ah:List (κ×V),(ah.any λkv=>decide (kv.1=k))=(qR ah k).isSome
 | []=>rfl
 | p::r=>by
  rw[List.any_cons];by_cases e:p.1=k
  ·simp only[yJ e,mP e,Bool.true_or,Option.isSome_some]
  ·rw[CY e,mN e,Bool.false_or];exact JI k r
theorem yC(ah:List (κ×V))(k:κ)(v:V):(qU ah k v).length<=ah.length+1:=by
 unfold qU;split
 ·rw[mL];omega
 ·rw[List.length_append,mH,List.length_nil];omega
theorem RelO.isSome_eq{o:Option V}{u:Option Value}(r:RelO o u):o.isSome=u.isSome:=by
 cases o with
 | none=>cases u with
  | none=>rfl
  | some _=>exact(show False from r).elim
 | some _=>cases u with
  | none=>exact(show False from r).elim
  | some _=>rfl
theorem RelO.getD{o:Option V}{u:Option Value}{d:V}{d':Value}(r:RelO o u)(rd:RelV d d'):RelV (o.getD d) (u.getD d'):=by
 cases o with
 | none=>cases u with
  | none=>exact rd
  | some _=>exact(show False from r).elim
 | some _=>cases u with
  | none=>exact(show False from r).elim
  | some _=>exact r
theorem KV.val{ah:List (κ×V)}{vs:List (κ×Value)}(r:KV ah vs)(k:κ):RelO (qR ah k) (valueAt vs k):=by
 unfold KV at r;induction r with
 | nil=>exact True.intro
 | @cons p q ps qs h t ih=>
  obtain⟨h1,h2⟩:=h;by_cases e:p.1=k
  ·have e':q.1=k:=h1.symm.trans e;have b:valueAt (q::qs) k=some q.2:=by simp [valueAt,List.find?_cons,e']
   rw[yJ e,b];exact h2
  ·have e':¬q.1=k:=λz=>e (h1.trans z);have b:valueAt (q::qs) k=valueAt qs k:=by simp [valueAt,List.find?_cons,e']
   rw[CY e,b];exact ih
theorem KV.any{ah:List (κ×V)}{vs:List (κ×Value)}(r:KV ah vs)(k:κ):(ah.any λkv=>decide (kv.1=k))=vs.any λkv=>decide (kv.1=k):=by
 unfold KV at r;induction r with
 | nil=>rfl
 | cons h t ih=>rw[List.any_cons,List.any_cons,ih,h.1]
theorem KV.repl{ah:List (κ×V)}{vs:List (κ×Value)}(r:KV ah vs)(k:κ){y:V}{u:Value}(ry:RelV y u) :
  KV (ah.map λkv=>if kv.1=k then(kv.1,y)else kv) (vs.map λkv=>if kv.1=k then(kv.1,u)else kv):=by
 unfold KV at r ⊢;induction r with
 | nil=>exact .nil
 | @cons p q ps qs h t ih=>
  rw[mW,mW];refine .cons ?_ ih;obtain⟨h1,h2⟩:=h;by_cases e:p.1=k
  ·rw[tK e,tK (h1.symm.trans e)];exact⟨h1,ry⟩
  ·rw[tJ e,tJ (λz=>e (h1.trans z))];exact⟨h1,h2⟩
theorem KV.put{ah:List (κ×V)}{vs:List (κ×Value)}(r:KV ah vs)(k:κ){y:V}{u:Value}(ry:RelV y u):KV (qU ah k y) (stored vs k u):=by
 unfold qU stored;rw[r.any k];by_cases e:(vs.any λkv=>decide (kv.1=k))=true
 ·rw[tK e,tK e];exact r.repl k ry
 ·rw[tJ e,tJ e];exact Paired.snoc r ⟨rfl,ry⟩
theorem KV.length{ah:List (κ×V)}{vs:List (κ×Value)}(r:KV ah vs):ah.length=vs.length:=Paired.length r
theorem YQ(ah:List (κ×V))(k:κ):(BH ah k).length<=ah.length:=List.length_filter_le _ _
end
theorem ER{P:Program}{w:World}{k:Key}{u:Value}(r:RelV (kV k) u):(kC P w).is k u=true:=by
 cases k with
 | inl i=>obtain⟨t,e⟩:=(show ∃t,u=Value.int i t from r);subst e;exact KN P w i t
 | inr x=>obtain⟨t,e⟩:=(show ∃t,u=Value.str x t from r);subst e;exact KM P w x t
theorem FY{P:Program}{w:World} :∀{ks:List Key} {us:List Value},Vals (ks.map kV) us->ItemsAre (kC P w) ks us
 | [],_,r=>by rw[List.map_nil]at r;cases r;exact .nil
 | k::ks,_,r=>by
  rw[mW]at r;cases r with
  | cons h t=>exact .cons (ER h) (FY t)
abbrev KT(H:Hp):List (List Key×V)->List (List Key×Addr×Value)->Prop:=Paired λp q=>p.1=q.1/\H q.2.1=some (.tup (p.1.map kV))/\RelV p.2 q.2.2
theorem KT.val{H:Hp}{ah:List (List Key×V)}{xs:List (List Key×Addr×Value)}(r:KT H ah xs)(k:List Key):RelO (qR ah k) ((atKey xs k).map (·.2)):=by
 induction r with
 | nil=>exact True.intro
 | @cons p q ps qs h t ih=>
  obtain⟨h1,_,h2⟩:=h;by_cases e:p.1=k
  ·have e':q.1=k:=h1.symm.trans e;have b:atKey (q::qs) k=some q.2:=by simp [atKey,List.find?_cons,e']
   rw[yJ e,b];exact h2
  ·have e':¬q.1=k:=λz=>e (h1.trans z);have b:atKey (q::qs) k=atKey qs k:=by simp [atKey,List.find?_cons,e']
   rw[CY e,b];exact ih
theorem KT.repl{H:Hp}{ah:List (List Key×V)}{xs:List (List Key×Addr×Value)}(r:KT H ah xs)(k:List Key){y:V}{u:Value}(ry:RelV y u) :
  KT H (ah.map λkv=>if kv.1=k then(kv.1,y)else kv) (xs.map (putAt k u)):=by
 induction r with
 | nil=>exact .nil
 | @cons p q ps qs h t ih=>
  rw[mW,mW];refine .cons ?_ ih;obtain⟨h1,h2,h3⟩:=h;unfold putAt;by_cases e:p.1=k
  ·rw[tK e,tK (h1.symm.trans e)];exact⟨h1,h2,ry⟩
  ·rw[tJ e,tJ (λz=>e (h1.trans z))];exact⟨h1,h2,h3⟩
theorem KT.put{H:Hp}{ah:List (List Key×V)}{xs:List (List Key×Addr×Value)}(r:KT H ah xs)(k:List Key){b:Addr}{y:V}{u:Value}(hb:H b=some (.tup (k.map kV)))(ry:RelV y u) :
  KT H (qU ah k y) (storedH xs k b u):=by
 have e:(ah.any λkv=>decide (kv.1=k))=(atKey xs k).isSome:=by
  rw[JI,(r.val k).isSome_eq,Option.isSome_map]
 unfold qU storedH;rw[e];by_cases q:(atKey xs k).isSome=true
 ·rw[tK q,tK q];exact r.repl k ry
 ·rw[tJ q,tJ q];exact Paired.snoc r ⟨rfl,hb,ry⟩
theorem KT.keeps{H H':Hp}{ah:List (List Key×V)}{xs:List (List Key×Addr×Value)}(r:KT H ah xs)(ht:∀b ys,H b=some (.tup ys)->H' b=some (.tup ys)):KT H' ah xs:=
 Paired.mapP r λ_ _ z=>⟨z.1,ht _ _ z.2.1,z.2.2⟩
section
variable{P:Program}{w:World}{H:Hp}{h:Heap}{a:Addr}
theorem rd_of{u:HO}(ok:HOk P w H h)(e:Rd H a u):ObjOk P w H h a u:=e.ok ok
theorem BJ{ah:List (Key×V)}(ok:HOk P w H h)(e:Rd H a (.dK ah)):ah.length<=sizeLine/\(a==sysModules)=false/\∃vs,KV ah vs/\h.DictOf (kC P w) a vs:=
 show ObjOk P w H h a (.dK ah)from rd_of ok e
theorem YR{ah:List (Key×V)}(ok:HOk P w H h)(e:H a=some (.dK ah)):ah.length<=sizeLine/\(a==sysModules)=false/\∃vs,KV ah vs/\h.DictOf (kC P w) a vs:=BJ ok (.inl e)
theorem uE{ks:List Key}(ok:HOk P w H h)(e:H a=some (.tup (ks.map kV))):(tupleKind (kC P w)).is h ks a:=by
 obtain⟨_,its,r,⟨o,h1,h2,n,h3⟩,_⟩:=(show ObjOk P w H h a (.tup (ks.map kV))from ok a _ e);exact⟨o,its.toArray,n,h1,h2,h3,by simpa using FY r⟩
theorem AK{ah:List (List Key×V)}(ok:HOk P w H h)(e:Rd H a (.dT ah)):ah.length<=sizeLine/\(a==sysModules)=false/\
  ∃xs,KT H ah xs/\h.DictOfH (tupleKind (kC P w)) a xs:=by
 obtain⟨z,y,xs,r,o,es,ep,h1,h2,h3,h4,h5⟩:=(show ObjOk P w H h a (.dT ah)from rd_of ok e);refine⟨z,y,xs,r,o,es,ep,h1,h2,h3,h4,λx hx=>?_,h5⟩;have all:∀{l:List (List Key×V)} {m:List (List Key×Addr×Value)},KT H l m->∀x∈m,(tupleKind (kC P w)).is h x.1 x.2.1:=by
  intro l m q;induction q with
  | nil=>intro x hx;exact nomatch hx
  | @cons p q ps qs hq t ih=>
   intro x hx;rcases mX.mp hx with e | hx
   ·subst e;exact uE ok (by rw[<-hq.1];exact hq.2.1)
   ·exact ih x hx
 exact all r x hx
theorem dt_of{ah:List (List Key×V)}(ok:HOk P w H h)(e:H a=some (.dT ah)):ah.length<=sizeLine/\(a==sysModules)=false/\
  ∃xs,KT H ah xs/\h.DictOfH (tupleKind (kC P w)) a xs:=AK ok (.inl e)
end
def DGet(H:Hp)(a:Addr)(y:V)(r:Option V):Prop:=
 (∃ah k,Rd H a (.dK ah)/\y=kV k/\r=qR ah k)∨∃ah k b,Rd H a (.dT ah)/\y=.ref b/\H b=some (.tup (k.map kV))/\r=qR ah k
def DPut(H:Hp)(a:Addr)(y v:V)(H':Hp):Prop:=
 (∃ah k,H a=some (.dK ah)/\y=kV k/\ah.length<sizeLine/\H'=upd H a (.dK (qU ah k v)))∨
 ∃ah k b,H a=some (.dT ah)/\y=.ref b/\H b=some (.tup (k.map kV))/\ah.length<sizeLine/\H'=upd H a (.dT (qU ah k v))
theorem DGet.k{H:Hp}{a:Addr}{ah:List (Key×V)}{k:Key}(e:H a=some (.dK ah)):DGet H a (kV k) (qR ah k):=.inl ⟨ah,k,.inl e,rfl,rfl⟩
theorem DGet.t{H:Hp}{a b:Addr}{ah:List (List Key×V)}{k:List Key}(e:H a=some (.dT ah))(eb:H b=some (.tup (k.map kV))):DGet H a (.ref b) (qR ah k):=.inr ⟨ah,k,b,.inl e,rfl,eb,rfl⟩
theorem DPut.k{H:Hp}{a:Addr}{ah:List (Key×V)}{k:Key}{v:V}(e:H a=some (.dK ah))(hl:ah.length<sizeLine):DPut H a (kV k) v (upd H a (.dK (qU ah k v))):=.inl ⟨ah,k,e,rfl,hl,rfl⟩
theorem DPut.t{H:Hp}{a b:Addr}{ah:List (List Key×V)}{k:List Key}{v:V}(e:H a=some (.dT ah))(eb:H b=some (.tup (k.map kV)))(hl:ah.length<sizeLine) :
  DPut H a (.ref b) v (upd H a (.dT (qU ah k v))):=.inr ⟨ah,k,b,e,rfl,eb,hl,rfl⟩
section
variable{X:Cx}{ae:List (Addr×Obj)}{σ:St}{H:Hp}{s:Shared}{a:Addr}{y v:V}{u r:Value}{o:Option V}{A:Around}{E:Value->Shared->Prop}
theorem Inv.big(I:Inv X ae σ H s):sysModules<s.heap.objs.size:=by
 have h:mainGlobals<s.heap.objs.size:=(I.mod.glob.keeps I.bk).lt;exact Nat.lt_trans #[1] h
theorem TN{Q:Value->Shared->Prop}(hu:A.units+1<cLine)(I:Inv X ae σ H s)(g:DGet H a y (some v))(ry:RelV y u)(h:∀w' s',Inv X ae σ H s'->RelV v w'->Q w' s') :
  wpAny #[2] A (getItem (.ref a) u) Q E s:=by
 rcases g with⟨ah,k,e,ey,l⟩ | ⟨ah,k,b,e,ey,eb,l⟩
 ·subst ey;obtain⟨z,hd,vs,rel,dd⟩:=BJ I.hok e;obtain⟨w',hw,rw'⟩:=RelO.some_of (v:=v) (o:=valueAt vs k) (by rw[l];exact rel.val k);exact wpAny_getItem_of (ER ry) dd.mapOf hw (h w' _ (I.tok _) rw')
 ·subst ey;cases (show u=Value.ref b from ry);obtain⟨z,hd,xs,rel,dd⟩:=AK I.hok e;obtain⟨w',hw,rw'⟩:=RelO.some_of (v:=v) (o:=(atKey xs k).map (·.2)) (by rw[l];exact rel.val k);obtain⟨p,hp,hp2⟩:=Option.map_eq_some_iff.mp hw;refine wpAny_getItem_heap (tupleKind_room_in1 hu) (uE I.hok eb) dd hp ?_;rw[hp2];exact h w' _ (I.tok _) rw'
theorem d_in{Q:Value->Shared->Prop}(hu:A.units+1<cLine)(I:Inv X ae σ H s)(g:DGet H a y o)(ry:RelV y u)(h:∀s',Inv X ae σ H s'->Q (.bool o.isSome) s') :
  wpAny #[2] A (compareOp .In u (.ref a)) Q E s:=by
 rcases g with⟨ah,k,e,ey,l⟩ | ⟨ah,k,b,e,ey,eb,l⟩
 ·subst ey;obtain⟨z,hd,vs,rel,dd⟩:=BJ I.hok e;refine wpAny_in_of (ER ry) hd dd.mapOf ?_;rw[<-(rel.val k).isSome_eq,<-l];exact h _ (I.tok _)
 ·subst ey;cases (show u=Value.ref b from ry);obtain⟨z,hd,xs,rel,dd⟩:=AK I.hok e;refine wpAny_in_heap (tupleKind_room_in1 hu) (uE I.hok eb) hd dd ?_;have q:=(rel.val k).isSome_eq;rw[Option.isSome_map]at q;rw[<-q,<-l];exact h _ (I.tok _)
theorem AL{h':Heap}{t':Nat}{ob:HO}(I:Inv X ae σ H s)(mu:Mut (H a))(hs:Heap.SameBut a s.heap h')(he:∃q,h'.get? a=some q)(new:ObjOk X.prog X.w (upd H a ob) h' a ob) :
  Inv X ae σ (upd H a ob) { s with heap:=h',toks:=t' } :=
 I.write (x:=a) (e:=a) mu (.inl rfl) (λb q hb z=>(hs.2 b hb).trans z) he new
theorem JA{P:Program}{w:World}{H':Hp}{h':Heap}{ah:List (Key×V)}{vs:List (Key×Value)}(z:ah.length<=sizeLine)(hd:(a==sysModules)=false)(rel:KV ah vs)(dd:h'.DictOf (kC P w) a vs) :
  ObjOk P w H' h' a (.dK ah):=⟨z,hd,vs,rel,dd⟩
theorem TM{H':Hp}{Q:Unit->Shared->Prop}(hu:A.units+1<cLine)(I:Inv X ae σ H s)(g:DPut H a y v H')(ry:RelV y u)(rv:RelV v r)(h:∀s',Inv X ae σ H' s'->Q () s') :
  wpAny #[2] A (setItem (.ref a) u r) Q E s:=by
 rcases g with⟨ah,k,e,ey,l,eH⟩ | ⟨ah,k,b,e,ey,eb,l,eH⟩
 ·subst ey eH;obtain⟨z,hd,vs,rel,dd⟩:=YR I.hok e;have hz:vs.length<=sizeLine:=by rw[<-rel.length];exact z
  have hl:(qU ah k v).length<=sizeLine:=by have:=yC ah k v;omega
  refine wpAny_setItem_pairs (hsz:=hz) (ER ry) dd λh' dd' hs=>h _ ?_;have he:∃q,h'.get? a=some q:=let ⟨q,_,_,hq,_⟩:=dd';⟨q,hq⟩;exact AL I (by rw[e];exact True.intro) hs he (JA hl hd (rel.put k rv) dd')
 ·subst ey eH;cases (show u=Value.ref b from ry);obtain⟨z,hd,xs,rel,dd⟩:=dt_of I.hok e;have hz:xs.length<=sizeLine:=by rw[<-Paired.length rel];exact z
  have hl:(qU ah k v).length<=sizeLine:=by have:=yC ah k v;omega
  refine wpAny_setItem_heap (hsz:=hz) (tupleKind_room_in1 hu) (uE I.hok eb) dd λh' dd' hs=>h _ ?_;obtain⟨q,es,ep,hq,h2,h3,h4,_,h5⟩:=dd';refine AL I (by rw[e];exact True.intro) hs ⟨q,hq⟩ ⟨hl,hd,_,(rel.put k eb rv).keeps λc ys ec=>?_,q,es,ep,hq,h2,h3,h4,h5⟩;rw[jG (ne_of ec e (λz=>nomatch z))];exact ec
end
section
variable{X:Cx}{ae:List (Addr×Obj)}{σ:St}{H:Hp}{s:Shared}{a:Addr}{ah:List (Key×V)}{k:Key}{u:Value}{A:Around}{E:Value->Shared->Prop}
end
def NoSl(i:Expr):Prop:=∀ov iv,subscripted i false ov iv=operate [ov,iv] (getItem ov iv)
theorem ZV{prog:Program}{w:World}{A:Around}{E:Value->Shared->Prop}{s:Shared}{env:Env}{value slice:Expr}{pos:Pos}{T id:String}{Q:Value->Shared->Prop}
  (hl:typeLookup (.type T) "__getitem__" = pure (some (.builtin id))) (hs:NoSl slice)
  (h:wpAny #[4] A (eval value env) (λo s₁=>wpAny #[4] A (eval slice env) (λi s₂=>s₂.TypeIs o T/\wpAny #[4] A (getItem o i) Q E s₂) E s₁) E s) :
  wpAny #[4] A (eval (.Subscript value slice pos) env) Q E s:=by
 refine Subscript_ (tH h (λo s₁ h₁=>tH h₁ (λi s₂ h₂=>?_) λ_ _ x=>x) λ_ _ x=>x);obtain⟨hT,h₂⟩:=h₂;unfold subscriptTail;refine tF ?_;rw[getitemInPython_of_ne hT.not_modules];refine tF (wpAny_specialOf hT hl ?_);have fin:wpAny #[4] A (subscripted slice false o i) (λr s₃=>wpAny #[4] A (letTemporaryGo value o r >>= λ_=>pure r) Q E s₃) E s₂:=by
  rw[hs o i];exact wpAny_operating (tH h₂ (λr s₃ h₃=>tF (wpAny_letTemporaryGo (tG h₃))) λ_ _ x=>x)
 first
  | exact tG (tF fin)
  | exact tF (tG (tF fin))
  | exact tF fin
theorem LJ{X:Cx}{ae:List (Addr×Obj)}{σ:St}{H:Hp}{s:Shared}{a:Addr}{y:V}{o:Option V}(I:Inv X ae σ H s)(g:DGet H a y o):s.TypeIs (.ref a) "dict":=by
 rcases g with⟨ah,k,e,_,_⟩ | ⟨ah,k,b,e,_,_,_⟩
 ·obtain⟨_,_,vs,_,dd⟩:=BJ I.hok e;exact dd.typeIs
 ·obtain⟨_,_,xs,_,dd⟩:=AK I.hok e;exact dd.typeIs
def tDGet(td ty:TE):TE:=fun σ H Q=>td σ H λx H1=>ty σ H1 λy H2=>∃a v,x=.ref a/\DGet H2 a y (some v)/\Q v H2
def tDIn(ty td:TE):TE:=fun σ H Q=>ty σ H λy H1=>td σ H1 λx H2=>∃a o,x=.ref a/\DGet H2 a y o/\Q (.bl o.isSome) H2
def sDPut(td ty tv:TE):TS:=λD σ H=>tv σ H λv H1=>td σ H1 λx H2=>ty σ H2 λy H3=>∃a H4,x=.ref a/\DPut H3 a y v H4/\D.nx σ H4
section
variable{X:Cx}{o i e value:Expr}{pos pos' tpos:Pos}{td ty tv:TE}
theorem vT(hu:X.A.units+1<cLine)(ho:PE X o td)(hi:PE X i ty)(hs:NoSl i):PE X (.Subscript o i pos) (tDGet td ty):=by
 intro ae s σ H Q I h;refine ZV PySem.F.slot_dict_getitem.lookup hs (thn (ho ae s σ H _ I h) λu s1 ⟨x,H1,I1,rx,q1⟩=>thn (hi ae s1 σ H1 _ I1 q1) λiv s2 ⟨y,H2,I2,ry,a,v,ex,g,q2⟩=>?_);subst ex;obtain rfl:u=Value.ref a:=rx;exact⟨LJ I2 g,TN hu I2 g ry λw' s3 I3 rw'=>⟨v,H2,I3,rw',q2⟩⟩
theorem pc_din(hu:X.A.units+1<cLine)(hi:PE X i ty)(ho:PE X o td):PC X .In i o (tDIn ty td):=by
 intro ae s σ H Q I h;refine thn (hi ae s σ H _ I h) λiv s1 ⟨y,H1,I1,ry,q1⟩=>thn (ho ae s1 σ H1 _ I1 q1) λu s2 ⟨x,H2,I2,rx,a,ov,ex,g,q2⟩=>?_;subst ex;obtain rfl:u=Value.ref a:=rx;exact d_in hu I2 g ry λs3 I3=>⟨.bl ov.isSome,H2,I3,rfl,q2⟩
theorem yV(hu:X.A.units+1<cLine)(ho:PE X o td)(hi:PE X i ty)(hv:PE X value tv)(hs:swapsWith value (some (.Subscript o i pos')) pos.line X.env=pure false) :
  PS X (.Assign [.Subscript o i pos'] value pos) (sDPut td ty tv):=by
 intro ae s σ H D I h;refine wpAny_Assign_Subscript (thn (hv ae s σ H _ I h) λr s1 ⟨v,H1,I1,rv,q1⟩=>thn (ho ae s1 σ H1 _ I1 q1) λu s2 ⟨x,H2,I2,rx,q2⟩=>thn (hi ae s2 σ H2 _ I2 q2) λiv s3 ⟨y,H3,I3,ry,a,H4,ex,g,q3⟩=>?_) hs;subst ex;obtain rfl:u=Value.ref a:=rx;exact TM hu I3 g ry rv λs4 I4=>⟨σ,H4,I4,q3⟩
end
theorem YS{P:Program}{w:World}{H:Hp}(h:Heap)(hb:sysModules<h.objs.size):ObjOk P w H (h.push { cls:=.type "dict",data:=.dict #[] }) h.objs.size (.dK []):=
 ⟨nY _,beq_eq_false_iff_ne.mpr (Ne.symm (nO hb)),[],.nil,Heap.DictOf.new h⟩
theorem YN{P:Program}{w:World}{H:Hp}(h:Heap)(hb:sysModules<h.objs.size):ObjOk P w H (h.push { cls:=.type "dict",data:=.dict #[] }) h.objs.size (.dT []):=
 ⟨nY _,beq_eq_false_iff_ne.mpr (Ne.symm (nO hb)),[],.nil,_,#[],0,gT _ rfl,⟨rfl,rfl,rfl⟩,rfl,rfl,mU⟩
def tDNewK:TE:=λ_ H Q=>∀p,H p=none->Q (.ref p) (upd H p (.dK []))
def tDNewT:TE:=λ_ H Q=>∀p,H p=none->Q (.ref p) (upd H p (.dT []))
section
variable{X:Cx}{pos:Pos}
theorem EG:PE X (.Dict [] [] pos) tDNewK:=λae s σ H Q I h=>
 wpAny_Dict_empty ⟨.ref s.heap.objs.size,_,I.laid (a:=s.heap.objs.size) (o:=.dK []) (t':=s.toks) (λ_ _ q=>gH _ q) uU (YS s.heap I.big),rfl,h _ (I.hok.fresh uU)⟩
theorem zY:PE X (.Dict [] [] pos) tDNewT:=λae s σ H Q I h=>
 wpAny_Dict_empty ⟨.ref s.heap.objs.size,_,I.laid (a:=s.heap.objs.size) (o:=.dT []) (t':=s.toks) (λ_ _ q=>gH _ q) uU (YN s.heap I.big),rfl,h _ (I.hok.fresh uU)⟩
end
structure M1(X:Cx)(o:Expr)(m:Str)(apos:Pos)(e:Expr)(cpos:Pos):Prop where
 base:attributeBase o m X.env (eval o X.env)=eval o X.env
 few:((backTo cpos (starEach [e] X.env)).all (λx=>!x.1)&&(backToKw cpos (keywordEach [] X.env)).all (λx=>x.1.isSome)
  &&decide (([e]:List Expr).length+([]:List Keyword).length+(if ([]:List Keyword).isEmpty then 0 else 1)<30))=true
 line:(apos.endLine==cpos.line)=true
 trees:backTo cpos (starEach [e] X.env)=[(false,eval e X.env)]
structure M2(X:Cx)(o:Expr)(m:Str)(apos:Pos)(e f:Expr)(cpos:Pos):Prop where
 base:attributeBase o m X.env (eval o X.env)=eval o X.env
 few:((backTo cpos (starEach [e,f] X.env)).all (λx=>!x.1)&&(backToKw cpos (keywordEach [] X.env)).all (λx=>x.1.isSome)
  &&decide (([e,f]:List Expr).length+([]:List Keyword).length+(if ([]:List Keyword).isEmpty then 0 else 1)<30))=true
 line:(apos.endLine==cpos.line)=true
 trees:backTo cpos (starEach [e,f] X.env)=[(false,eval e X.env),(false,eval f X.env)]
def IsD(H:Hp)(a:Addr):Prop:=(∃ah,Rd H a (.dK ah))∨∃ah,Rd H a (.dT ah)
theorem NB{X:Cx}{ae:List (Addr×Obj)}{σ:St}{H:Hp}{s:Shared}{a:Addr}(I:Inv X ae σ H s)(d:IsD H a) :
  s.TypeIs (.ref a) "dict"/\(∀b,Value.ref a=.ref b->∃ob,s.heap.get? b=some ob/\ob.dict=none)/\(a==sysModules)=false:=by
 rcases d with⟨ah,e⟩ | ⟨ah,e⟩
 ·obtain⟨_,hd,vs,_,dd⟩:=BJ I.hok e;refine⟨dd.typeIs,λb q=>?_,hd⟩;cases q;obtain⟨ob,_,_,h1,h2,_⟩:=dd;exact⟨ob,h1,h2.2.1⟩
 ·obtain⟨_,hd,xs,_,dd⟩:=AK I.hok e;refine⟨dd.typeIs,λb q=>?_,hd⟩;cases q;obtain⟨ob,_,_,h1,h2,_⟩:=dd;exact⟨ob,h1,h2.2.1⟩
section
variable{X:Cx}{ae:List (Addr×Obj)}{σ:St}{H:Hp}{s:Shared}{a:Addr}{y d:V}{u r:Value}{o:Option V}{A:Around}{E:Value->Shared->Prop}
theorem d_get2{Q:Value->Shared->Prop}(hu:A.units+1<cLine)(I:Inv X ae σ H s)(g:DGet H a y o)(ry:RelV y u)(rd:RelV d r)(h:∀w' s',Inv X ae σ H s'->RelV (o.getD d) w'->Q w' s') :
  wpAny #[2] A (call (.builtin "dict.get") [.ref a,u,r]) Q E s:=by
 rcases g with⟨ah,k,e,ey,l⟩ | ⟨ah,k,b,e,ey,eb,l⟩
 ·subst ey;obtain⟨z,hd,vs,rel,dd⟩:=BJ I.hok e;refine call_meetsIn PySem.F.slot_dict_get dd.typeIs PySem.F.entry_dict_get (PySem.F.args_dict_get_3 _ _ _) (meets_dict_get_default (kC X.prog X.w) a (ER ry) hd r) ⟨_,dd.mapOf,h _ _ (I.tok _) ?_⟩;rw[l];exact(rel.val k).getD rd
 ·subst ey;cases (show u=Value.ref b from ry);obtain⟨z,hd,xs,rel,dd⟩:=AK I.hok e;refine call_meetsIn PySem.F.slot_dict_get dd.typeIs PySem.F.entry_dict_get (PySem.F.args_dict_get_3 _ _ _) (meetsH_dict_get_default (tupleKind (kC X.prog X.w)) a b hd r) ⟨tupleKind_room_in1 hu,k,xs,uE I.hok eb,dd,h _ _ (I.tok _) ?_⟩;rw[l];exact(rel.val k).getD rd
end
def tDGet2(td ty tx:TE):TE:=fun σ H Q=>td σ H λx H1=>∃a,x=.ref a/\IsD H1 a/\ty σ H1 λy H2=>tx σ H2 λz H3=>∃o,DGet H3 a y o/\Q (o.getD z) H3
section
variable{X:Cx}{o e f:Expr}{apos cpos:Pos}{td ty tx:TE}
theorem EH(hu:X.A.units+1<cLine)(ho:PE X o td)(he:PE X e ty)(hf:PE X f tx)(m:M2 X o "get" apos e f cpos):PE X (.Call (.Attribute o "get" apos) [e,f] [] cpos) (tDGet2 td ty tx):=by
 intro ae s σ H Q I h;refine wpAny_Call_method m.base m.few m.line PySem.F.plainAttrs_dict PySem.F.slot_dict_get PySem.F.type_dict_get (thn (ho ae s σ H _ I h) λu s1 ⟨x,H1,I1,rx,a,ex,d,q1⟩=>?_);subst ex;obtain rfl:u=Value.ref a:=rx;obtain⟨t1,t2,_⟩:=NB I1 d;refine⟨t1,t2, ?_⟩;rw[m.trees];refine Calls.callWith_builtin rfl (Calls.evalArgs_plain (Calls.spliced_cons (thn (he ae s1 σ H1 _ I1 q1) λiv s2 ⟨y,H2,I2,ry,q2⟩=>
  Calls.spliced_cons (thn (hf ae s2 σ H2 _ I2 q2) λfv s3 ⟨z,H3,I3,rz,ov,g,q3⟩=>Calls.spliced_nil ?_))))
 exact d_get2 hu I3 g ry rz λw' s4 I4 rw'=>⟨_,H3,I4,rw',q3⟩
end
section
variable{X:Cx}{ae:List (Addr×Obj)}{σ:St}{H:Hp}{s:Shared}{a:Addr}{ah:List (Key×V)}{A:Around}{E:Value->Shared->Prop}
theorem YY{Q:Value->Shared->Prop}(I:Inv X ae σ H s)(e:Rd H a (.dK ah))(h:∀p s',H p=none->Inv X ae σ (upd H p (.dK ah)) s'->Q (.ref p) s'):wpAny #[2] A (call (.type "dict") [.ref a]) Q E s:=by
 obtain⟨z,hd,vs,rel,dd⟩:=BJ I.hok e;refine kt_call_dict hd dd (by rw[<-rel.length];exact z) λh' dd' hs=>?_;refine h _ _ (I.hok.fresh uU) (I.laid (a:=s.heap.objs.size) (o:=.dK ah) (t':=s.toks) (λb q hq=>?_) uU (JA z (beq_eq_false_iff_ne.mpr (Ne.symm (nO I.big))) rel dd'));exact(hs.2 b (nO (nJ hq))).trans (gH _ hq)
end
section
variable{X:Cx}{ae:List (Addr×Obj)}{σ:St}{H:Hp}{s:Shared}{a:Addr}{y:V}{u:Value}{A:Around}{E:Value->Shared->Prop}
end
section
variable{X:Cx}
end
end L2
namespace L2
section
variable{κ:Type} [DecidableEq κ]
end
end L2
namespace LwD
open PySem PySem.Spec PyProof.Rows L2
theorem KTdrop{H:Hp}{ah:List (List Key×V)}{xs:List (List Key×Addr×Value)}(r:KT H ah xs)(k:List Key):KT H (BH ah k) (xs.filter λx=>decide (x.1≠k)):=by
 induction r with
 | nil=>exact .nil
 | @cons p q ps qs h t ih=>
  unfold BH at ih ⊢;rw[mK,mK];by_cases e:p.1=k
  ·rw[tJ (by simp [e]),tJ (by rw[h.1]at e;simp [e])];exact ih
  ·rw[tK (by simp [e]),tK (by rw[h.1]at e;simp [e])];exact .cons h ih
theorem FV{α β:Type}(f:α->β):∀(xs:List α) (j:Nat),(xs.map f).eraseIdx j=(xs.eraseIdx j).map f
 | [],_=>rfl
 | _::_,0=>rfl
 | x::r,j+1=>by rw[mW,List.eraseIdx_cons_succ,List.eraseIdx_cons_succ,mW,FV f r j]
theorem AG{K:Type} [DecidableEq K]{k:K} :∀{xs:List (K×Addr×Value)} {j:Nat} {p:Addr×Value},(xs.map (·.1)).Nodup->xs[j]? = some (k,p)->xs.eraseIdx j=xs.filter λx=>decide (x.1≠k)
 | [],_,_,_,e=>by simp at e
 | x::r,0,p,hn,e=>by
  simp only[List.getElem?_cons_zero,Option.some.injEq]at e;subst e;rw[mW,List.nodup_cons]at hn;rw[List.eraseIdx_zero,List.tail_cons,mK,tJ (by simp)]
  symm
  rw[List.filter_eq_self];intro y hy;have:y.1≠k:=λz=>hn.1 (nP.mpr ⟨y,hy,z⟩);simp [this]
 | x::r,j+1,p,hn,e=>by
  rw[mW,List.nodup_cons]at hn;have e':r[j]? = some (k,p):=by simpa using e
  have hx:x.1≠k:=λz=>hn.1 (z▸nP.mpr ⟨(k,p),gM e',rfl⟩);rw[List.eraseIdx_cons_succ,mK,tK (by simp [hx]),AG hn.2 e']
section
variable{prog:Program}{w:World}{K:Type} [DecidableEq K]{knd:HeapKind prog w K}{A:Around}{E:Value->Shared->Prop}{s:Shared}
theorem HP{d a:Addr}{xs:List (K×Addr×Value)}{k:K}{p:Addr×Value}{Q:Option DictEntry->Shared->Prop}(hu:knd.room A)(hkey:knd.is s.heap k a)(hm:s.heap.DictOfH knd d xs)(hz:xs.length<=sizeLine)(hp:atKey xs k=some p)
  (hs:∀h',h'.DictOfH knd d (xs.filter λx=>decide (x.1≠k))->Heap.SameBut d s.heap h'->Q (some (entryOfKey knd (k,p))) { s with heap:=h',toks:=s.toks+knd.draws k }) :
  wpAny #[4] A (Builtin.Dict.takeOut d (.ref a)) Q E s:=by
 obtain⟨o,es,ep,ho,hc,hd,he,his,hn⟩:=hm;have hes:es.size<=sizeLine:=by rw[size_of_entries he];exact hz
 unfold Builtin.Dict.takeOut;try with_reducible refine wpAny_holding ?_
 refine tF (knd.pyHash hu hkey (tF (wpAny_dictFind_heap (s:={ s with toks:=s.toks+knd.draws k }) hu hkey ho hd he his hn ?_ ?_)))
 ·intro hno;rw[atKey_none_of_get hno]at hp;cases hp
 ·intro j p' hj;rw[atKey_of_get hn hj]at hp;cases hp;refine tF (wpAny_dictEntries (s:={ s with toks:=s.toks+knd.draws k }) ho hd ?_);rw[entry_at he j,hj];refine tF (wpAny_updateDictKeys (hz:=hes) (s:={ s with toks:=s.toks+knd.draws k }) ho hd (tG (hs _ ⟨_,_,ep+1,Heap.get?_update_self _ ho (Obj.isFreed_of_dict (Obj.data_mapDictKeys hd _)),hc.mapDictKeys _,Obj.data_mapDictKeys hd _, ?_, ?_, ?_⟩ (Heap.SameBut.update ..))))
  ·rw[<-AG hn hj];obtain⟨l⟩:=es;simp only at he;subst he;show((List.map (entryOfKey knd) xs).toArray.eraseIdxIfInBounds j).toList=_;rw[List.eraseIdxIfInBounds_toArray];exact FV _ xs j
  ·intro x hx;exact knd.keeps (his x (List.mem_filter.mp hx).1) ho hd (Heap.SameBut.update ..)
  ·exact hn.sublist (List.filter_sublist.map _)
theorem MU{d a:Addr}{k:K} :
  MeetsIn prog w (Builtin.«dict.pop» ⟨[.ref d,.ref a],[]⟩) (λA R s=>∃xs p,knd.room A.in1/\knd.is s.heap k a/\s.heap.DictOfH knd d xs/\xs.length<=sizeLine/\atKey xs k=some p/\
   ∀h',h'.DictOfH knd d (xs.filter λx=>decide (x.1≠k))->Heap.SameBut d s.heap h'->R (.ok (.ret p.2)) { s with heap:=h',toks:=s.toks+knd.draws k }):=
 .of_wp λA R s ⟨xs,p,hu,hkey,hm,hz,hp,h⟩=>by
  unfold Builtin.«dict.pop»;refine tF ?_;unfold Builtin.Dict.keyAndDefault;refine tF (wpAny_notOrdered_dict hm.typeIs ?_);show wpAny _ _ (pure (d,Value.ref a,none)) _ _ s;refine tG ?_;obtain⟨o,es,ep,ho,hc,hd,he,his,hn⟩:=id hm;have ne:es.isEmpty=false:=by
   have e1:=size_of_entries he;have e2:xs≠[]:=λz=>by subst z;cases hp
   have e3:0<xs.length:=List.length_pos_iff.mpr e2;rw[Array.isEmpty_eq_false_iff_exists_mem];exact⟨es[0]'#[0],Array.getElem_mem _⟩
  have go:wpAny #[4] A.in1 (Builtin.Dict.takeOut d (.ref a)) (λold s'=>old=some (entryOfKey knd (k,p))/\R (.ok (.ret p.2)) s') (λ_ _=>False) s:=
   HP hu hkey hm hz hp λh' hm' hs'=>⟨rfl,h h' hm' hs'⟩
  have kp:(keyPart (Value.ref a)).isSome=false:=rfl;simp only[kp,Bool.false_eq_true,if_false];refine tF (wpAny_dictEntries ho hd ?_);rw[ne];refine tF (tG ?_);simp only[Bool.false_eq_true,if_false];refine tF (tH go (λold s' ⟨e1,hR⟩=>?_) λ_ _ z=>z.elim);subst e1;simp only[Option.isNone_some,Bool.false_eq_true,if_false];exact tF (wpAny_letGo (tG ⟨p.2,rfl,hR⟩))
end
section
variable{X:Cx}{ae:List (Addr×Obj)}{σ:L2.St}{H:Hp}{s:Shared}{a b:Addr}{ah:List (List Key×V)}{k:List Key}{E:Value->Shared->Prop}
theorem d_popT{v:V}{Q:Value->Shared->Prop}(hu:X.A.units+1<cLine)(I:Inv X ae σ H s)(e:H a=some (.dT ah))(eb:H b=some (.tup (k.map kV)))(l:qR ah k=some v)
  (h:∀w' s',Inv X ae σ (upd H a (.dT (BH ah k))) s'->RelV v w'->Q w' s'):wpAny #[2] X.A (call (.builtin "dict.pop") [.ref a,.ref b]) Q E s:=by
 obtain⟨z,hd,xs,rel,dd⟩:=dt_of I.hok e;have hz:xs.length<=sizeLine:=by rw[<-Paired.length rel];exact z
 have rv:=rel.val k;rw[l]at rv;cases hp:atKey xs k with
 | none=>rw[hp]at rv;exact rv.elim
 | some p=>
  rw[hp]at rv;refine call_meetsIn PySem.F.slot_dict_pop dd.typeIs PySem.F.entry_dict_pop (PySem.F.args_dict_pop_2 _ _) (MU (knd:=tupleKind (kC X.prog X.w)) (k:=k)) ⟨xs,p,tupleKind_room_in1 hu,uE I.hok eb,dd,hz,hp,λh' dd' hs=>h p.2 _ ?_ rv⟩;obtain⟨q,es,ep,hq,h2,h3,h4,_,h5⟩:=dd';have hl:(BH ah k).length<=sizeLine:=nN (YQ ah k) z;refine AL I (by rw[e];exact True.intro) hs ⟨q,hq⟩ ⟨hl,hd,_,(KTdrop rel k).keeps λc ys ec=>?_,q,es,ep,hq,h2,h3,h4,h5⟩;rw[jG (ne_of ec e (λz=>nomatch z))];exact ec
variable{o e:Expr}{td ty:TE}{apos cpos:Pos}
def tDPopT(td ty:TE):TE:=fun σ H Q=>td σ H λx H1=>∃a,x=.ref a/\IsD H1 a/\ty σ H1 λy H2=>∃ah k v b,H2 a=some (.dT ah)/\y=.ref b/\H2 b=some (.tup (k.map kV))/\qR ah k=some v/\Q v (upd H2 a (.dT (BH ah k)))
theorem VY(hu:X.A.units+1<cLine)(ho:PE X o td)(he:PE X e ty)(m:M1 X o "pop" apos e cpos):PE X (.Call (.Attribute o "pop" apos) [e] [] cpos) (tDPopT td ty):=by
 intro ae s σ H Q I h;refine wpAny_Call_method m.base m.few m.line PySem.F.plainAttrs_dict PySem.F.slot_dict_pop PySem.F.type_dict_pop (thn (ho ae s σ H _ I h) λu s1 ⟨x,H1,I1,rx,a,ex,d,q1⟩=>?_);subst ex;obtain rfl:u=Value.ref a:=rx;obtain⟨t1,t2,_⟩:=NB I1 d;refine⟨t1,t2, ?_⟩;rw[m.trees];refine Calls.callWith_builtin rfl (Calls.evalArgs_plain (Calls.spliced_cons (thn (he ae s1 σ H1 _ I1 q1) λiv s2 ⟨y,H2,I2,ry,ah,k,v,b,ea,ey,eb,l,q2⟩=>Calls.spliced_nil ?_)));subst ey;cases ry;exact d_popT hu I2 ea eb l λw' s3 I3 rw'=>⟨v,_,I3,rw',q2⟩
end
def Raw(h:Heap)(d:Addr)(es:Array DictEntry)(ep:Nat):Prop:=∃o,h.get? d=some o/\o.ExactDict/\o.data=.dict es ep
theorem Raw.lt{h:Heap}{d:Addr}{es:Array DictEntry}{ep:Nat}(r:Raw h d es ep):d<h.objs.size:=let ⟨_,e,_⟩:=r;nJ e
theorem Raw.keep{h h':Heap}{d:Addr}{es:Array DictEntry}{ep:Nat}(r:Raw h d es ep)(k:∀o,h.get? d=some o->h'.get? d=some o):Raw h' d es ep:=let ⟨o,e,x⟩:=r;⟨o,k o e,x⟩
theorem Raw.ty{s:Shared}{d:Addr}{es:Array DictEntry}{ep:Nat}(r:Raw s.heap d es ep):s.TypeIs (.ref d) "dict":=let ⟨o,e,c,_⟩:=r;⟨o,e,c.1⟩
section
variable{prog:Program}{w:World}{A:Around}{E:Value->Shared->Prop}{s:Shared}{d it:Addr}{es:Array DictEntry}{ep i:Nat}
theorem JV{Q:Value->Shared->Prop}(lo:(d==sysModules)=false)(r:Raw s.heap d es ep)
  (q:Q (.ref s.heap.objs.size) { s with heap:=s.heap.push { cls:=.type "dict_keyiterator",data:=.fields #[.ref d,.int 0 0,.int es.size 0,.int ep 0] } }):wpAny #[4] A (pyIter (.ref d)) Q E s:=by
 have ty:=r.ty;obtain⟨o,ho,hc,hdat⟩:=r;refine wpAny_pyIter_slot ty PySem.F.slot_dict_iter (wpAny_call_entry PySem.F.slot_dict_iter ty PySem.F.entry_dict_iter ?_ (PySem.F.args_dict_iter_1 _));unfold Builtin.«dict.__iter__»;refine tF (show wpAny _ _ (Builtin.Dict.dictSlotNone _ _) _ _ s from ?_);unfold Builtin.Dict.dictSlotNone;refine tF (wpAny_notOrdered_dict ty (show wpAny _ _ (pure (Value.ref d)) _ _ s from tG ?_));show wpAny _ _ (Builtin.Dict.showsAll d >>= _) _ _ s;unfold Builtin.Dict.showsAll;rw[tJ (by rw[lo];exact gW)];refine tF (tG (tF (wpAny_dictEntries ho hdat (tF (wpAny_dictEpoch ho hdat ?_)))));refine tF (wpAny_newObj_type (tG ⟨_,rfl,"dict_keyiterator",_,⟨_,gT _ rfl,rfl⟩,PySem.F.slot_dict_keyiterator_next.lookup, ?_⟩));simpa [rawInt]using q
theorem JU{Q:Option Value->Shared->Prop}(k:s.heap.IsKeyIter it d i es.size ep)(r:Raw s.heap d es ep)(hi:i<es.size)
  (q:∀h',h'.IsKeyIter it d (i+1) es.size ep->Heap.SameBut it s.heap h'->Q (some es[i].key) { s with heap:=h' }):wpAny #[4] A (pyNext (.ref it)) Q E s:=by
 have ty:=k.typeIs;obtain⟨o,ho,hc,hd⟩:=id k;obtain⟨od,hod,hcd,hdd⟩:=id r;have own:Builtin.Dict_items.ownsTuple "dict_keyiterator" = false:=by decide
 unfold pyNext;refine tF (wpAny_attempt (wpAny_callSpecial?_slot (name:=Str.ofString "__next__") ty PySem.F.slot_dict_keyiterator_next (wpAny_call_entry PySem.F.slot_dict_keyiterator_next ty PySem.F.entry_dict_keyiterator_next ?_ (PySem.F.args_dict_keyiterator_next_1 _))));refine tF (tG (tF (tF ?_)));first | refine tF (wpAny_typeNameOfWhole_keyiter ty (tG (tF (wpAny_fieldsOf ho hd ?_)))) | refine tF (wpAny_typeNameOf_keyiter ty (tG (tF (wpAny_fieldsOf ho hd ?_))))
 simp only[own,Bool.false_eq_true,if_false];show wpAny _ _ (if (Value.ref d==Value.none)=true then _ else _) _ _ s;rw[tJ (show ¬((Value.ref d==Value.none)=true)from gW)];refine tF (tG (tF (wpAny_dictEntries hod hdd ?_)));rw[tJ (by simp)];refine tF (tG (tF (wpAny_dictEpoch hod hdd ?_)));rw[tJ (by simp)];refine tG ?_;simp only[show ¬((i:Int)<0)from by omega,if_false,Int.toNat_natCast,Array.getElem?_eq_getElem hi];refine tF ?_;first | refine tF (wpAny_typeNameOfWhole_keyiter ty (tG (tF (wpAny_isOneOf_keyiter ty ?_)))) | refine tF (wpAny_typeNameOf_keyiter ty (tG (tF (wpAny_isOneOf_keyiter ty ?_))))
 show wpAny _ _ (setField (.ref it) 1 (rawInt ((i:Int)+1)) >>= _) _ _ s;have k':(s.heap.update it (Obj.mapFields (·.setIfInBounds 1 (rawInt ((i:Int)+1))))).IsKeyIter it d (i+1) es.size ep:=
  ⟨_,Heap.get?_update_self _ ho (Obj.isFreed_of_fields (Obj.data_mapFields hd _)),(Obj.cls_mapFields ..).trans hc,by rw[Obj.data_mapFields hd];simp [rawInt]⟩
 refine tF (wpAny_setField ho hd (by simp) (tF (wpAny_holding ?_)));refine tF (wpAny_isOneOf_keyiter (s:={ s with heap:=s.heap.update it (Obj.mapFields (·.setIfInBounds 1 (rawInt ((i:Int)+1)))) }) k'.typeIs ?_);show wpAny _ _ (pure es[i].key) _ _ _;exact tG (tG ⟨_,rfl,tG (q _ k' (Heap.SameBut.update ..))⟩)
theorem OQ{Q:Option Value->Shared->Prop}(hh:A.handled=none)(k:s.heap.IsKeyIter it d es.size es.size ep)(r:Raw s.heap d es ep)(q:∀h',Heap.ExtBut it s.heap h'->Q none { s with heap:=h' }):wpAny #[4] A (pyNext (.ref it)) Q E s:=by
 have ty:=k.typeIs;obtain⟨o,ho,hc,hd⟩:=id k;obtain⟨od,hod,hcd,hdd⟩:=id r;have own:Builtin.Dict_items.ownsTuple "dict_keyiterator" = false:=by decide
 unfold pyNext;refine tF (wpAny_attempt (wpAny_callSpecial?_slot (name:=Str.ofString "__next__") ty PySem.F.slot_dict_keyiterator_next (wpAny_call_entry PySem.F.slot_dict_keyiterator_next ty PySem.F.entry_dict_keyiterator_next ?_ (PySem.F.args_dict_keyiterator_next_1 _))));refine tF (tG (tF (tF ?_)));first | refine tF (wpAny_typeNameOfWhole_keyiter ty (tG (tF (wpAny_fieldsOf ho hd ?_)))) | refine tF (wpAny_typeNameOf_keyiter ty (tG (tF (wpAny_fieldsOf ho hd ?_))))
 simp only[own,Bool.false_eq_true,if_false];show wpAny _ _ (if (Value.ref d==Value.none)=true then _ else _) _ _ s;rw[tJ (show ¬((Value.ref d==Value.none)=true)from gW)];refine tF (tG (tF (wpAny_dictEntries hod hdd ?_)));rw[tJ (by simp)];refine tF (tG (tF (wpAny_dictEpoch hod hdd ?_)));rw[tJ (by simp)];refine tG ?_;simp only[show ¬((es.size:Int)<0)from by omega,if_false,Int.toNat_natCast,Array.getElem?_eq_none (nX es.size)];refine tF ?_;first | refine tF (wpAny_typeNameOfWhole_keyiter ty (tG ?_)) | refine tF (wpAny_typeNameOf_keyiter ty (tG ?_))
 show wpAny _ _ (setField (.ref it) 0 .none >>= _) _ _ s;refine tF (wpAny_setField ho hd (by simp) (show wpAny _ _ (newExc (.type "StopIteration") [] >>= _) _ _ _ from tF ?_));simp only[newExc,newTuple];refine tF (wpAny_newObj_type (tF (m:=firstArgMember _ _) (wpAny_of_eq (a:=Value.none) (by first | rfl | (simp only[firstArgMember];rfl)) (wpAny_newObj_type ?_ (by size_fits)))) (by size_fits));simp only[raiseNew];refine tF (wpAny_handled ?_);rw[show A.in1.handled=none from hh];refine tF (tG (wpAny_throw ?_));refine tF (wpAny_isInstance (b:=true) (T:="StopIteration") ⟨_,gT _ rfl,rfl⟩ isSubtype_stop ?_);exact tG (q _ (((Heap.SameBut.update ..).extBut.push _).push _))
theorem RY(hh:A.handled=none)(hne:d≠it):Walks prog w A it [it,d] [it] es.size (λi v=>∃h:i<es.size,v=es[i].key) (λi h=>h.IsKeyIter it d i es.size ep/\Raw h d es ep) where
 sub:=λb hb=>by simp at hb;simp [hb]
 frame:=λ_ _ _ st hk=>⟨st.1.at λo e=>hk it (by simp) o e,st.2.keep λo e=>hk d (by simp) o e⟩
 item:=λi s Q E hi st hQ=>JU st.1 st.2 hi λh' k' hs'=>hQ _ h' s.toks ⟨hi,rfl⟩ ⟨k',st.2.keep λo e=>hs'.extBut d o hne e⟩ λb o hb e=>hs'.extBut b o (λh=>hb (by simp [h])) e
 done:=λs Q E st hQ=>OQ hh st.1 st.2 λh' he'=>hQ h' s.toks λb o hb e=>he' b o (λh=>hb (by simp [h])) e
 self:=λ_ _ _ _ st hQ=>wpAny_pyIter_keyiter st.1 hQ
theorem OP(lo:(d==sysModules)=false):PySem.W.KdlSrc prog w "dict" d d es.size (λi v=>∃h:i<es.size,v=es[i].key) (λh=>Raw h d es ep) where
 type:=λ_ hm=>hm.ty
 there:=λ_ hm=>⟨hm.lt,hm.lt⟩
 keep:=λ_ _ hm hk=>hm.keep λo e=>hk d (.inl rfl) o e
 notList:=by decide
 notTuple:=by decide
 hint:=λ_ _ _ _ hm hq=>PySem.W.kdl_hint_dict hm.ty hq
 iter:=λ_ _ hh hm=>⟨_,_,(λ_ _ hq=>JV lo hm hq),RY hh (nO hm.lt),⟨⟨_,gT _ rfl,rfl,rfl⟩,hm.keep λo e=>gH _ e⟩⟩
end
end LwD
namespace LwD
open PySem PySem.W PySem.Spec PyProof.Rows
section
variable{prog:Program}{w:World}{A:Around}{E:Value->Shared->Prop}{s:Shared}
end
end LwD
namespace LwD
open PySem PySem.Spec PyProof.Rows L2 Lw
theorem ns_uniq{h:Heap}{a:Addr}{m m':Str->Option Value}(x:h.Ns a m)(y:h.Ns a m'):m=m':=by
 obtain⟨o,es,ep,ho,hd,hk,hm⟩:=x;obtain⟨o',es',ep',ho',hd',hk',hm'⟩:=y;rw[ho]at ho';cases ho';rw[hd]at hd';cases hd'
 funext z
 rw[<-hm z,<-hm' z]
theorem WQ{P:Program}{w:World}{H:Hp}{h:Heap}{a:Addr}{o:HO}(x:ObjOk P w H h a o):∃q,h.get? a=some q:=by
 cases o with
 | lst xs=>obtain⟨_,_,_,_,e⟩:=x;exact⟨_,e⟩
 | tup xs=>obtain⟨_,_,_,⟨q,e,_⟩,_⟩:=x;exact⟨_,e⟩
 | dK ah=>obtain⟨_,_,_,_,o,_,_,e,_⟩:=x;exact⟨_,e⟩
 | dT ah=>obtain⟨_,_,_,_,o,_,_,e,_⟩:=x;exact⟨_,e⟩
 | set S n=>obtain⟨o,_,_,_,e,_⟩:=x;exact⟨_,e⟩
 | ins C dx fs=>obtain⟨_,_,_,e,_⟩:=x;exact⟨_,e⟩
 | own y=>exact x
 | xd fs=>obtain⟨_,⟨_,_,_,e,_⟩,_⟩:=x;exact⟨_,e⟩
 | rng lo hi=>obtain⟨_,_,_,e⟩:=x;exact⟨_,e⟩
 | frz ob u=>exact⟨_,x.1⟩
 | tbl ps=>exact⟨_,x⟩
 | met f y=>exact⟨_,x⟩
 | ext φ=>exact x.2.1
section
variable{X:Cx}{ae:List (Addr×Obj)}{σ:L2.St}{H:Hp}{s:Shared}
theorem BG{D:Addr}{o:Obj}{ho:HO}{h3:Heap}{m:Str->Option Value}{tk:Nat}(I:Inv X ae σ H s)(F:Fr X.base X.env.locals s.heap m)(F3:Fr X.base X.env.locals h3 m)(N3:News X.base X.env.locals h3 ((D,o)::xJ X.base s.heap X.env.locals))
  (lt:∀q∈xJ X.base s.heap X.env.locals,q.1<D) (new:h3.get? D=some o->ObjOk X.prog X.w (upd H D ho) h3 D ho):H D=none/\Inv X ae σ (upd H D ho) { s with heap:=h3,toks:=tk } :=by
 have n1:=N3 (D,o) (gZ ..);have dn:s.heap.get? D=none:=by
  cases q:s.heap.get? D with
  | none=>rfl
  | some u=>exact absurd (lt _ (wC n1.2.1 n1.2.2 q)) (mY _)
 have Hn:H D=none:=by
  cases q:H D with
  | none=>rfl
  | some u=>
   obtain⟨z,e⟩:=WQ (I.hok D u q);rw[dn]at e;cases e
 have kp:∀b u,b≠X.env.locals->s.heap.get? b=some u->h3.get? b=some u:=λb u hb e=>by
  cases q:X.base.get? b with
  | some z=>
   have y:=I.bk b z q;rw[e]at y;cases y;exact F3.keep b _ q
  | none=>exact(N3 (b,u) (gN _ (wC hb q e))).1
 have ne:∀b u,s.heap.get? b=some u->b≠D:=λb u e z=>by rw[z,dn]at e;cases e
 have thr:∀b u,s.heap.get? b=some u->∃u',h3.get? b=some u':=λb u e=>by
  by_cases hb:b=X.env.locals
  ·obtain⟨u',_,_,e',_⟩:=F3.ns;exact⟨u',by rw[hb];exact e'⟩
  ·exact⟨u,kp b u hb e⟩
 refine⟨Hn,I.step (g':=s.gens) (d':=s.drawn) (ch:=[]) (λ_ z=>nomatch z) (λb u hb _ _ e _=>kp b u hb e) (λb u hb _ _ e _=>⟨u.slots,kp b u hb e⟩) (λb u _ e n=>?_) (λb u _ e=>thr b u e) (λb xs e=>?_) (λb u v e=>?_) (λb ps e=>?_) (λm' hm=>?_) (λb u e=>?_) I.bare⟩
 ·rw[jG (ne b u e)];exact n
 ·rw[jG (jQ e Hn)];exact e
 ·rw[jG (jQ e Hn)];exact e
 ·exact⟨#[],by rw[jG (jQ e Hn),e];simp⟩
 ·rw[ns_uniq hm F.ns];exact F3.ns
 ·by_cases hb:b=D
  ·subst hb;rw[jE]at e;cases e;exact new n1.1
  ·rw[jG hb]at e;refine(I.hok b u e).stay (λc v hc q=>kp c v (λz=>?_) q) (λc q=>by rw[jG (jQ q Hn)];exact q) λc xs q=>by rw[jG (jQ q Hn)];exact q
   rcases hc with y | y
   ·rw[<-y,z,I.free]at e;cases e
   ·rw[z,I.free]at y;cases y
end
section
variable{prog:Program}{w:World}{A:Around}{E:Value->Shared->Prop}{s:Shared}
theorem DV{a:Addr}{vs:List Value}{n:Nat}{Q:Value->Shared->Prop}(ho:s.heap.get? a=some (seqObj "list" vs.toArray n))(h2:vs.length<2)(q:Q .none { s with heap:=sortedHeap s.heap a vs vs.toArray }):wpAny #[4] A (call (.builtin "list.sort") [.ref a]) Q E s:=by
 refine wpAny_call_entry slot_list_sort ⟨_,ho,rfl⟩ entry_list_sort ?_ (args_list_sort _);rw[list_sort_plain];have ha:a<s.heap.objs.size:=nJ ho;obtain⟨e1,ho1⟩:∃e1,(s.heap.update a (Obj.mapSeq λ_=>#[])).get? a=some (seqObj "list" #[] e1):=⟨_,get?_update_seq ho (λ_=>#[])⟩;have ho6:(((s.heap.update a (Obj.mapSeq λ_=>#[])).push (seqObj "tuple" vs.toArray 0)).push (seqObj "list" #[] 0)).get? a=some (seqObj "list" #[] e1):=gH _ (gH _ ho1);have hz:vs.toArray.size<2:=by simpa using h2
 refine tF (listItems_at ho rfl (tF (listUpdate_at ho rfl (tF (seqEpoch_at ho1 rfl (tF (wpAny_newTuple (tF (wpAny_newList (wpAny_holding ?_))))))))));show wpAny #[4] _ _ _ E { s with heap:=((s.heap.update a (Obj.mapSeq λ_=>#[])).push (seqObj "tuple" vs.toArray 0)).push (seqObj "list" #[] 0) };dsimp only;rw[tK hz,tK hz];refine tF (tG ?_);rw[StateT.run_pure];refine tF (tG ?_);dsimp only;have hm:(arrOf (SortSt.mk' general' (vs.toArray.zip vs.toArray) #[] 7 none)).map (·.2)=vs.toArray:=by
  show(vs.toArray.zip vs.toArray).map (·.2)=vs.toArray;apply Array.ext';simp [List.map_snd_zip]
 refine tF (seqEpoch_at ho6 rfl (tF (listUpdate_at ho6 rfl ?_ (hsz2:=by rw[hm,sizeLine_eq];omega))));rw[hm];simp only[bne_self_eq_false,Bool.false_eq_true,if_false];exact tG ⟨_,rfl,q⟩
end
abbrev ik(ns:List Int):List Key:=ns.map Sum.inl
theorem yH(ns:List Int):(ik ns).map kV=ns.map V.int:=by
 unfold ik;rw[nT]
 rfl
section
variable{X:Cx}
end
theorem KTgetI{H:Hp}{ah:List (List Key×V)}{xs:List (List Key×Addr×Value)}(r:KT H ah xs):∀{j:Nat} {q:List Key×Addr×Value},xs[j]? = some q->∃v,ah[j]? = some (q.1,v)/\H q.2.1=some (.tup (q.1.map kV)):=by
 induction r with
 | nil=>intro j q e;simp at e
 | @cons p q' ps qs h t ih=>
  intro j q e;cases j with
  | zero=>
   simp only[List.getElem?_cons_zero,Option.some.injEq]at e;subst e;exact⟨p.2,by rw[<-h.1];rfl,by rw[<-h.1];exact h.2.1⟩
  | succ j=>
   simp only[List.getElem?_cons_succ]at e ⊢;exact ih e
def Keyed(H:Hp)(ys:List V)(zs:List (List Key×V)):Prop:=ys.length=zs.length/\∀(i:Nat) (y:V) (p:List Key×V),ys[i]? = some y->zs[i]? = some p->∃(b:Addr) (ns:List Int),y=.ref b/\H b=some (.tup (ns.map V.int))/\p.1=ik ns
theorem zE{α:Type}(l:List α)(d:α):(List.range l.length).map (λi=>l.getD i d)=l:=by
 apply List.ext_getElem
 ·simp
 ·intro i h1 h2;simp at h1;simp [h1]
end LwD
namespace L2
open PySem PySem.Spec PyProof.Rows
section
variable{prog:Program}{w:World}{A:Around}{E:Value->Shared->Prop}{s:Shared}
theorem nextT{it t:Addr}{k:Nat}{its:Array Value}{v:Value}{Q:Value->Shared->Prop}(st:s.heap.IsTupleIter it t k)(tu:s.heap.IsTuple t its)(hv:its[k]? = some v)
  (q:∀g,g.IsTupleIter it t (k+1)->Heap.SameBut it s.heap g->Q v { s with heap:=g }):wpAny #[4] A (Builtin.SmallTypes.nextOf (.ref it)) Q E s:=by
 obtain⟨oi,gi,ci,di⟩:=id st;obtain⟨ot,gt,_,nt,dt⟩:=tu;unfold Builtin.SmallTypes.nextOf;refine tF (wpAny_callSpecial?_slot (name:=Str.ofString "__next__") st.typeIs F.slot_tuple_iterator_next (wpAny_call_entry F.slot_tuple_iterator_next st.typeIs F.entry_tuple_iterator_next ?_ (F.args_tuple_iterator_next_1 _)));show wpAny _ _ (field (.ref it) 0 >>= _) _ _ _;refine tF (wpAny_field gi di (x:=.ref t) rfl ?_);show wpAny _ _ (if (Value.ref t==Value.none)=true then _ else _) _ _ _;rw[tJ (show ¬(Value.ref t==Value.none)=true from gW)];show wpAny _ _ (field (.ref it) 1 >>= _) _ _ _;refine tF (wpAny_field gi di (x:=.int k 0) rfl ?_);show wpAny _ _ (seqItems? (.ref t) >>= _) _ _ _;refine tF (wpAny_seqItems gt dt ?_);simp only[Int.toNat_natCast,hv];refine tF (wpAny_setField gi di (by simp) (tG ⟨v,rfl,tG (q _ ⟨_,Heap.get?_update_self _ gi (Obj.isFreed_of_fields (Obj.data_mapFields di _)),(Obj.cls_mapFields ..).trans ci,by rw[Obj.data_mapFields di];simp [rawInt]⟩ (Heap.SameBut.update ..))⟩))
theorem SO{it t:Addr}{k:Nat}{its:Array Value}{Q:Value->Shared->Prop}(hh:A.handled=none)(st:s.heap.IsTupleIter it t k)(tu:s.heap.IsTuple t its)(hv:its[k]? = none)
  (q:∀g e,Heap.ExtBut it s.heap g->(∃o,g.get? e=some o/\o.cls=.type "StopIteration")->E (.ref e) { s with heap:=g }):wpAny #[4] A (Builtin.SmallTypes.nextOf (.ref it)) Q E s:=by
 obtain⟨oi,gi,ci,di⟩:=id st;obtain⟨ot,gt,_,nt,dt⟩:=tu;unfold Builtin.SmallTypes.nextOf;refine tF (wpAny_callSpecial?_slot (name:=Str.ofString "__next__") st.typeIs F.slot_tuple_iterator_next (wpAny_call_entry F.slot_tuple_iterator_next st.typeIs F.entry_tuple_iterator_next ?_ (F.args_tuple_iterator_next_1 _)));show wpAny _ _ (field (.ref it) 0 >>= _) _ _ _;refine tF (wpAny_field gi di (x:=.ref t) rfl ?_);show wpAny _ _ (if (Value.ref t==Value.none)=true then _ else _) _ _ _;rw[tJ (show ¬(Value.ref t==Value.none)=true from gW)];show wpAny _ _ (field (.ref it) 1 >>= _) _ _ _;refine tF (wpAny_field gi di (x:=.int k 0) rfl ?_);show wpAny _ _ (seqItems? (.ref t) >>= _) _ _ _;refine tF (wpAny_seqItems gt dt ?_);simp only[Int.toNat_natCast,hv];refine tF (wpAny_rule (tF (wpAny_setField gi di (by simp) ?_)));show wpAny _ _ (newExc (.type "StopIteration") [] >>= _) _ _ _;refine tF ?_;simp only[newExc,newTuple];refine tF (wpAny_newObj_type ?_ (by size_fits));refine tF (m:=firstArgMember _ _) (wpAny_of_eq (a:=Value.none) (by first | rfl | (simp only[firstArgMember];rfl)) ?_);refine wpAny_newObj_type ?_ (by size_fits);simp only[raiseNew];refine tF (wpAny_handled ?_);first | rw[show A.in1.handled=none from hh] | rw[hh]
 exact tF (tG (wpAny_throw (q _ _ (((Heap.SameBut.update ..).extBut.push _).push _) ⟨_,gT _ rfl,rfl⟩)))
theorem IsTupleIter.as{h h':Heap}{a t:Addr}{k:Nat}(x:h.IsTupleIter a t k)(f:∀o,h.get? a=some o->h'.get? a=some o):h'.IsTupleIter a t k:=let ⟨o,ho,r⟩:=x;⟨o,f o ho,r⟩
structure Src(prog:Program)(w:World)(i:Addr) where
 at_:Nat->Heap->Prop
 has:List V->Heap->Prop
 dep:List Addr
 next:∀{xs:List V} {A:Around} {E:Value->Shared->Prop} {s:Shared} {k:Nat} {x:V} {Q:Value->Shared->Prop},at_ k s.heap->has xs s.heap->xs[k]? = some x->(∀g (t:Nat) u,RelV x u->at_ (k+1) g->Heap.SameBut i s.heap g->Q u { s with heap:=g,toks:=t })->wpAny #[4] A (Builtin.SmallTypes.nextOf (.ref i)) Q E s
 stop:∀{xs:List V} {A:Around} {E:Value->Shared->Prop} {s:Shared} {k:Nat} {Q:Value->Shared->Prop},A.handled=none->at_ k s.heap->has xs s.heap->xs[k]? = none->(∀g e,Heap.ExtBut i s.heap g->(∃o,g.get? e=some o/\o.cls=.type "StopIteration")->E (.ref e) { s with heap:=g })->wpAny #[4] A (Builtin.SmallTypes.nextOf (.ref i)) Q E s
 atk:∀{k:Nat} {h h':Heap},at_ k h->(∀o,h.get? i=some o->h'.get? i=some o)->at_ k h'
 hask:∀{xs:List V} {h h':Heap},has xs h->(∀c∈dep,∀o,h.get? c=some o->h'.get? c=some o)->has xs h'
 obj:∀{k:Nat} {h:Heap},at_ k h->∃o,h.get? i=some o/\∀v,o.data≠.cell v
structure Five(z TI TO i1 i2:Addr):Prop where
 nd:[z,TI,TO,i1,i2].Nodup
structure ZG(z TI TO:Addr){i1 i2:Addr}(S1:Src prog w i1)(S2:Src prog w i2)(k:Nat)(h:Heap):Prop where
 zz:IsZip h z TI TO .none
 ti:IsPair h TI (.ref i1) (.ref i2)
 to:∃a b,IsPair h TO a b
 one:S1.at_ k h
 two:S2.at_ k h
structure ZA(z TI TO i1 i2:Addr)(d:List Addr):Prop where
 TIz:TI≠z
 TOz:TO≠z
 i1z:i1≠z
 i2z:i2≠z
 TITO:TI≠TO
 TIi1:TI≠i1
 TIi2:TI≠i2
 TOi1:TO≠i1
 TOi2:TO≠i2
 i12:i1≠i2
 dz:∀l∈d,l≠z/\l≠TO/\l≠i1
theorem Five.za{z TI TO i1 i2:Addr}{d:List Addr}(F:Five z TI TO i1 i2)(h:∀b∈[z,TI,TO,i1,i2],b∉d):ZA z TI TO i1 i2 d:=by
 have nd:=F.nd;simp only[List.nodup_cons,mX,not_or,mF]at nd;obtain⟨⟨a1,a2,a3,a4,_⟩,⟨b1,b2,b3,_⟩,⟨c1,c2,_⟩,⟨d1,_⟩,_⟩:=nd;exact⟨Ne.symm a1,Ne.symm a2,Ne.symm a3,Ne.symm a4,b1,b2,b3,c1,c2,d1,λl hl=>⟨λe=>h z (by simp) (e▸hl),λe=>h TO (by simp) (e▸hl),λe=>h i1 (by simp) (e▸hl)⟩⟩
variable{z TI TO i1 i2:Addr}{S1:Src prog w i1}{S2:Src prog w i2}{k:Nat}{xs ys:List V}
theorem RH{x y:V}{Q:Option Value->Shared->Prop}(D:ZA z TI TO i1 i2 (S1.dep++S2.dep))(Z:ZG z TI TO S1 S2 k s.heap)(t1:S1.has xs s.heap)(t2:S2.has ys s.heap)(hx:xs[k]? = some x)(hy:ys[k]? = some y)
  (q:∀g (t:Nat) u v,RelV x u->RelV y v->IsZip g z TI TO (rawInt s.heap.objs.size)->IsPair g TO u v->S1.at_ (k+1) g->S2.at_ (k+1) g->IsPair g s.heap.objs.size u v->
   (∀c o,c∉[z,TO,i1,i2]->s.heap.get? c=some o->g.get? c=some o)->Q (some (.ref s.heap.objs.size)) { s with heap:=g,toks:=t }):wpAny #[4] A (pyNext (.ref z)) Q E s:=by
 obtain⟨hz,hti,⟨a,b,hto⟩,s1,s2⟩:=Z;have T:s.TypeIs (.ref z) "zip":=⟨_,hz,rfl⟩;have D1:∀c∈S1.dep,c≠z/\c≠TO/\c≠i1:=λc hc=>D.dz c (List.mem_append_left _ hc);have D2:∀c∈S2.dep,c≠z/\c≠TO/\c≠i1:=λc hc=>D.dz c (gJ _ hc);unfold pyNext;refine tF (wpAny_attempt (wpAny_callSpecial?_slot (name:=Str.ofString "__next__") T F.slot_zip_next (wpAny_call_entry F.slot_zip_next T F.entry_zip_next ?_ (F.args_zip_next_1 _))));show wpAny _ _ (field (.ref z) 2 >>= _) _ _ _;refine tF (wpAny_field hz rfl (x:=.bool false) rfl ?_);show wpAny _ _ (field (.ref z) 3 >>= _) _ _ _;refine tF (wpAny_field hz rfl (x:=.ref TI) rfl (tF (wpAny_seqItems hti rfl ?_)));show wpAny _ _ (Builtin.SmallTypes.ownedTupleIsFree (.ref z) >>= _) _ _ _;refine tF ?_;unfold Builtin.SmallTypes.ownedTupleIsFree;refine tF (wpAny_field hz rfl (x:=.none) rfl (tG ?_));simp only[if_true];refine tF (wpAny_rule (tF (wpAny_field hz rfl (x:=.ref TO) rfl (tF (wpAny_setField_rec hz (by simp) λg1 z1 b1=>?_)))))
 replace z1:IsZip g1 z TI TO .ellipsis:=z1
 refine tF ?_;simp only[List.zipIdx_cons,List.zipIdx_nil,List.forIn_cons,List.forIn_nil];refine tF (tF (wpAny_onRaise ?_));show wpAny _ _ (Builtin.SmallTypes.nextOf (.ref i1) >>= _) _ _ _;refine tF (S1.next (S1.atk s1 λo e=>b1.extBut _ _ D.i1z e) (S1.hask t1 λc hc o e=>b1.extBut _ _ (D1 c hc).1 e) hx λg2 tk2 u ru n2 b2=>tG ?_);have o2:IsPair g2 TO a b:=b2.extBut _ _ D.TOi1 (b1.extBut _ _ D.TOz hto);refine tF (wpAny_seqItems o2 rfl (tF (wpAny_updateSeq_pair o2 λg3 o3 b3=>?_)))
 replace o3:IsPair g3 TO u b:=o3
 refine tF (wpAny_letGo (tG (tF (tF (wpAny_onRaise ?_)))));show wpAny _ _ (Builtin.SmallTypes.nextOf (.ref i2) >>= _) _ _ _;refine tF (S2.next (S2.atk s2 λo e=>b3.extBut _ _ D.TOi2.symm (b2.extBut _ _ D.i12.symm (b1.extBut _ _ D.i2z e))) (S2.hask t2 λc hc o e=>b3.extBut _ _ (D2 c hc).2.1 (b2.extBut _ _ (D2 c hc).2.2 (b1.extBut _ _ (D2 c hc).1 e))) hy λg4 tk4 v rv n4 b4=>tG ?_);have o4:IsPair g4 TO u b:=b4.extBut _ _ D.TOi2 o3;refine tF (wpAny_seqItems o4 rfl (tF (wpAny_updateSeq_pair o4 λg5 o5 b5=>?_)))
 replace o5:IsPair g5 TO u v:=o5
 refine tF (wpAny_letGo (tG (tG (tF (wpAny_seqItems o5 rfl (tF (wpAny_newTuple ?_)))))));have sz:g5.objs.size=s.heap.objs.size:=by rw[b5.1,b4.1,b3.1,b2.1,b1.1]
 have z5:IsZip g5 z TI TO .ellipsis:=b5.extBut _ _ D.TOz.symm (b4.extBut _ _ D.i2z.symm (b3.extBut _ _ D.TOz.symm (b2.extBut _ _ D.i1z.symm z1)));have k5:∀c o,c∉[z,TO,i1,i2]->s.heap.get? c=some o->g5.get? c=some o:=λc o hc e=>by
  simp only[mX,not_or]at hc;exact b5.extBut _ _ hc.2.1 (b4.extBut _ _ hc.2.2.2.1 (b3.extBut _ _ hc.2.1 (b2.extBut _ _ hc.2.2.1 (b1.extBut _ _ hc.1 e))))
 have zl:z<g5.objs.size:=nJ z5;show wpAny _ _ (Builtin.SmallTypes.ownedTupleHandOut (.ref z) (.ref g5.objs.size) >>= _) _ _ _;refine tF ?_;unfold Builtin.SmallTypes.ownedTupleHandOut;have z6:IsZip (g5.push { cls:=.type "tuple",data:=.seq #[u,v] }) z TI TO .ellipsis:=gH _ z5;refine tF (wpAny_setField_rec z6 (by simp) λg7 z7 b7=>?_)
 replace z7:IsZip g7 z TI TO (rawInt g5.objs.size):=z7
 refine wpAny_setField_rec z7 (by simp) λg8 z8 b8=>?_
 replace z8:IsZip g8 z TI TO (rawInt g5.objs.size):=z8
 have up:∀c o,c≠z->g5.get? c=some o->g8.get? c=some o:=λc o cz e=>b8.extBut _ _ cz (b7.extBut _ _ cz (gH _ e));have nu:IsPair g8 g5.objs.size u v:=b8.extBut _ _ (Nat.ne_of_gt zl) (b7.extBut _ _ (Nat.ne_of_gt zl) (gT _ rfl));rw[sz]at z8 nu;refine tG ⟨_,rfl,tG ?_⟩;show Q (some (.ref g5.objs.size)) _;rw[sz];exact q g8 tk4 u v ru rv z8 (up _ _ D.TOz o5) (S1.atk n2 λo e=>up _ o D.i1z (b5.extBut _ _ D.TOi1.symm (b4.extBut _ _ D.i12 (b3.extBut _ _ D.TOi1.symm e)))) (S2.atk n4 λo e=>up _ o D.i2z (b5.extBut _ _ D.TOi2.symm e)) nu λc o hc e=>up c o (λh=>hc (by simp [h])) (k5 c o hc e)
theorem UF{Q:Option Value->Shared->Prop}(hh:A.handled=none)(D:ZA z TI TO i1 i2 (S1.dep++S2.dep))(Z:ZG z TI TO S1 S2 k s.heap)(t1:S1.has xs s.heap)(t2:S2.has ys s.heap)(he:xs[k]? = none∨ys[k]? = none)
  (q:∀g (tk:Nat),(∀c o,c∉[z,TO,i1,i2]->s.heap.get? c=some o->g.get? c=some o)->Q none { s with heap:=g,toks:=tk }):wpAny #[4] A (pyNext (.ref z)) Q E s:=by
 obtain⟨hz,hti,⟨a,b,hto⟩,s1,s2⟩:=Z;have T:s.TypeIs (.ref z) "zip":=⟨_,hz,rfl⟩;have D1:∀c∈S1.dep,c≠z/\c≠TO/\c≠i1:=λc hc=>D.dz c (List.mem_append_left _ hc);have D2:∀c∈S2.dep,c≠z/\c≠TO/\c≠i1:=λc hc=>D.dz c (gJ _ hc);unfold pyNext;refine tF (wpAny_attempt (wpAny_callSpecial?_slot (name:=Str.ofString "__next__") T F.slot_zip_next (wpAny_call_entry F.slot_zip_next T F.entry_zip_next ?_ (F.args_zip_next_1 _))));have fin:∀g (tk:Nat) (e:Addr),(∀c o,c∉[z,TO,i1,i2]->s.heap.get? c=some o->g.get? c=some o)->(∃o,g.get? e=some o/\o.cls=.type "StopIteration")->
   wpAny #[4] A (do if (<-isInstance (.ref e) (.type "StopIteration"))then pure none else throw (.ref e)) Q E { s with heap:=g,toks:=tk } :=λg tk e hk ⟨o,ho,hc⟩=>
  tF (wpAny_isInstance (T:="StopIteration") (b:=true) ⟨o,ho,hc⟩ isSubtype_stop (tG (q _ tk hk)))
 show wpAny _ _ (field (.ref z) 2 >>= _) _ _ _;refine tF (wpAny_field hz rfl (x:=.bool false) rfl ?_);show wpAny _ _ (field (.ref z) 3 >>= _) _ _ _;refine tF (wpAny_field hz rfl (x:=.ref TI) rfl (tF (wpAny_seqItems hti rfl ?_)));show wpAny _ _ (Builtin.SmallTypes.ownedTupleIsFree (.ref z) >>= _) _ _ _;refine tF ?_;unfold Builtin.SmallTypes.ownedTupleIsFree;refine tF (wpAny_field hz rfl (x:=.none) rfl (tG ?_));simp only[if_true];refine tF (wpAny_rule (tF (wpAny_field hz rfl (x:=.ref TO) rfl (tF (wpAny_setField_rec hz (by simp) λg1 z1 b1=>?_)))))
 replace z1:IsZip g1 z TI TO .ellipsis:=z1
 refine tF ?_;simp only[List.zipIdx_cons,List.zipIdx_nil,List.forIn_cons,List.forIn_nil];refine tF (tF (wpAny_onRaise ?_));show wpAny _ _ (Builtin.SmallTypes.nextOf (.ref i1) >>= _) _ _ _;have h1:=S1.atk s1 λo e=>b1.extBut _ _ D.i1z e;have h2:=S1.hask t1 λc hc o e=>b1.extBut _ _ (D1 c hc).1 e;cases hx:xs[k]? with
 | none=>
  refine tF (S1.stop hh h1 h2 hx λg2 e b2 ⟨oe,he,ce⟩=>?_);have z2:IsZip g2 z TI TO .ellipsis:=b2 _ _ D.i1z.symm z1;have ez:e≠z:=λh=>by subst h;rw[z2]at he;cases he;simp at ce
  refine wpAny_setField_rec z2 (by simp) λg3 _ b3=>fin g3 _ e (λc o hc h=>?_) ⟨oe,b3.extBut _ _ ez he,ce⟩;simp only[mX,not_or]at hc;exact b3.extBut _ _ hc.1 (b2 _ _ hc.2.2.1 (b1.extBut _ _ hc.1 h))
 | some x=>
  have hy:ys[k]? = none:=he.resolve_left (by rw[hx];simp);refine tF (S1.next h1 h2 hx λg2 tk2 u ru n2 b2=>tG ?_);have o2:IsPair g2 TO a b:=b2.extBut _ _ D.TOi1 (b1.extBut _ _ D.TOz hto);refine tF (wpAny_seqItems o2 rfl (tF (wpAny_updateSeq_pair o2 λg3 o3 b3=>?_)));refine tF (wpAny_letGo (tG (tF (tF (wpAny_onRaise ?_)))));show wpAny _ _ (Builtin.SmallTypes.nextOf (.ref i2) >>= _) _ _ _;refine tF (S2.stop hh (S2.atk s2 λo e=>b3.extBut _ _ D.TOi2.symm (b2.extBut _ _ D.i12.symm (b1.extBut _ _ D.i2z e))) (S2.hask t2 λc hc o e=>b3.extBut _ _ (D2 c hc).2.1 (b2.extBut _ _ (D2 c hc).2.2 (b1.extBut _ _ (D2 c hc).1 e))) hy λg4 e b4 ⟨oe,he,ce⟩=>?_);have z4:IsZip g4 z TI TO .ellipsis:=b4 _ _ D.i2z.symm (b3.extBut _ _ D.TOz.symm (b2.extBut _ _ D.i1z.symm z1));have ez:e≠z:=λh=>by subst h;rw[z4]at he;cases he;simp at ce
  refine wpAny_setField_rec z4 (by simp) λg5 _ b5=>fin g5 _ e (λc o hc h=>?_) ⟨oe,b5.extBut _ _ ez he,ce⟩;simp only[mX,not_or]at hc;exact b5.extBut _ _ hc.1 (b4 _ _ hc.2.2.2.1 (b3.extBut _ _ hc.2.1 (b2.extBut _ _ hc.2.2.1 (b1.extBut _ _ hc.1 h))))
def Itr0(prog:Program)(w:World)(v:Value)(o:Obj)(h:Heap):Prop:=∀{A:Around} {E:Value->Shared->Prop} {s:Shared} {Q:Value->Shared->Prop},s.heap=h->Q (.ref h.objs.size) { s with heap:=h.push o }->wpAny #[4] A (pyIter v) Q E s
theorem TY{v1 v2:Value}{o1 o2:Obj}{Q:Value->Shared->Prop}(p1:Itr0 prog w v1 o1 s.heap)(p2:Itr0 prog w v2 o2 (s.heap.push o1))(f1:o1.isFreed=false)(f2:o2.isFreed=false)
  (q:∀g,(∀c o,s.heap.get? c=some o->g.get? c=some o)->IsZip g (s.heap.objs.size+4) (s.heap.objs.size+2) (s.heap.objs.size+3) .none->IsPair g (s.heap.objs.size+2) (.ref s.heap.objs.size) (.ref (s.heap.objs.size+1))->(∃a b,IsPair g (s.heap.objs.size+3) a b)->g.get? s.heap.objs.size=some o1->g.get? (s.heap.objs.size+1)=some o2->Q (.ref (s.heap.objs.size+4)) { s with heap:=g }) :
  wpAny #[4] A (call (.type "zip") [v1,v2]) Q E s:=by
 refine callType_newIn (S:=λ_ R s'=>s'=s/\∀g,(∀c o,s.heap.get? c=some o->g.get? c=some o)->IsZip g (s.heap.objs.size+4) (s.heap.objs.size+2) (s.heap.objs.size+3) .none->IsPair g (s.heap.objs.size+2) (.ref s.heap.objs.size) (.ref (s.heap.objs.size+1))->(∃a b,IsPair g (s.heap.objs.size+3) a b)->g.get? s.heap.objs.size=some o1->g.get? (s.heap.objs.size+1)=some o2->R (.ok (.ret (.ref (s.heap.objs.size+4)))) { s with heap:=g }) F.called_zip #[1] (F.typeCall_zip_2 _ _) (F.newCall_zip_2 _ _) (λobj=>F.args_object_init_3 obj _ _) F.entry_zip_new (λA R s' h=>?_) ⟨rfl,λg k zz ti to e1 e2=>⟨⟨_,zz,rfl⟩,q g k zz ti to e1 e2⟩⟩;obtain⟨rfl,h⟩:=h;refine tH (Q:=λfin s'=>∃v,fin=.done (.ret v)/\R (.ok (.ret v)) s') ?_ (λfin s' h'=>by obtain⟨v,rfl,hv⟩:=h';exact hv) λ_ _ x=>x;obtain⟨hp,gs,d,tk,os⟩:=s';have hsub:=sub_zip;have P1:∀{A:Around} {E:Value->Shared->Prop} {Q:Value->Shared->Prop},Q (.ref hp.objs.size) ⟨hp.push o1,gs,d,tk,os⟩->wpAny #[4] A (pyIter v1) Q E ⟨hp,gs,d,tk,os⟩:=λq=>p1 rfl q;have P2:∀{A:Around} {E:Value->Shared->Prop} {Q:Value->Shared->Prop},Q (.ref (hp.push o1).objs.size) ⟨(hp.push o1).push o2,gs,d,tk,os⟩->wpAny #[4] A (pyIter v2) Q E ⟨hp.push o1,gs,d,tk,os⟩:=λq=>p2 rfl q
 wp_walk using P1,P2
 have e1:=λo=>mV hp (o:=o);refine⟨_,rfl, ?_⟩;simp only[mV]at h ⊢;refine h _ (λc o e=>gH _ (gH _ (gH _ (gH _ (gH _ e))))) ?_ ?_ ?_ ?_ ?_
 ·have e:=gT ((((hp.push o1).push o2).push { cls:=.type "tuple",data:=.seq #[.ref hp.objs.size,.ref (hp.objs.size+1)] }).push { cls:=.type "tuple",data:=.seq #[.none,.none] }) (o:={ cls:=.type "zip",data:=.fields #[.none,.bool false,.bool false,.ref (hp.objs.size+2),.ref (hp.objs.size+3)] }) rfl;simp only[mV]at e;exact e
 ·have e:=gT ((hp.push o1).push o2) (o:={ cls:=.type "tuple",data:=.seq #[.ref hp.objs.size,.ref (hp.objs.size+1)] }) rfl;simp only[mV]at e;exact gH _ (gH _ e)
 ·have e:=gT (((hp.push o1).push o2).push { cls:=.type "tuple",data:=.seq #[.ref hp.objs.size,.ref (hp.objs.size+1)] }) (o:={ cls:=.type "tuple",data:=.seq #[.none,.none] }) rfl;simp only[mV]at e;exact⟨_,_,gH _ e⟩
 ·exact gH _ (gH _ (gH _ (gH _ (gT hp f1))))
 ·have e:=gT (hp.push o1) (o:=o2) f2;simp only[mV]at e;exact gH _ (gH _ (gH _ e))
end
section
variable{X:Cx}{ae:List (Addr×Obj)}{σ:St}{H:Hp}{s:Shared}{h':Heap}
theorem Inv.turnedL{t':Nat}{fp:List Addr}(I:Inv X ae σ H s)(hf:∀b∈fp,FpOk X ae H b)(k:∀b o,b∉fp->s.heap.get? b=some o->h'.get? b=some o):Inv X ae σ H { s with heap:=h',toks:=t' } :=by
 have nit:∀b u,H b=some u->b∉fp:=λb u e z=>by rw[(hf b z).1]at e;cases e
 refine I.step (g':=s.gens) (d':=s.drawn) (ch:=fp) (λb hb=>⟨(hf b hb).2.2.2.1,(hf b hb).2.1,(hf b hb).2.2.2.2.1,(hf b hb).2.2.2.2.2⟩) (λb o _ _ hc e _=>k b o hc e) (λb o _ _ hc e _=>⟨o.slots,k b o hc e⟩) (λ_ _ _ _ n=>n)
  (λb o hc e=>⟨o,k b o hc e⟩) (λ_ _ e=>e) (λ_ _ _ e=>e) (λb ps e=>⟨#[],by rw[e];simp⟩) (λm ⟨o,es,ep,ho,r⟩=>⟨o,es,ep,k _ o (λz=>(hf _ z).2.1 rfl) ho,r⟩) (λb u e=>?_) I.bare
 refine(I.hok b u e).stay (λc v hc q=>k c v ?_ q) (λ_ q=>q) λ_ _ q=>q;rcases hc with z | z
 ·rw[z];exact nit b u e
 ·exact nit c _ z
theorem FpOk.apart{a b:Addr}{xs:List V}(I:Inv X ae σ H s)(f:FpOk X ae H b)(h:SqT X.K H a xs):a≠b:=by
 rintro rfl;rcases h with(h | ⟨o,h⟩) | ⟨o,its,n,hk,hc,hs,hz,r⟩
 ·rw[f.1]at h;cases h
 ·rw[f.1]at h;cases h
 ·have hb:X.base.get? a=some o:=I.ok.mod.kin a o hk;rcases f.2.2.2.1 with z | z
  ·exact I.ok.noex a o hb z
  ·exact absurd (gX (nJ hb) (nN I.ok.bsz z)) (mY _)
end
structure SrcJ(P:Program)(w:World)(K:tL){i1 i2:Addr}(S1:Src P w i1)(S2:Src P w i2)(J:It):Prop where
 go:∀(X:Cx),X.prog=P->X.w=w->X.K=K->∀{i:Nat} {ae:List (Addr×Obj)} {s:Shared} {σ:St} {H:Hp},Inv X ae σ H s->J.go i H->∃xs ys x y,S1.has xs s.heap/\S2.has ys s.heap/\xs[i]? = some x/\ys[i]? = some y/\(∀b,FpOk X ae H b->b∉S1.dep++S2.dep)/\∀p,H p=none->J.yld i H (.ref p) (upd H p (.tup [x,y]))
 stop:∀(X:Cx),X.prog=P->X.w=w->X.K=K->∀{i:Nat} {ae:List (Addr×Obj)} {s:Shared} {σ:St} {H:Hp},Inv X ae σ H s->J.stop i H->∃xs ys,S1.has xs s.heap/\S2.has ys s.heap/\(xs[i]? = none∨ys[i]? = none)/\∀b,FpOk X ae H b->b∉S1.dep++S2.dep
theorem ZG.objs{P:Program}{w:World}{z TI TO i1 i2:Addr}{S1:Src P w i1}{S2:Src P w i2}{i:Nat}{h:Heap}(Z:ZG z TI TO S1 S2 i h):∀b∈[z,TI,TO,i1,i2],∃o,h.get? b=some o/\∀v,o.data≠.cell v:=λb hb=>by
 simp only[mX,mF,or_false]at hb;obtain⟨hz,hti,⟨a,c,hto⟩,s1,s2⟩:=Z;rcases hb with rfl | rfl | rfl | rfl | rfl
 ·exact⟨_,hz,λv q=>by cases (show Data.fields _=Data.cell v from q)⟩
 ·exact⟨_,hti,λv q=>by cases (show Data.seq _ _=Data.cell v from q)⟩
 ·exact⟨_,hto,λv q=>by cases (show Data.seq _ _=Data.cell v from q)⟩
 ·exact S1.obj s1
 ·exact S2.obj s2
theorem RJ{P:Program}{w:World}{K:tL}{es:List Expr}{x1}{pos:Pos}{z TI TO i1 i2:Addr}{S1:Src P w i1}{S2:Src P w i2}{J:It}(SJ:SrcJ P w K S1 S2 J)(F:Five z TI TO i1 i2):Turn P w K (.Tuple es x1 pos) J [z,TI,TO,i1,i2] z (λi h=>ZG z TI TO S1 S2 i h) where
 mem:=by simp
 obj:=λi h Z=>Z.objs
 keep:=λi h h' Z k=>by
  obtain⟨hz,hti,⟨a,c,hto⟩,s1,s2⟩:=Z;exact⟨k z (by simp) _ hz,k TI (by simp) _ hti,⟨a,c,k TO (by simp) _ hto⟩,S1.atk s1 λo e=>k i1 (by simp) o e,S2.atk s2 λo e=>k i2 (by simp) o e⟩
 item:=by
  intro X hP hw hK hc i ae s σ H E I hf Z hg;obtain⟨xs,ys,x,y,t1,t2,hx,hy,dp,yl⟩:=SJ.go X hP hw hK I hg;subst hP hw hK;have D:=F.za (λb hb=>dp b (hf b hb));refine RH D Z t1 t2 hx hy λg t u1 u2 ru1 ru2 z1 to1 n1 n2 nu kk=>⟨_,rfl, ?_⟩;refine wpAny_letOwnedTupleGo_zip z1 λg2 z2 sb=>?_;have fr:H s.heap.objs.size=none:=I.hok.fresh uU ;have fp:∀b∈[z,TI,TO,i1,i2],FpOk X ae (upd H s.heap.objs.size (.tup [x,y])) b:=λb hb=>by
   obtain⟨o,ho,_⟩:=Z.objs b hb;exact⟨by rw[jG (nO (nJ ho))];exact(hf b hb).1,(hf b hb).2⟩
  have I1:Inv X ae σ (upd H s.heap.objs.size (.tup [x,y])) { s with heap:=s.heap.push { cls:=.type "tuple",data:=.seq #[u1,u2] },toks:=t } :=I.laid (t':=t) (λb u e=>gH _ e) uU ⟨by simp [sizeLine],[u1,u2],.cons ru1 (.cons ru2 .nil),⟨_,gT _ rfl,rfl,_,rfl⟩,.of (gT _ rfl) rfl⟩;have up:∀c o,c≠z->g.get? c=some o->g2.get? c=some o:=λc o cz e=>sb.extBut _ _ cz e;have zs:z≠s.heap.objs.size:=nO (nJ Z.zz);have I2:Inv X ae σ (upd H s.heap.objs.size (.tup [x,y])) { s with heap:=g2,toks:=t } :=by
   refine Inv.turnedL (s:={ s with heap:=s.heap.push { cls:=.type "tuple",data:=.seq #[u1,u2] },toks:=t }) (h':=g2) (t':=t) I1 fp λb o hb e=>?_;have bz:b≠z:=λh=>hb (by simp [h]);rcases Heap.get?_push_cases e with⟨e1,e2⟩ | e1
   ·rw[e1,e2];exact up _ _ (Ne.symm zs) nu
   ·exact up _ _ bz (kk b o (λh=>hb (by simp only[mX,mF,or_false]at h ⊢;rcases h with h | h | h | h<;>simp [h])) e1)
  exact⟨.ref s.heap.objs.size,_,I2,rfl,yl _ fr,⟨z2,up _ _ D.TIz (kk _ _ (by simp [D.TIz,D.TITO,D.TIi1,D.TIi2]) Z.ti),⟨_,_,up _ _ D.TOz to1⟩,S1.atk n1 λo e=>up _ o D.i1z e,S2.atk n2 λo e=>up _ o D.i2z e⟩,λb hb=>(fp b hb).1⟩
 done:=by
  intro X hP hw hK hc i ae s σ H E I hf Z hg;obtain⟨xs,ys,t1,t2,he,dp⟩:=SJ.stop X hP hw hK I hg;subst hP hw hK;exact UF (I.ok.hd hc) (F.za (λb hb=>dp b (hf b hb))) Z t1 t2 he λg tk kk=>⟨rfl,Inv.turnedL (t':=tk) I hf λb o hb e=>kk b o (λh=>hb (by simp only[mX,mF,or_false]at h ⊢;rcases h with h | h | h | h<;>simp [h])) e⟩
 self:=λ_ _ _ _ _ Z h=>wpAny_pyIter_zip Z.zz h
section
variable{X:Cx}
theorem pie_zip{es:List Expr}{x1}{tp:Pos}{J:It}{v1 v2:Value}{o1 o2:Obj}{ae:List (Addr×Obj)}{s:Shared}{σ:St}{H:Hp}{R:It->Hp->Prop}{A:Around}{E:Value->Shared->Prop}(I:Inv X ae σ H s)(p1:Itr0 X.prog X.w v1 o1 s.heap)(p2:Itr0 X.prog X.w v2 o2 (s.heap.push o1))(f1:o1.isFreed=false)(f2:o2.isFreed=false)
  (S1:Src X.prog X.w s.heap.objs.size) (S2:Src X.prog X.w (s.heap.objs.size+1)) (a1:∀g,g.get? s.heap.objs.size=some o1->S1.at_ 0 g) (a2:∀g,g.get? (s.heap.objs.size+1)=some o2->S2.at_ 0 g) (SJ:SrcJ X.prog X.w X.K S1 S2 J) (q:R J H):wpAny #[2] A (call (.type "zip") [v1,v2]) (λv s2=>wpAny #[2] A (pyIter v) (PIE X ae σ (.Tuple es x1 tp) R) E s2) E s:=by
 refine TY p1 p2 f1 f2 λg k zz ti to e1 e2=>wpAny_pyIter_zip zz ?_;refine⟨_,_,_,_,H,rfl,I.kept (t':=s.toks) k,RJ SJ ⟨by simp⟩,⟨zz,ti,to,a1 g e1,a2 g e2⟩,λb hb=>?_,q⟩;have hb':s.heap.objs.size<=b:=by
  simp only[mX,mF,or_false]at hb;rcases hb with rfl | rfl | rfl | rfl | rfl<;>first | exact Nat.le_add_right _ _ | exact nX _
 exact I.fpOk hb' (I.hok.fresh hb')
end
def UP(a:Addr):Obj:={ cls:=.type "tuple_iterator",data:=.fields #[.ref a,.int 0 0] }
def RP(prog:Program)(w:World)(i l:Addr):Src prog w i where
 at_ k h:=h.IsTupleIter i l k
 has xs h:=∃its,h.IsTuple l (List.toArray its)/\Vals xs its
 dep:=[l]
 next st hs hx q:=by
  obtain⟨its,t,r⟩:=hs;obtain⟨u,hu,ru⟩:=r.get hx;exact nextT st t (by simpa using hu) λg n b=>q g _ u ru n b
 stop hh st hs hx q:=by
  obtain⟨its,t,r⟩:=hs;exact SO hh st t (by have:=r.length;have:=List.getElem?_eq_none_iff.mp hx;simp;omega) q
 atk x f:=IsTupleIter.as x f
 hask x f:=let ⟨its,⟨o,h1,h2⟩,r⟩:=x;⟨its,⟨o,f l (gY.mpr rfl) o h1,h2⟩,r⟩
 obj x:=let ⟨o,h1,_,d⟩:=x;⟨o,h1,λv q=>by rw[d]at q;cases q⟩
theorem Inv.hasT{X:Cx}{ae:List (Addr×Obj)}{s:Shared}{σ:St}{H:Hp}{a i:Addr}{xs:List V}(I:Inv X ae σ H s)(h:SqT X.K H a xs):(RP X.prog X.w i a).has xs s.heap:=by
 obtain⟨its,r,p,_⟩:=I.tuple h;exact⟨its,p,r⟩
theorem it0T{prog:Program}{w:World}{a:Addr}{its:Array Value}{h:Heap}(t:h.IsTuple a its):Itr0 prog w (.ref a) (UP a) h:=λe q=>by
 subst e;exact wpAny_pyIter_tuple t q
theorem at0T{prog:Program}{w:World}{i a:Addr}(g:Heap)(e:g.get? i=some (UP a)):(RP prog w i a).at_ 0 g:=⟨_,e,rfl,rfl⟩
def Itz(K:tL)(a b:Addr):It:=
 ⟨λi H=>∃xs ys x y,SqT K H a xs/\SqT K H b ys/\xs[i]? = some x/\ys[i]? = some y,
  λi H v H'=>∃p x y,H p=none/\v=.ref p/\H'=upd H p (.tup [x,y])/\(∀xs,SqT K H a xs->xs[i]? = some x)/\(∀ys,SqT K H b ys->ys[i]? = some y),
  λi H=>∃xs ys,SqT K H a xs/\SqT K H b ys/\(xs.length<=i∨ys.length<=i)⟩
theorem srcJ_T{P:Program}{w:World}{K:tL}{i1 i2 a b:Addr} :SrcJ P w K (RP P w i1 a) (RP P w i2 b) (Itz K a b):=by
 refine⟨λX hP hw hK {i ae s σ H} I hg=>?_,λX hP hw hK {i ae s σ H} I hg=>?_⟩<;>subst hP hw hK
 ·obtain⟨xs,ys,x,y,q1,q2,hx,hy⟩:=hg;exact⟨xs,ys,x,y,I.hasT q1,I.hasT q2,hx,hy,λb' f=>by rintro z;rcases mO.mp z with z | z;exact(f.apart I q1) (gY.mp z).symm;exact(f.apart I q2) (gY.mp z).symm,λp n=>⟨p,x,y,n,rfl,rfl,λxs' h=>by rw[I.tuple_inj h q1];exact hx,λys' h=>by rw[I.tuple_inj h q2];exact hy⟩⟩
 ·obtain⟨xs,ys,q1,q2,he⟩:=hg;exact⟨xs,ys,I.hasT q1,I.hasT q2,he.imp List.getElem?_eq_none List.getElem?_eq_none,λb' f=>by rintro z;rcases mO.mp z with z | z;exact(f.apart I q1) (gY.mp z).symm;exact(f.apart I q2) (gY.mp z).symm⟩
section
variable{X:Cx}
def iZipT(K:tL)(ta:TA):TI:=fun σ H R=>ta σ H λvs H1=>∃a b,vs=[.ref a,.ref b]/\(∃xs,SqT K H1 a xs)/\(∃ys,SqT K H1 b ys)/\R (Itz K a b) H1
theorem pi_zipT{es:List Expr}{x1}{tp:Pos}{a b:Expr}{ta:TA}{p pos:Pos}(hg:Gl X "zip")(hm:X.mg "zip" = none)(ha:PA X [a,b] ta)(hs:starEach [a,b] X.env=[(false,eval a X.env),(false,eval b X.env)]:=by rfl)(hs2:starEach [b] X.env=[(false,eval b X.env)]:=by rfl) :
  PI X (.Tuple es x1 tp) (.Call (.Name "zip" p) [a,b] [] pos) (iZipT X.K ta):=by
 intro ae s σ H R I h;refine Call_ (uD I hg hm boot_zip (PyProof.Rows.callWith_type1 (thn (ha pos ae s σ H _ I h) λus s1 ⟨vs,H1,I1,r1,q1⟩=>?_) (by rw[hs,hs2]) (by rw[hs2];rfl)));obtain⟨l1,l2,e,⟨xs,q1⟩,⟨ys,q2⟩,q⟩:=q1;subst e;cases r1 with
 | cons r rr=>
  cases rr with
  | cons r' rr=>
   cases rr;cases r;cases r';obtain⟨its1,_,p1,_⟩:=I1.tuple q1;obtain⟨its2,_,p2,_⟩:=I1.tuple q2;exact pie_zip I1 (it0T p1) (it0T (Heap.IsTuple.push p2 _)) rfl rfl (RP _ _ _ l1) (RP _ _ _ l2) (λg=>at0T g) (λg=>at0T g) srcJ_T q
end
end L2
namespace HT
open PySem PySem.Spec PyProof.Rows
section
variable{prog:Program}{w:World}{A:Around}{E:Value->Shared->Prop}{s:Shared}
theorem cut_whole{t sl:Addr}{items:Array Value}{vl vu:Value}{lo hi:Option Int}{Q:Value->Shared->Prop}(ht:IsTup s.heap t items)(hs:s.heap.IsSliceOf sl vl vu .none)(pl:IsPart vl lo)(pu:IsPart vu hi)
  (hw:sIx items.size 0 lo=0/\sIx items.size items.size hi=items.size) (h:Q (.ref t) s):wpAny #[4] A (getItem (.ref t) (.ref sl)) Q E s:=by
 obtain⟨os,hos,hcs,hds⟩:=id hs;have hTs:s.TypeIs (.ref sl) "slice":=⟨os,hos,hcs⟩;unfold getItem;try with_reducible refine wpAny_holding ?_
 first | refine tF (tG ?_) | skip
 refine tF (wpAny_sequenceKey ht.typeIs #[1] ?_);refine tF (wpAny_callSpecial?_slot (name:=Str.ofString "__getitem__") ht.typeIs PyProof.Rows.slot_tuple_getitem (wpAny_call_entry PyProof.Rows.slot_tuple_getitem ht.typeIs entry_tuple_getitem ?_ (args_tuple_getitem _ _)));show wpAny _ _ (Builtin.Tuple.tupleItemsOf (.ref t) >>= _) _ _ s;refine tF (tupleItemsOf_ ht (tF (wpAny_typeOf hTs ?_)));rw[tK #[1]];refine tF (yO hs pl pu ?_);have hy:(((sIx items.size 0 lo:Nat):Int)==0&&(1:Int)==1&&(sIx items.size items.size hi-sIx items.size 0 lo)==items.size)=true:=by
  rw[hw.1,hw.2];simp
 show wpAny _ _ (if (((sIx items.size 0 lo:Nat):Int)==0&&(1:Int)==1&&(sIx items.size items.size hi-sIx items.size 0 lo)==items.size)=true then _ else _) _ _ s;rw[tK hy];refine tF (m:=Builtin.Tuple.tupleIsExact _) (tF (wpAny_typeOf ht.typeIs (tG ?_)));rw[tK #[1]];refine tF (wpAny_rule ?_);first
  | exact tF (tG (tG ⟨_,rfl,tG h⟩))
  | exact tG ⟨_,rfl,tG h⟩
  | exact tF (tG ⟨_,rfl,tG h⟩)
theorem cat_any{t b:Addr}{vs ws:List Value}{Q:Value->Shared->Prop}(ht:IsTup s.heap t vs.toArray)(hb:IsTup s.heap b ws.toArray)(h0:vs=[]->Q (.ref b) s)
  (h1:ws=[]->Q (.ref t) s) (h2:Q (.ref s.heap.objs.size) { s with heap:=s.heap.push { cls:=.type "tuple",data:=.seq (vs++ws).toArray } })
  (hz:vs.length+ws.length<=sizeLine):wpAny #[4] A (binaryOp .Add (.ref t) (.ref b)) Q E s:=by
 by_cases hv:vs=[]
 ·obtain⟨⟨c1,x1,y1,z1⟩,g1,rfl,n1,rfl⟩:=id ht;obtain⟨⟨c2,x2,y2,z2⟩,g2,rfl,n2,rfl⟩:=id hb;exact concat_meets ⟨_,g1,rfl⟩ ⟨_,g2,rfl⟩ noFill_tuple_add seq_tuple_add PySem.F.slot_tuple_add PySem.F.entry_tuple_add (PySem.F.args_tuple_add_2 _ _) (tuple_addW0 t b vs.toArray ws.toArray n1 n2 x1 x2 z1 z2 (by simp [hv])) ⟨g1,g2,h0 hv⟩
 ·exact cat_tup ht hb hv h1 (λ_=>h2) hz
end
end HT
namespace L2
open PySem PySem.Spec PyProof.Rows
section
variable{X:Cx}
def Gets(H:Hp)(xs:List V)(Q:VK):Prop:=∀p H',Same H H'->H' p=some (.tup xs)->Q (.ref p) H'
def rSlH:V->Option Int->Option Int->Hp->VK->Prop:=λx lo hi H Q=>∃a xs,x=.ref a/\H a=some (.tup xs)/\Gets H (vF xs lo hi) Q
theorem BU:SlR X rSlH:=by
 intro ae s σ H x v vl vu lo hi sl Q I rx hs pl pu h;obtain⟨a,xs,rfl,hx,q⟩:=h;by_cases hw:HT.sIx xs.length 0 lo=0/\HT.sIx xs.length xs.length hi=xs.length
 ·cases rx;obtain⟨its,r,ht,hz⟩:=I.tuple (SqT.of hx);have hl:its.toArray.size=xs.length:=by rw[hV];exact r.length.symm
  refine⟨"tuple",_,PyProof.Rows.slot_tuple_getitem.lookup,ht.typeIs,HT.cut_whole ht hs pl pu (by rw[hl];exact hw) ⟨.ref a,H,I,rfl,q a H (λ_ _ e=>e) ?_⟩⟩;rw[hx,vF,hw.1,hw.2];simp
 ·exact sl_tup ae s σ H _ v vl vu lo hi sl Q I rx hs pl pu ⟨a,xs,rfl,SqT.of hx,hw,λp n=>q p _ (Lw.jY _ n) jE⟩
def rCatH:R2:=λx y H Q=>∃a b xs ys,x=.ref a/\y=.ref b/\H a=some (.tup xs)/\H b=some (.tup ys)/\xs.length+ys.length<=sizeLine/\Gets H (xs++ys) Q
theorem AC:OpR X (binaryOp .Add) rCatH:=by
 intro ae s σ H x y v u Q I rx ry h;obtain⟨a,b,xs,ys,rfl,rfl,ha,hb,hz,q⟩:=h;cases rx;cases ry;obtain⟨its,r1,p1,_⟩:=I.tuple (SqT.of ha);obtain⟨its2,r2,p2,_⟩:=I.tuple (SqT.of hb);refine HT.cat_any p1 p2 (λz=>⟨.ref b,H,I,rfl,q b H (λ_ _ e=>e) ?_⟩) (λz=>⟨.ref a,H,I,rfl,q a H (λ_ _ e=>e) ?_⟩) ?_ (by rw[<-r1.length,<-r2.length];exact hz)
 ·rw[r1.nil_iff.mp z];exact hb
 ·rw[r2.nil_iff.mp z,List.append_nil];exact ha
 ·have n:=I.hok.fresh (nX s.heap.objs.size);refine⟨.ref s.heap.objs.size,_,I.laid (t':=s.toks) (o:=.tup (xs++ys)) (λb ob q=>gH _ q) uU ?_,rfl,q _ _ (Lw.jY _ n) jE⟩;exact⟨by rw[List.length_append];exact hz,_,r1.append r2,IsTup.new _ _,.of (gT _ rfl) rfl⟩
end
end L2
namespace LwMx
open PySem PySem.Spec PyProof.Rows L2 Lw
section
variable{prog:Program}{w:World}{A:Around}{R:Result->Shared->Prop}{J:Addr}{fp wr:List Addr}{n:Nat}{Pv:Nat->Value->Prop}{St:Nat->Heap->Prop}
theorem IN:(toString "max"++toString ".loop" :String)="max.loop":=by decide
theorem WV(Wk:Walks prog w A.in1 J fp wr n Pv St)(gt:Nat->Nat->Bool)(cmp:CmpOf prog w A.in1 .Gt Pv gt)(B:Addr)(out:B∉fp)(kws:List (Str×Value)) :
  ∀(k j:Nat) (s:Shared) (x:Value) (c:Nat),n-(j+1)=k->j+1<=n->St (j+1) s.heap->Pv (argBest gt j) x->
  s.heap.get? B=some { cls:=.type "list",dict:=none,data:=.seq #[x,x] c,slots:=#[] }->
  (∀y h' tk,Pv (argBest gt (n-1)) y->(∀b o,b∉wr->b≠B->s.heap.get? b=some o->h'.get? b=some o)->R (.ok (.ret y)) { s with heap:=h',toks:=tk })->
  codeAny #[4] A (.builtin "max.loop" ⟨[.ref J,.none,.ref B],kws⟩) R s:=by
 have outw:B∉wr:=λz=>out (Wk.sub _ z);intro k;induction k with
 | zero=>
  intro j s x c hk hj st px hB hR;have jn:j+1=n:=by omega
  refine codeAny_builtin PySem.F.entry_max_loop ?_;rw[Around.under_plainId PySem.F.plain_max_loop _];show wpAny _ A.in1 (seqItems? (.ref B) >>= _) _ _ s;refine tF (wpAny_seqItems hB rfl ?_);show wpAny _ A.in1 (tryCatch (pyNext (.ref J)) _ >>= _) _ _ s;refine tF (wpAny_tryCatch (Wk.done s _ _ (jn▸st) λh1 t1 k1=>?_));have hB1:=k1 B _ outw hB;show wpAny _ A.in1 (updateSeq B (λ_=>#[]) >>= _) _ _ _;refine tF (wpAny_updateSeq hB1 rfl (tF (wpAny_letGo (tG ?_))));exact hR x _ t1 (by rw[<-jn];exact px) λb o n1 n2 e=>(Heap.get?_update_other _ _ (Ne.symm n2)).trans (k1 b o n1 e)
 | succ k ih=>
  intro j s x c hk hj st px hB hR;have jn:j+1<n:=by omega
  refine codeAny_builtin PySem.F.entry_max_loop ?_;rw[Around.under_plainId PySem.F.plain_max_loop _];show wpAny _ A.in1 (seqItems? (.ref B) >>= _) _ _ s;refine tF (wpAny_seqItems hB rfl ?_);show wpAny _ A.in1 (tryCatch (pyNext (.ref J)) _ >>= _) _ _ s;refine tF (wpAny_tryCatch (Wk.item (j+1) s _ _ jn st λy h1 t1 py st1 k1=>?_));have hB1:=k1 B _ outw hB;show wpAny _ A.in1 (tryCatch (holding [y,y] (richCompare .Gt y x >>= _)) _ >>= _) _ _ _;refine tF (wpAny_tryCatch (wpAny_holding (tF (cmp (j+1) (argBest gt j) y x _ _ _ py px ?_))));refine tF (wpAny_holding (wpAny_truthy_bool (tF (wpAny_letGo (tG ?_)))));cases hb:gt (j+1) (argBest gt j)with
  | true=>
   simp only[if_true];refine tF (wpAny_updateSeq hB1 rfl (tF (wpAny_letGo ?_)));rw[IN];refine tG ⟨plainId_quiet PySem.F.plain_max_loop _,ih (j+1) _ y _ #[0] jn (Wk.frame _ _ _ st1 λb hb' o e=>?_) (by simp only[argBest,hb,if_true];exact py) (Heap.get?_update_self _ hB1 rfl) λy' h2 t2 p2 k2=>?_⟩
   ·exact(Heap.get?_update_other _ _ (λz:B=b=>out (by rw[z];exact hb'))).trans e
   ·exact hR y' h2 t2 p2 λb o n1 n2 e=>k2 b o n1 n2 ((Heap.get?_update_other _ _ (Ne.symm n2)).trans (k1 b o n1 e))
  | false=>
   simp only[Bool.false_eq_true,if_false];refine tF (wpAny_letGo ?_);rw[IN];refine tG ⟨plainId_quiet PySem.F.plain_max_loop _,ih (j+1) _ x c #[0] jn st1 (by simp only[argBest,hb,Bool.false_eq_true,if_false];exact px) hB1 λy' h2 t2 p2 k2=>?_⟩;exact hR y' h2 t2 p2 λb o n1 n2 e=>k2 b o n1 n2 (k1 b o n1 e)
theorem WW(Wk:Walks prog w A.in1 J fp wr n Pv St)(gt:Nat->Nat->Bool)(cmp:CmpOf prog w A.in1 .Gt Pv gt)(B:Addr)(out:B∉fp)(d:Value){s:Shared}{c:Nat}(st:St 0 s.heap)
  (hB:s.heap.get? B=some { cls:=.type "list",dict:=none,data:=.seq #[] c,slots:=#[] })
  (h0:n=0->∀h' tk,(∀b o,b∉wr->b≠B->s.heap.get? b=some o->h'.get? b=some o)->R (.ok (.ret d)) { s with heap:=h',toks:=tk })
  (hR:0<n->∀y h' tk,Pv (argBest gt (n-1)) y->(∀b o,b∉wr->b≠B->s.heap.get? b=some o->h'.get? b=some o)->R (.ok (.ret y)) { s with heap:=h',toks:=tk }) :
  codeAny #[4] A (.builtin "max.loop" ⟨[.ref J,.none,.ref B],[("default",d)]⟩) R s:=by
 have outw:B∉wr:=λz=>out (Wk.sub _ z);refine codeAny_builtin PySem.F.entry_max_loop ?_;rw[Around.under_plainId PySem.F.plain_max_loop _];show wpAny _ A.in1 (seqItems? (.ref B) >>= _) _ _ s;refine tF (wpAny_seqItems hB rfl ?_);show wpAny _ A.in1 (tryCatch (pyNext (.ref J)) _ >>= _) _ _ s;by_cases hn:0<n
 ·refine tF (wpAny_tryCatch (Wk.item 0 s _ _ hn st λy h1 t1 py st1 k1=>?_));have hB1:=k1 B _ outw hB;show wpAny _ A.in1 (updateSeq B (λ_=>#[y,y]) >>= _) _ _ _;refine tF (wpAny_updateSeq hB1 rfl ?_);rw[IN];refine tG ⟨plainId_quiet PySem.F.plain_max_loop _,WV Wk gt cmp B out _ _ 0 _ y _ rfl hn (Wk.frame _ _ _ st1 λb hb' o e=>?_) py (Heap.get?_update_self _ hB1 rfl) λy' h2 t2 p2 k2=>?_⟩
  ·exact(Heap.get?_update_other _ _ (λz:B=b=>out (by rw[z];exact hb'))).trans e
  ·exact hR hn y' h2 t2 p2 λb o n1 n2 e=>k2 b o n1 n2 ((Heap.get?_update_other _ _ (Ne.symm n2)).trans (k1 b o n1 e))
 ·have z:n=0:=by omega
  subst z;refine tF (wpAny_tryCatch (Wk.done s _ _ st λh1 t1 k1=>?_));refine tF (wpAny_rule (tG ?_));exact h0 rfl _ t1 λb o n1 n2 e=>k1 b o n1 e
end
theorem mx_args(a v:Value):argsOk "max" ⟨[a],[(Str.ofString "default",v)]⟩:=by unfold argsOk;kernel_rfl
section
variable{prog:Program}{w:World}{A:Around}{E:Value->Shared->Prop}{s:Shared}
theorem mx_call{x d:Value}{Q:Value->Shared->Prop}
  (h:wpAny #[4] A.in1 (pyIter x) (λit s₂=>∃J fp wr n Pv St gt,it=.ref J/\Walks prog w A.in1 J fp wr n Pv St/\St 0 s₂.heap/\(∀b∈fp,b<s₂.heap.objs.size)/\CmpOf prog w A.in1 .Gt Pv gt/\
   (n=0->∀h' tk,(∀b o,b∉wr->s₂.heap.get? b=some o->h'.get? b=some o)->Q d { s₂ with heap:=h',toks:=tk })/\
   (0<n->∀v h' tk,Pv (argBest gt (n-1)) v->(∀b o,b∉wr->s₂.heap.get? b=some o->h'.get? b=some o)->Q v { s₂ with heap:=h',toks:=tk })) E s) :
  wpAny #[4] A (call (.builtin "max") [x] [(Str.ofString "default",d)]) Q E s:=by
 refine kmb_tree PySem.F.kind_max PySem.F.plain_max PySem.F.entry_max (mx_args _ _) ?_;show wpAny _ A.in1 (Builtin.Builtins.bindParams "max" ["key","default"] 0 ⟨[],[(Str.ofString "default",d)]⟩ >>= _) _ _ s;refine tF (wpAny_of_eq (show Builtin.Builtins.bindParams "max" ["key","default"] 0 ⟨[],[(Str.ofString "default",d)]⟩=pure [none,some d]from rfl) ?_);refine tF (tG (tF (tH h (λit s₂ h₂=>?_) λ_ _ e=>e)));obtain⟨J,fp,wr,n,Pv,St,gt,rfl,Wk,st,lt,cmp,q0,q1⟩:=h₂;refine tF (wpAny_newObj_type ?_);have out:s₂.heap.objs.size∉fp:=λz=>mY _ (lt _ z);rw[IN];have up:∀(h':Heap),(∀b o,b∉wr->b≠s₂.heap.objs.size->(s₂.heap.push { cls:=.type "list",data:=.seq ([]:List Value).toArray }).get? b=some o->h'.get? b=some o)->∀b o,b∉wr->s₂.heap.get? b=some o->h'.get? b=some o:=λh' k b o n1 e=>
  k b o n1 (nO (nJ e)) (gH _ e)
 refine tG ⟨plainId_quiet PySem.F.plain_max_loop _,WW Wk gt cmp s₂.heap.objs.size out d (Wk.frame _ _ _ st λb _ o e=>gH _ e) (gT _ rfl) (λz h' tk k=>q0 z h' tk (up h' k)) λz v h' tk p k=>q1 z v h' tk p (up h' k)⟩
end
theorem JE(ns:List Int):∀k,k<ns.length->(argBest (λi j=>decide (ns.getD i 0>ns.getD j 0)) k)<=k/\∀j,j<=k->ns.getD j 0<=ns.getD (argBest (λi j=>decide (ns.getD i 0>ns.getD j 0)) k) 0
 | 0,_=>⟨nX _,λj hj=>by have:j=0:=#[0];subst this;exact tD _⟩
 | k+1,h=>by
  obtain⟨h1,h2⟩:=JE ns k #[0];simp only[argBest];split
  ·rename_i hb;have hb:=hX hb;refine⟨nX _,λj hj=>?_⟩;rcases Nat.lt_or_ge j (k+1)with z | z
   ·have:=h2 j #[0];omega
   ·have:j=k+1:=by omega
    subst this;exact tD _
  ·rename_i hb;refine⟨by omega,λj hj=>?_⟩;rcases Nat.lt_or_ge j (k+1)with z | z
   ·exact h2 j #[0]
   ·have e:j=k+1:=by omega
    have:¬ns.getD (k+1) 0>ns.getD (argBest (λi j=>decide (ns.getD i 0>ns.getD j 0)) k) 0:=λy=>hb (mP y);rw[e];omega
section
variable{X:Cx}
def rMaxD(d:Int):List V->Hp->VK->Prop:=λxs H Q=>∃(l:Addr) (ns:List Int),xs=[.ref l]/\H l=some (.lst (ns.map V.int))/\(ns=[]->Q (.int d) H)/\∀m,m∈ns->(∀x∈ns,x<=m)->Q (.int m) H
theorem TZ{ae:List (Addr×Obj)}{σ:L2.St}{H:Hp}{s:Shared}{l:Addr}{ns:List Int}{d:Int}{t:Tok}{Q:VK}(hc:X.calm=true)(I:Inv X ae σ H s)(hl:H l=some (.lst (ns.map V.int)))
  (q0:ns=[]->Q (.int d) H) (q1:∀m,m∈ns->(∀x∈ns,x<=m)->Q (.int m) H):wpAny #[2] X.A (call (.builtin "max") [.ref l] [(Str.ofString "default",.int d t)]) (EP X ae σ Q) X.xe s:=by
 obtain⟨its,rv,p,_⟩:=I.list (SqL.of hl);have i1:IntsAre its ns:=vB rv;have il:=vK i1;have ha:l<s.heap.objs.size:=by
  obtain⟨o,_,e,_⟩:=p;exact nJ e
 have p':s.heap.IsList l its.toArray:=by
  obtain⟨o,n,e,e2,_,e3⟩:=p;exact⟨o,e,e2,⟨n,e3⟩⟩
 refine mx_call (wpAny_pyIter_list p' ?_);refine⟨s.heap.objs.size,_,_,_,_,_,λi j=>decide (ns.getD i 0>ns.getD j 0),rfl,Walks.list (show X.A.in1.handled=none from I.ok.hd hc) s.heap.objs.size l (nO ha) its.toArray,⟨⟨_,gT _ rfl,rfl,rfl⟩,p'.push _⟩, ?_, ?_, ?_, ?_⟩
 ·intro b hb;show b<(s.heap.push _).objs.size;rw[mV];simp only[mX,mF,or_false]at hb;rcases hb with rfl | rfl
  ·exact Nat.lt_succ_self _
  ·exact Nat.lt_succ_of_lt ha
 ·refine CmpOf.ints_gt (λi=>ns.getD i 0) λi v hv=>?_;have hv':its[i]? = some v:=by simpa using hv
  obtain⟨hi,e⟩:=gB.mp hv';obtain⟨n,t,e1,e2⟩:=vW i1 hi;exact⟨t,by rw[<-e,e2,uY,e1];rfl⟩
 ·intro z h' tk k;have z':ns=[]:=by
   have:its.length=0:=by simpa using z
   exact List.length_eq_zero_iff.mp #[0]
  refine⟨.int d,H,I.kept (t':=tk) (λb o e=>k b o ?_ (gH _ e)),⟨t,rfl⟩,q0 z'⟩;simp;exact nO (nJ e)
 ·intro z v h' tk hv k;have z':0<ns.length:=by
   have:0<its.length:=by simpa using z
   omega
  have sz:its.toArray.size=ns.length:=by rw[hV,il]
  rw[sz]at hv;obtain⟨b1,b2⟩:=JE ns (ns.length-1) #[0];generalize argBest (λi j=>decide (ns.getD i 0>ns.getD j 0)) (ns.length-1)=i at hv b1 b2;have hv':its[i]? = some v:=by simpa using hv
  obtain⟨hi,e⟩:=gB.mp hv';obtain⟨n,t,e1,e2⟩:=vW i1 hi;have en:ns.getD i 0=n:=by rw[uY,e1];rfl
  refine⟨.int n,H,I.kept (t':=tk) (λb o e=>k b o ?_ (gH _ e)),⟨t,by rw[<-e,e2]⟩,q1 n (gM e1) λx hx=>?_⟩
  ·simp;exact nO (nJ e)
  ·obtain⟨j,hj⟩:=gL.mp hx;have hjl:=(gB.mp hj).1;have:=b2 j #[0];rw[en,uY,hj]at this;exact this
variable{p pos kpos:Pos}{e e2:Expr}{es:List Expr}{t tk:TA}
def tMaxD(t tk:TA):TE:=fun σ H Q=>t σ H λvs H1=>tk σ H1 λzs H2=>∃d,zs=[.int d]/\rMaxD d vs H2 Q
theorem pe_maxD(hc:X.calm=true)(hg:Gl X "max")(hm:X.mg "max" = none)(ha:PA X [e] t)(hk:PK X [⟨some "default",e2,kpos⟩] tk)
  (hall:(backToKw pos (keywordEach [⟨some "default",e2,kpos⟩] X.env)).all (·.1.isSome)=true:=by rfl) (hks:(backToKw pos (keywordEach [⟨some "default",e2,kpos⟩] X.env)).filterMap (·.1)=[Str.ofString "default"]:=by rfl)
  (he:starEach [e] X.env=[(false,eval e X.env)]:=by rfl)
  (hpl:((backTo pos (starEach [e] X.env)).any (·.1)||(backToKw pos (keywordEach [⟨some "default",e2,kpos⟩] X.env)).any (·.1.isNone))=false:=by rfl) :
  PE X (.Call (.Name "max" p) [e] [⟨some "default",e2,kpos⟩] pos) (tMaxD t tk):=by
 intro ae s σ H Q I h;refine wpAny_Call_Name_kw (uD I hg hm (show bootBuiltins "max" = some (.builtin "max") by decide +kernel) ?_ #[1] #[1]);refine PySem.W.callWith_of (P:=λ_=>True) hpl (λ_ _=>⟨_,.inr (.inl rfl),PySem.W.Looks.of_pure rfl⟩) (evalArgs_kw2 hall (thn (ha pos ae s σ H _ I h) λus s1 ⟨vs,H1,I1,r,q⟩=>?_) he);refine thn (hk pos ae s1 σ H1 _ I1 q) λws s2 ⟨zs,H2,I2,rz,q2⟩=>⟨trivial, ?_⟩;rw[hks];obtain⟨d,rfl,l,ns,rfl,hl,q0,q1⟩:=q2;obtain⟨u,rfl,ru⟩:=xU r;cases ru;obtain⟨u,rfl,⟨t,rfl⟩⟩:=xU rz;exact TZ hc I2 hl q0 q1
def rMax1:List V->Hp->VK->Prop:=λxs H Q=>∃(l:Addr) (ns:List Int),xs=[.ref l]/\H l=some (.lst (ns.map V.int))/\ns≠[]/\∀m,m∈ns->(∀x∈ns,x<=m)->Q (.int m) H
theorem call_max1(hc:X.calm=true):CallR X (.builtin "max") rMax1:=by
 intro ae s σ H xs us Q I r h;obtain⟨l,ns,rfl,hl,hne,q1⟩:=h;obtain⟨u,rfl,ru⟩:=xU r;cases ru;obtain⟨its,rv,p,_⟩:=I.list (SqL.of hl);have i1:IntsAre its ns:=vB rv;have il:=vK i1;have ha:l<s.heap.objs.size:=by
  obtain⟨o,_,e,_⟩:=p;exact nJ e
 have p':s.heap.IsList l its.toArray:=by
  obtain⟨o,n,e,e2,_,e3⟩:=p;exact⟨o,e,e2,⟨n,e3⟩⟩
 have np:0<ns.length:=List.length_pos_iff.mpr hne;refine call_max_walk (wpAny_pyIter_list p' ?_);refine⟨s.heap.objs.size,_,_,_,_,_,λi j=>decide (ns.getD i 0>ns.getD j 0),rfl,Walks.list (show X.A.in1.handled=none from I.ok.hd hc) s.heap.objs.size l (nO ha) its.toArray,⟨⟨_,gT _ rfl,rfl,rfl⟩,p'.push _⟩, ?_, ?_, ?_, ?_⟩
 ·intro b hb;show b<(s.heap.push _).objs.size;rw[mV];simp only[mX,mF,or_false]at hb;rcases hb with rfl | rfl
  ·exact Nat.lt_succ_self _
  ·exact Nat.lt_succ_of_lt ha
 ·rw[hV,il];exact np
 ·refine CmpOf.ints_gt (λi=>ns.getD i 0) λi v hv=>?_;have hv':its[i]? = some v:=by simpa using hv
  obtain⟨hi,e⟩:=gB.mp hv';obtain⟨n,t,e1,e2⟩:=vW i1 hi;exact⟨t,by rw[<-e,e2,uY,e1];rfl⟩
 ·intro v h' tk hv k;have sz:its.toArray.size=ns.length:=by rw[hV,il]
  rw[sz]at hv;obtain⟨b1,b2⟩:=JE ns (ns.length-1) #[0];generalize argBest (λi j=>decide (ns.getD i 0>ns.getD j 0)) (ns.length-1)=i at hv b1 b2;have hv':its[i]? = some v:=by simpa using hv
  obtain⟨hi,e⟩:=gB.mp hv';obtain⟨n,t,e1,e2⟩:=vW i1 hi;have en:ns.getD i 0=n:=by rw[uY,e1];rfl
  refine⟨.int n,H,I.kept (t':=tk) (λb o e=>k b o ?_ (gH _ e)),⟨t,by rw[<-e,e2]⟩,q1 n (gM e1) λx hx=>?_⟩
  ·simp;exact nO (nJ e)
  ·obtain⟨j,hj⟩:=gL.mp hx;have hjl:=(gB.mp hj).1;have:=b2 j #[0];rw[en,uY,hj]at this;exact this
end
end LwMx
namespace L2
open PySem PySem.Spec PyProof.Rows
section
variable{X:Cx}{ae:List (Addr×Obj)}{σ:St}{H:Hp}{s:Shared}
end
section
variable{X:Cx}
end
section
open AutoSeq1 (wpAny_loadPart')
end
section
variable{prog:Program}{w:World}{A:Around}{E:Value->Shared->Prop}{s:Shared}
end
section
variable{X:Cx}
end
end L2
namespace LwD
open PySem PySem.Spec PyProof.Rows L2 Lw
section
variable{X:Cx}
end
section
variable{X:Cx}{ae:List (Addr×Obj)}{σ:L2.St}{H:Hp}{s:Shared}
theorem Inv.freeze{d:Addr}{ah:List (List Key×V)}(I:Inv X ae σ H s)(e:H d=some (.dT ah)):∃o,Inv X ae σ (upd H d (.frz o (.dT ah))) s:=by
 have ob:ObjOk X.prog X.w H s.heap d (.dT ah):=I.hok d _ e;obtain⟨z,lo,xs,rel,o,es,ep,ho,r⟩:=id ob;refine⟨o, ?_⟩;have ne:∀{b:Addr} {u:HO},H b=some u->(∀k,u≠.dT k)->upd H d (.frz o (.dT ah)) b=some u:=fun {b u} q n=>by
  rw[jG (λy=>by rw[y,e]at q;cases q;exact n _ rfl)];exact q
 refine I.step (h':=s.heap) (g':=s.gens) (t':=s.toks) (d':=s.drawn) (ch:=[]) (λ_ y=>nomatch y) (λb u _ _ _ q _=>q) (λb u _ _ _ q _=>⟨u.slots,q⟩) (λb u _ _ q=>?_) (λb u _ q=>⟨u,q⟩) (λb xs q=>ne q λ_ y=>by cases y) (λb u v q=>ne q λ_ y=>by cases y)
  (λb ps q=>⟨#[],by rw[ne q λ_ y=>by cases y];simp⟩) (λm hm=>hm) ?_ I.bare
 ·rw[jG (λy=>by rw[y,e]at q;cases q)];exact q
 ·intro b u q;by_cases hb:b=d
  ·subst hb;rw[jE]at q;cases q;exact⟨ho,ob.stay (λc v _ q=>q) (λc q=>ne q λ_ y=>by cases y) λc xs q=>ne q λ_ y=>by cases y⟩
  ·rw[jG hb]at q;exact(I.hok b u q).stay (λc v _ q=>q) (λc q=>ne q λ_ y=>by cases y) λc xs q=>ne q λ_ y=>by cases y
end
section
variable{X:Cx}
def tFrz(te:TE):TE:=fun σ H Q=>te σ H λv H1=>∃d ah,v=.ref d/\H1 d=some (.dT ah)/\∀o,Q v (upd H1 d (.frz o (.dT ah)))
theorem vN{e:Expr}{te:TE}(h:PE X e te):PE X e (tFrz te):=by
 intro ae s σ H Q I hq;refine thn (h ae s σ H _ I hq) λu s1 ⟨x,H1,I1,r1,q1⟩=>?_;obtain⟨d,ah,rfl,hd,k⟩:=q1;obtain⟨o,I2⟩:=Inv.freeze I1 hd;exact⟨.ref d,_,I2,r1,k o⟩
end
def Itk(d:Addr)(o:Obj)(ah:List (List Key×V))(ys:List V):It:=
 ⟨λi H=>H d=some (.frz o (.dT ah))/\i<ys.length,λi H x H'=>H'=H/\ys[i]? = some x,λi H=>H d=some (.frz o (.dT ah))/\i=ys.length⟩
theorem RM{P:Program}{w:World}{K:tL}{tg:Expr}(d it:Addr){o:Obj}{es:Array DictEntry}{ep:Nat}{ah:List (List Key×V)}{ys:List V}(xo:o.ExactDict)(ho:o.data=.dict es ep)
  (hy:∀(i:Nat) (h:i<es.size),∃b,es[i].key=.ref b/\ys[i]? = some (.ref b)) (hl:ys.length=es.size):Turn P w K tg (Itk d o ah ys) [it] it (λi h=>h.IsKeyIter it d i es.size ep) where
 mem:=by simp
 obj:=λi h st b hb=>by
  have e:b=it:=by simpa using hb
  subst e;obtain⟨o,e,c,d⟩:=st;exact⟨o,e,λv z=>by rw[d]at z;cases z⟩
 keep:=λi h h' st k=>st.at λo e=>k it (by simp) o e
 item:=by
  intro X hP hw hK hc i ae s σ H E I hf st hg;subst hP hw hK;obtain⟨hd,hi⟩:=hg;have raw:Raw s.heap d es ep:=⟨o,(I.hok d _ hd).1,xo,ho⟩;obtain⟨b,eb,yb⟩:=hy i #[0];obtain⟨f0,f1,f2,f3,f4,f5⟩:=hf it (by simp);refine JU st raw #[0] λh' st' sb=>?_;have I1:Inv X ae σ H { s with heap:=h' } :=I.turned (t':=s.toks) (λb o hb e=>(sb.2 b hb).trans e) f0 f1 f3 f4 f5;obtain⟨oi,e,c,dd⟩:=id st';exact⟨_,rfl,LB (s:={ s with heap:=h' }) e c dd #[1] ⟨.ref b,H,I1,by rw[eb];rfl,⟨rfl,yb⟩,st',λb hb=>(hf b hb).1⟩⟩
 done:=by
  intro X hP hw hK hc i ae s σ H E I hf st hg;subst hP hw hK;obtain⟨hd,hi⟩:=hg;have raw:Raw s.heap d es ep:=⟨o,(I.hok d _ hd).1,xo,ho⟩;obtain⟨f0,f1,f2,f3,f4,f5⟩:=hf it (by simp);rw[hi,hl]at st;exact OQ (I.ok.hd hc) st raw λh' eb=>⟨rfl,I.turned (t':=s.toks) (λb o hb e=>eb b o hb e) f0 f1 f3 f4 f5⟩
 self:=λ_ _ _ _ _ st h=>wpAny_pyIter_keyiter st h
section
variable{X:Cx}
def iKeys(te:TE):TI:=fun σ H R=>te σ H λv H1=>∃d o ah,v=.ref d/\H1 d=some (.frz o (.dT ah))/\(∀p∈ah,∃ns:List Int,p.1=ik ns)/\∀ys,Keyed H1 ys ah->R (Itk d o ah ys) H1
theorem wR{tg l:Expr}{tl:TE}(hl:PE X l tl):PI X tg l (iKeys tl):=by
 intro ae s σ H R I h;refine thn (hl ae s σ H _ I h) λv s1 ⟨x,H1,I1,r1,q1⟩=>?_;obtain⟨d,o,ah,rfl,hd,hk,q⟩:=q1;cases r1;obtain⟨go,ob⟩:=I1.hok d _ hd;obtain⟨z,lo,ks,rel,o',es,ep,ho,xo,hdat,he,hn⟩:=(show ObjOk X.prog X.w H1 s1.heap d (.dT ah)from ob);rw[go]at ho;cases ho;have esz:es.size=ah.length:=by rw[size_of_entries he,<-Paired.length rel]
 have itup:∀(j:Nat) (h:j<es.size),∃(b:Addr) (ns:List Int) (v:V),es[j].key=.ref b/\H1 b=some (.tup (ns.map V.int))/\ah[j]? = some (ik ns,v):=λj hj=>by
  have e1:=entry_at he j;rw[Array.getElem?_eq_getElem hj]at e1;cases e2:ks[j]? with
  | none=>rw[e2]at e1;cases e1
  | some x=>
   rw[e2]at e1;have e3:es[j]=entryOfKey _ x:=Option.some.inj e1;obtain⟨v,m1,m2⟩:=KTgetI rel e2;obtain⟨ns,n1⟩:=hk _ (gM m1);dsimp only at n1;rw[n1]at m1 m2;rw[yH]at m2;exact⟨x.2.1,ns,v,by rw[e3];rfl,m2,m1⟩
 have kref:∀(j:Nat) (h:j<es.size),∃b:Addr,es[j].key=.ref b:=λj hj=>let ⟨b,_,_,e,_⟩:=itup j hj;⟨b,e⟩;refine JV lo ⟨o,go,xo,hdat⟩ ?_;refine⟨s1.heap.objs.size,[s1.heap.objs.size],_,_,H1,rfl,I1.kept (t':=s1.toks) λb o e=>gH _ e,RM (ah:=ah) d _ xo hdat (ys:=es.toList.map λe=>match e.key with | .ref b=>V.ref b | _=>V.non) ?_ (by simp),⟨_,gT _ rfl,rfl,rfl⟩,λb hb=>?_,q _ ⟨by simp [esz],λi y p ey ep=>?_⟩⟩
 ·intro i hi;obtain⟨b,e⟩:=kref i hi;refine⟨b,e, ?_⟩;simp only[hU,Array.getElem?_toList,Array.getElem?_eq_getElem hi,Option.map_some,e]
 ·have e:b=s1.heap.objs.size:=by simpa using hb
  rw[e];exact I1.fpOk uU (I1.hok.fresh uU)
 ·have hi:i<es.size:=by
   have:=(gB.mp ey).1;simpa using this
  obtain⟨b,ns,v,e1,e2,e3⟩:=itup i hi;simp only[hU,Array.getElem?_toList,Array.getElem?_eq_getElem hi,Option.map_some,e1,Option.some.injEq]at ey;rw[e3]at ep;cases ep;exact⟨b,ns,ey.symm,e2,rfl⟩
end
theorem YK{d:Addr}{o:Obj}{ah:List (List Key×V)}{xs:List V}{g:TG}{tb:TS}{D:Ends}{σ:L2.St}{H:Hp}(Pv:Nat->L2.St->Hp->Prop)(h0:Pv 0 σ H)(hl:∀i σ H,Pv i σ H->H d=some (.frz o (.dT ah)))
  (hs:∀i x σ H,xs[i]? = some x->Pv i σ H->g x σ H fun σ2 H2=>tb { D with nx:=Pv (i+1),ct:=Pv (i+1),bk:=D.nx } σ2 H2) (hd:∀σ H,Pv xs.length σ H->D.nx σ H) :
  ∃W:Nat->Nat->L2.St->Hp->Prop,(∃m,W 0 m σ H)/\∀i m σ H,W i m σ H->
   ((Itk d o ah xs).stop i H/\D.nx σ H)∨((Itk d o ah xs).go i H/\∃N:L2.St->Hp->Prop,(∀σ' H',N σ' H'->∃m',m'<m/\W (i+1) m' σ' H')/\∀x H',(Itk d o ah xs).yld i H x H'->g x σ H' fun σ2 H2=>tb { D with nx:=N,ct:=N,bk:=D.nx } σ2 H2):=by
 refine⟨λi m σ H=>m=xs.length-i/\i<=xs.length/\Pv i σ H,⟨xs.length,by simp,nY _,h0⟩, ?_⟩;rintro i m σ H ⟨rfl,hi,p⟩;have q:=hl i σ H p;by_cases hlt:i<xs.length
 ·refine .inr ⟨⟨q,hlt⟩,Pv (i+1),fun σ' H' p'=>⟨xs.length-(i+1),by omega,rfl,hlt,p'⟩,λx H' y=>?_⟩;obtain⟨e,y⟩:=y;subst e;exact hs i x σ _ y p
 ·have ei:i=xs.length:=by omega
  subst ei;exact .inl ⟨⟨q,rfl⟩,hd σ H p⟩
section
variable{X:Cx}
def CDivP(i j:Int):Prop:=0<j/\Builtin.divisionGoesByPylong i j=false
theorem AB:OpR X (binaryOp .FloorDiv) (rI CDivP λi j=>.int (i/j)):=opI λi j _ _ _ _ _ hc q=>by
 refine floordiv_int (by have:=hc.1;omega) ?_ (.inl hc.2);rw[Int.fdiv_eq_ediv_of_nonneg _ (Int.le_of_lt hc.1)];exact q
theorem LN{i j:Int}(h:CDivL i j):CDivP i j:=⟨h.1,PyProof.noPylong_of_log2 (gX (LwM.log2_lt #[1] h.2) #[1])⟩
theorem zJ{i j:Int}{m:Nat}(hj:0<j)(hm:m<=13400)(hi:i.natAbs<2^m):CDivP i j:=by
 refine⟨hj, ?_⟩;by_cases h9:j.natAbs.log2<9000
 ·exact PyProof.noPylong_of_log2 h9
 ·show(decide ((if j==0 then 0 else j.natAbs.log2/30+1)>300)&&decide ((if i==0 then 0 else i.natAbs.log2/30+1)>(if j==0 then 0 else j.natAbs.log2/30+1)+150))=false;rw[Bool.and_eq_false_iff]
  right
  refine mN ?_;have j0:(j==0)=false:=by
   rw[beq_eq_false_iff_ne];omega
  rw[j0];simp only[Bool.false_eq_true,if_false];have:i.natAbs.log2<13440:=by
   by_cases z:i.natAbs=0
   ·rw[z];decide +kernel
   ·exact(Nat.log2_lt z).mpr (gX hi (gO #[1] #[0]))
  split<;>omega
end
end LwD
namespace LwD
open PySem PySem.W PySem.Spec PyProof.Rows
structure Strict(lt:Nat->Nat->Bool)(n:Nat):Prop where
 tr:∀a b c,lt a b=true->lt b c=true->lt a c=true
 as:∀a b,lt a b=true->lt b a=false
 tot:∀a b,a<n->b<n->a≠b->lt a b=false->lt b a=true
section
variable{lt:Nat->Nat->Bool}{n:Nat}
end
end LwD
namespace LwR
open PySem PySem.W PySem.Spec PyProof.Rows
section
variable{M:Model}{A:Around}{E:Value->Shared->Prop}{σ:Type}
theorem kI{α:Type}{m:StateT σ Sem α}{Q Q':α->σ->Shared->Prop}{st:σ}{s:Shared}(h:kasC M A E m Q st s)(hq:∀a st' s',Q a st' s'->Q' a st' s'):kasC M A E m Q' st s:=
 tH h (λr s' h'=>hq _ _ _ h') λ_ _ e=>e
theorem QE{β:Type}(f:Nat->β->StateT σ Sem (ForInStep β))(I:List Nat->β->σ->Shared->Prop)(Q:β->σ->Shared->Prop)
  (hstep:∀x rest b st s,I (x::rest) b st s->kasC M A E (f x b) (λr st' s'=>match r with | .done b'=>Q b' st' s' | .yield b'=>I rest b' st' s') st s)
  (hend:∀b st s,I [] b st s->Q b st s):∀(l:List Nat) (b:β) (st:σ) (s:Shared),I l b st s->kasC M A E (forIn l b f) Q st s
 | [],b,st,s,h=>kasC_nil (hend _ _ _ h)
 | x::rest,b,st,s,h=>by
  refine kasC_cons (kI (hstep x rest b st s h) λr st' s' h'=>?_);cases r with
  | done b'=>exact h'
  | yield b'=>exact QE f I Q hstep hend rest b' st' s' h'
theorem kS{β:Type}{a b:Nat}{f:Nat->β->StateT σ Sem (ForInStep β)}(I:Nat->β->σ->Shared->Prop){Q:β->σ->Shared->Prop}
  (hstep:∀i c st s,a<=i->i<b->I i c st s->kasC M A E (f i c) (λr st' s'=>match r with | .done c'=>Q c' st' s' | .yield c'=>I (i+1) c' st' s') st s)
  (hend:∀c st s,I (max a b) c st s->Q c st s) {c:β} {st:σ} {s:Shared} (h:I a c st s):kasC M A E (forIn [a:b] c f) Q st s:=by
 refine kasC_range ?_;refine QE f (λl c st s=>∃i,a<=i/\i<=max a b/\l=List.range' i (max a b-i) 1/\I i c st s) Q ?_ ?_ _ c st s ⟨a,nX _,by omega,by congr 1;omega,h⟩
 ·rintro x rest c st s ⟨i,hai,hib,hl,hI⟩;have hlt:i<max a b:=by
   rcases Nat.lt_or_ge i (max a b)with h' | h'
   ·exact h'
   ·rw[show max a b-i=0 by omega]at hl;simp at hl
  obtain⟨n,hn⟩:∃n,max a b-i=n+1:=⟨max a b-i-1,by omega⟩;rw[hn,List.range'_succ]at hl;obtain⟨rfl,rfl⟩:=List.cons.inj hl;refine kI (hstep x c st s hai #[0] hI) λr st' s' h'=>?_;cases r with
  | done c'=>exact h'
  | yield c'=>exact⟨x+1,by omega,by omega,by congr 1;omega,h'⟩
 ·rintro c st s ⟨i,hai,hib,hl,hI⟩;have:i=max a b:=by
   rcases Nat.lt_or_ge i (max a b)with h' | h'
   ·obtain⟨n,hn⟩:∃n,max a b-i=n+1:=⟨max a b-i-1,by omega⟩;rw[hn,List.range'_succ]at hl;simp at hl
   ·omega
  subst this;exact hend _ _ _ hI
end
structure Cmp(prog:Program)(w:World)(A:Around)(κ:SortKind)(it:Array Keyed)(N:Nat)(lt:Nat->Nat->Bool)(Iv:Shared->Prop):Prop where
 ask:∀(i j:Nat) (s:Shared) (C:Bool->Shared->Prop),i<N->j<N->Iv s->(∀s',Iv s'->C (lt i j) s')->kas_cmp prog w A κ it i j C s
 o:LwD.Strict lt N
section
variable{prog:Program}{w:World}{A:Around}{E:Value->Shared->Prop}{κ:SortKind}{it:Array Keyed}{N:Nat}{lt:Nat->Nat->Bool}{Iv:Shared->Prop}{st:SortSt}{s:Shared}
theorem JO(c:Cmp prog w A κ it N lt Iv){i j:Nat}{Q:Option Bool->SortSt->Shared->Prop}(hi:i<N)(hj:j<N)(hk:kindOf st=κ)(hs:Iv s)(h:∀s',Iv s'->Q (some (lt i j)) st s'):kasC #[4] A E (lt' (kas_item it i) (kas_item it j)) Q st s:=by
 rw[lt'_eq];refine kasC_bind (kasC_get ?_);rw[hk];refine kasC_bind (kasC_lift (wpAny_attempt (tH (c.ask i j s (λb s'=>b=lt i j/\Iv s') hi hj hs λs' h'=>⟨rfl,h'⟩) (λb s' hb=>?_) λ_ _ hF=>hF.elim)));obtain⟨rfl,h'⟩:=hb;exact kasC_pure (h s' h')
theorem NV{xs:Array Nat}{i:Nat}{Q:Keyed->SortSt->Shared->Prop}(hi:i<xs.size)(h:Q (kas_item it (xs.getD i 0)) st s):kasC #[4] A E (elem' (xs.map (kas_item it)) i) Q st s:=by
 have e:(xs.map (kas_item it))[i]? = some (kas_item it (xs.getD i 0)):=by
  have e:xs.getD i 0=xs[i]:=by simp [Array.getD,hi]
  rw[e];simp [hi]
 rw[elem'_eq,e];exact kasC_pure h
end
abbrev CN:Bool->Keyed->Array Keyed->Nat->Nat->Nat->StateT SortSt Sem (Option Nat):=sortPriv% PySem.Builtin.gallop
local macro_rules | `(tactic| trivial)=>do
 let n (s:String):=Lean.mkIdent (.str (.str (.str (.num (.str (.str (.str (.str (.str .anonymous "_private") "PySem") "Builtin") "List") "W1All") 0) "PySem") "Builtin") s)
 `(tactic| first | unfold $(n "gallop") | unfold $(n "mergeLo") | unfold $(n "mergeHi") | unfold $(n "mergeAt") | unfold $(n "setMinGallop"))
section
variable{prog:Program}{w:World}{A:Around}{E:Value->Shared->Prop}{κ:SortKind}{it:Array Keyed}{N:Nat}{lt:Nat->Nat->Bool}{Iv:Shared->Prop}{st:SortSt}{s:Shared}
def bey(lt:Nat->Nat->Bool)(left:Bool)(k:Nat)(xs:Array Nat)(base i:Nat):Bool:=if left=true then lt (xs.getD (base+i) 0) k else !lt k (xs.getD (base+i) 0)
theorem wL(c:Cmp prog w A κ it N lt Iv){left:Bool}{k:Nat}{xs:Array Nat}{base n hint:Nat}{Q:Option Nat->SortSt->Shared->Prop}(hk:kindOf st=κ)(hkN:k<N)(hx:∀i,i<xs.size->xs.getD i 0<N)(hb:base+n<=xs.size)(hh:hint<n)(hs:Iv s)
  (mono:∀i j,i<=j->j<n->bey lt left k xs base j=true->bey lt left k xs base i=true)
  (h:∀r s',Iv s'->r<=n->(∀i,i<r->bey lt left k xs base i=true)->(∀i,r<=i->i<n->bey lt left k xs base i=false)->Q (some r) st s'):kasC #[4] A E (CN left (kas_item it k) (xs.map (kas_item it)) base n hint) Q st s:=by
 have ask:∀{i:Nat} {s:Shared} {Q:Option Bool->SortSt->Shared->Prop},i<n->Iv s->(∀s',Iv s'->Q (some (bey lt left k xs base i)) st s')->kasC #[4] A E (do
   let x<-elem' (xs.map (kas_item it)) (base+i)
   if left then lt' x (kas_item it k)else return(<-lt' (kas_item it k) x).map (!·)) Q st s:=by
  intro i s Q hi hs h;refine kasC_bind (NV #[0] ?_);unfold bey at h;cases left with
  | true=>exact JO c (hx _ #[0]) hkN hk hs h
  | false=>exact kasC_bind (JO c hkN (hx _ #[0]) hk hs λs' h'=>kasC_pure (h s' h'))
 generalize bey lt left k xs base=P at mono h ask;have anti:∀i j,i<=j->j<n->P i=false->P j=false:=λi j h1 h2 h3=>by
  cases e:P j with
  | false=>rfl
  | true=>rw[mono i j h1 h2 e]at h3;cases h3
 unfold CN
 trivial
 dsimp only;refine kasC_bind (ask hh hs λs1 hs1=>?_);dsimp only;cases ph:P hint with
 | true=>
  rw[tK rfl];refine kasC_bind (kI (kS (λx c st' s'=>st'=st/\Iv s'/\∃l o,c=(none,l,o)/\l<o/\x<o/\hint+l<n/\P (hint+l)=true) (Q:=λc st' s'=>st'=st/\Iv s'/\∃l o,c=(none,l,o)/\l<o/\hint+l<n/\P (hint+l)=true/\(hint+o<n->P (hint+o)=false)) ?a ?b ⟨rfl,hs1,0,1,rfl,by omega,by omega,hh,ph⟩) ?c);case a=>
   rintro x c st' s' _ hxn ⟨rfl,hs',l,o,rfl,a1,a2,a3,a4⟩;dsimp only;by_cases e:o ≥ n-hint
   ·rw[tK e];exact kasC_pure ⟨rfl,hs',l,o,rfl,a1,a3,a4,λz=>by omega⟩
   ·rw[tJ e];refine kasC_bind (ask #[0] hs' λs2 hs2=>?_);dsimp only;cases pe:P (hint+o)with
    | false=>exact kasC_pure ⟨rfl,hs2,l,o,rfl,a1,a3,a4,λ_=>pe⟩
    | true=>exact kasC_pure ⟨rfl,hs2,o,2*o+1,rfl,by omega,by omega,by omega,pe⟩
  case b=>
   rintro c st' s' ⟨rfl,hs',l,o,rfl,a1,a2,a3,a4⟩;exact⟨rfl,hs',l,o,rfl,a1,a3,a4,λz=>by omega⟩
  case c=>
   rintro c st' s' ⟨rfl,hs',l,o,rfl,a1,a3,a4,a5⟩;dsimp only;refine kasC_bind (kS (λx c st'' s'=>st''=st'/\Iv s'/\∃l r,c=(none,l,r)/\l<=r/\r<=n/\r-l<=n-x/\(∀i,i<l->P i=true)/\∀i,r<=i->i<n->P i=false) ?_ ?_ ⟨rfl,hs',hint+l+1,hint+min o (n-hint),rfl,by omega,by omega,by omega,λi hi=>mono i (hint+l) #[0] a3 a4,λi hi hn=>anti (hint+o) i #[0] hn (a5 #[0])⟩)
   ·rintro x c st'' s' _ hxn ⟨rfl,hs',l,r,rfl,a1,a2,a3,a4,a5⟩;dsimp only;by_cases e:l ≥ r
    ·rw[tK e];exact kasC_pure (kasC_pure (h r s' hs' a2 (λi hi=>a4 i #[0]) a5))
    ·rw[tJ e];refine kasC_bind (ask #[0] hs' λs2 hs2=>?_);dsimp only;cases pe:P (l+(r-l)/2)with
     | true=>exact kasC_pure ⟨rfl,hs2,_,_,rfl,by omega,a2,by omega,λi hi=>mono i _ #[0] #[0] pe,a5⟩
     | false=>exact kasC_pure ⟨rfl,hs2,_,_,rfl,by omega,by omega,by omega,a4,λi hi hn=>anti _ i hi hn pe⟩
   ·rintro c st'' s' ⟨rfl,hs',l,r,rfl,a1,a2,a3,a4,a5⟩;exact kasC_pure (h r s' hs' a2 (λi hi=>a4 i #[0]) a5)
 | false=>
  rw[tJ gW];refine kasC_bind (kI (kS (λx c st' s'=>st'=st/\Iv s'/\∃l o,c=(none,l,o)/\l<o/\x<o/\l<=hint/\P (hint-l)=false) (Q:=λc st' s'=>st'=st/\Iv s'/\∃l o,c=(none,l,o)/\l<o/\l<=hint/\P (hint-l)=false/\(o<=hint->P (hint-o)=true)) ?a ?b ⟨rfl,hs1,0,1,rfl,by omega,by omega,nY _,ph⟩) ?c);case a=>
   rintro x c st' s' _ hxn ⟨rfl,hs',l,o,rfl,a1,a2,a3,a4⟩;dsimp only;by_cases e:o ≥ hint+1
   ·rw[tK e];exact kasC_pure ⟨rfl,hs',l,o,rfl,a1,a3,a4,λz=>by omega⟩
   ·rw[tJ e];refine kasC_bind (ask #[0] hs' λs2 hs2=>?_);dsimp only;cases pe:P (hint-o)with
    | true=>exact kasC_pure ⟨rfl,hs2,l,o,rfl,a1,a3,a4,λ_=>pe⟩
    | false=>exact kasC_pure ⟨rfl,hs2,o,2*o+1,rfl,by omega,by omega,by omega,pe⟩
  case b=>
   rintro c st' s' ⟨rfl,hs',l,o,rfl,a1,a2,a3,a4⟩;exact⟨rfl,hs',l,o,rfl,a1,a3,a4,λz=>by omega⟩
  case c=>
   rintro c st' s' ⟨rfl,hs',l,o,rfl,a1,a3,a4,a5⟩;dsimp only;refine kasC_bind (kS (λx c st'' s'=>st''=st'/\Iv s'/\∃l r,c=(none,l,r)/\l<=r/\r<=n/\r-l<=n-x/\(∀i,i<l->P i=true)/\∀i,r<=i->i<n->P i=false) ?_ ?_ ⟨rfl,hs',hint+1-min o (hint+1),hint-l,rfl,by omega,by omega,by omega,λi hi=>mono i (hint-o) #[0] #[0] (a5 #[0]),λi hi hn=>anti _ i hi hn a4⟩)
   ·rintro x c st'' s' _ hxn ⟨rfl,hs',l,r,rfl,a1,a2,a3,a4,a5⟩;dsimp only;by_cases e:l ≥ r
    ·rw[tK e];exact kasC_pure (kasC_pure (h r s' hs' a2 (λi hi=>a4 i #[0]) a5))
    ·rw[tJ e];refine kasC_bind (ask #[0] hs' λs2 hs2=>?_);dsimp only;cases pe:P (l+(r-l)/2)with
     | true=>exact kasC_pure ⟨rfl,hs2,_,_,rfl,by omega,a2,by omega,λi hi=>mono i _ #[0] #[0] pe,a5⟩
     | false=>exact kasC_pure ⟨rfl,hs2,_,_,rfl,by omega,by omega,by omega,a4,λi hi hn=>anti _ i hi hn pe⟩
   ·rintro c st'' s' ⟨rfl,hs',l,r,rfl,a1,a2,a3,a4,a5⟩;exact kasC_pure (h r s' hs' a2 (λi hi=>a4 i #[0]) a5)
end
abbrev qC(st:SortSt)(g:Nat):SortSt:=SortSt.mk' (kindOf st) (arrOf st) (pendingOf st) g (failedOf st)
abbrev FH:Nat->StateT SortSt Sem Unit:=sortPriv% PySem.Builtin.setMinGallop
theorem BS{M:Model}{A:Around}{E:Value->Shared->Prop}{g:Nat}{st:SortSt}{s:Shared}{Q:Unit->SortSt->Shared->Prop}(h:Q () (qC st g) s):kasC M A E (FH g) Q st s:=kasC_modify h
abbrev KO:Array Keyed->Array Keyed->StateT SortSt Sem (Array Keyed):=sortPriv% PySem.Builtin.mergeLo
abbrev KP:Array Keyed->Array Keyed->StateT SortSt Sem (Array Keyed):=sortPriv% PySem.Builtin.mergeHi
section
variable{prog:Program}{w:World}{A:Around}{E:Value->Shared->Prop}{κ:SortKind}{it:Array Keyed}{N:Nat}{lt:Nat->Nat->Bool}{Iv:Shared->Prop}{st:SortSt}{s:Shared}
def kA(it:Array Keyed)(xs:List Nat):Array Keyed:=(xs.map (kas_item it)).toArray
theorem qK(xs:List Nat):(kA it xs).size=xs.length:=by simp [kA]
theorem uF(xs:List Nat):kA it xs=xs.toArray.map (kas_item it):=by simp [kA]
theorem wG(xs ys:List Nat):kA it xs++kA it ys=kA it (xs++ys):=by simp [kA]
theorem QG(xs:List Nat)(i:Nat):(kA it xs).push (kas_item it i)=kA it (xs++[i]):=by simp [kA]
theorem wF(xs:List Nat)(i j:Nat):(kA it xs).extract i j=kA it ((xs.drop i).take (j-i)):=by
 apply Array.toList_inj.mp;simp [kA,List.map_drop,nA]
theorem NA(xs:List Nat):(kA it xs).reverse=kA it xs.reverse:=by
 apply Array.toList_inj.mp;simp [kA]
theorem qZ{xs:List Nat}{i:Nat}{Q:Keyed->SortSt->Shared->Prop}(hi:i<xs.length)(h:Q (kas_item it (xs.getD i 0)) st s):kasC #[4] A E (elem' (kA it xs) i) Q st s:=by
 rw[uF];refine NV (by simpa using hi) ?_;have e:xs.toArray.getD i 0=xs.getD i 0:=by simp [Array.getD_eq_getD_getElem?,uY]
 rw[e];exact h
theorem QF(xs:List Nat)(i:Nat):(kA it xs).extract i (kA it xs).size=kA it (xs.drop i):=by
 rw[wF,qK]
 congr 1
 exact gI (by rw[List.length_drop];omega)
end
abbrev Rl(lt:Nat->Nat->Bool)(a b:Nat):Prop:=lt a b=true
structure MG(N:Nat)(lt:Nat->Nat->Bool)(xs ys:List Nat):Prop where
 o:LwD.Strict lt N
 nd:(xs++ys).Nodup
 bd:∀z∈xs++ys,z<N
 px:xs.Pairwise (Rl lt)
 py:ys.Pairwise (Rl lt)
theorem vI{xs:List Nat}{i:Nat}(h:i<xs.length):xs.getD i 0∈xs:=by
 have e:xs.getD i 0=xs[i]:=by simp [uY,h]
 rw[e];exact List.getElem_mem h
theorem qH{lt:Nat->Nat->Bool}{xs:List Nat}(p:xs.Pairwise (Rl lt)){i j:Nat}(h:i<j)(hj:j<xs.length):lt (xs.getD i 0) (xs.getD j 0)=true:=by
 have e:∀k,k<xs.length->xs.getD k 0=xs[k]! :=λk hk=>by simp [uY,hk]
 have e1:xs.getD i 0=xs[i]'#[0]:=by simp [uY,show i<xs.length by omega]
 have e2:xs.getD j 0=xs[j]:=by simp [uY,hj]
 rw[e1,e2];exact List.pairwise_iff_getElem.mp p i j #[0] hj h
theorem TK{xs:List Nat}{i:Nat}(h:i<xs.length):xs.drop i=xs.getD i 0::xs.drop (i+1):=by
 have e:xs.getD i 0=xs[i]:=by simp [uY,h]
 rw[e];exact List.drop_eq_getElem_cons h
theorem kN{xs:List Nat}{i z:Nat}(h:z∈xs.drop i):∃j,i<=j/\j<xs.length/\z=xs.getD j 0:=by
 obtain⟨k,hk,e⟩:=List.mem_iff_getElem.mp h;rw[List.length_drop]at hk;refine⟨i+k,by omega,by omega, ?_⟩;rw[<-e,List.getElem_drop];simp [uY,show i+k<xs.length by omega]
section
variable{N:Nat}{lt:Nat->Nat->Bool}{xs ys:List Nat}
theorem MG.xN(g:MG N lt xs ys){i:Nat}(h:i<xs.length):xs.getD i 0<N:=g.bd _ (List.mem_append_left _ (vI h))
theorem MG.yN(g:MG N lt xs ys){i:Nat}(h:i<ys.length):ys.getD i 0<N:=g.bd _ (gJ _ (vI h))
theorem MG.ne(g:MG N lt xs ys){i j:Nat}(hi:i<xs.length)(hj:j<ys.length):xs.getD i 0≠ys.getD j 0:=(mB.mp g.nd).2.2 _ (vI hi) _ (vI hj)
theorem MG.ab(g:MG N lt xs ys){i j:Nat}(hi:i<xs.length)(hj:j<ys.length)(h:lt (ys.getD j 0) (xs.getD i 0)=false):lt (xs.getD i 0) (ys.getD j 0)=true:=g.o.tot _ _ (g.yN hj) (g.xN hi) (λz=>g.ne hi hj z.symm) h
structure MI(lt:Nat->Nat->Bool)(xs ys zs:List Nat)(ia ib:Nat):Prop where
 pm:(zs++xs.drop ia++ys.drop ib).Perm (xs++ys)
 ra:(zs++xs.drop ia).Pairwise (Rl lt)
 rb:(zs++ys.drop ib).Pairwise (Rl lt)
theorem MI.pushA(g:MG N lt xs ys){zs:List Nat}{ia ib:Nat}(m:MI lt xs ys zs ia ib)(k:Nat)(hb:ib<ys.length)(h:∀i,i<k->lt (xs.getD (ia+i) 0) (ys.getD ib 0)=true):MI lt xs ys (zs++(xs.drop ia).take k) (ia+k) ib:=by
 have e:xs.drop ia=(xs.drop ia).take k++xs.drop (ia+k):=by rw[<-List.drop_drop,List.take_append_drop]
 have ra:=m.ra;have pm:=m.pm;rw[e,<-List.append_assoc]at ra pm;refine⟨pm,ra, ?_⟩;rw[List.append_assoc,List.pairwise_append];have rb:=List.pairwise_append.mp m.rb;have ra':=List.pairwise_append.mp (List.pairwise_append.mp ra).1;have lo:∀a∈(xs.drop ia).take k,∀b∈ys.drop ib,lt a b=true:=λa ha b hb'=>by
  obtain⟨q,hq,e⟩:=List.mem_iff_getElem.mp ha;rw[mD,List.length_drop]at hq;have ea:a=xs.getD (ia+q) 0:=by
   rw[<-e,List.getElem_take,List.getElem_drop];simp [uY,show ia+q<xs.length by omega]
  have h1:=h q #[0];rw[<-ea]at h1;obtain⟨j,j1,j2,rfl⟩:=kN hb';by_cases z:ib=j
  ·rw[<-z];exact h1
  ·exact g.o.tr _ _ _ h1 (qH g.py #[0] j2)
 refine⟨ra'.1,List.pairwise_append.mpr ⟨ra'.2.1,rb.2.1,lo⟩,λa ha b hb=>?_⟩;rcases mO.mp hb with hb | hb
 ·exact ra'.2.2 a ha b hb
 ·exact rb.2.2 a ha b hb
theorem MI.pushB(g:MG N lt xs ys){zs:List Nat}{ia ib:Nat}(m:MI lt xs ys zs ia ib)(k:Nat)(ha:ia<xs.length)(h:∀i,i<k->lt (ys.getD (ib+i) 0) (xs.getD ia 0)=true):MI lt xs ys (zs++(ys.drop ib).take k) ia (ib+k):=by
 have e:ys.drop ib=(ys.drop ib).take k++ys.drop (ib+k):=by rw[<-List.drop_drop,List.take_append_drop]
 have rb:=m.rb;rw[e,<-List.append_assoc]at rb;refine⟨?_, ?_,rb⟩
 ·refine List.Perm.trans ?_ m.pm;rw[List.append_assoc,List.append_assoc,List.append_assoc];refine List.Perm.append_left _ ?_
  conv=>rhs;rw[e]
  rw[<-List.append_assoc,<-List.append_assoc];exact List.Perm.append_right _ List.perm_append_comm
 ·rw[List.append_assoc,List.pairwise_append];have ra:=List.pairwise_append.mp m.ra;have rb':=List.pairwise_append.mp (List.pairwise_append.mp rb).1;have lo:∀b∈(ys.drop ib).take k,∀a∈xs.drop ia,lt b a=true:=λb hb a ha'=>by
   obtain⟨q,hq,e⟩:=List.mem_iff_getElem.mp hb;rw[mD,List.length_drop]at hq;have eb:b=ys.getD (ib+q) 0:=by
    rw[<-e,List.getElem_take,List.getElem_drop];simp [uY,show ib+q<ys.length by omega]
   have h1:=h q #[0];rw[<-eb]at h1;obtain⟨j,j1,j2,rfl⟩:=kN ha';by_cases z:ia=j
   ·rw[<-z];exact h1
   ·exact g.o.tr _ _ _ h1 (qH g.px #[0] j2)
  refine⟨rb'.1,List.pairwise_append.mpr ⟨rb'.2.1,ra.2.1,lo⟩,λa ha b hb=>?_⟩;rcases mO.mp hb with hb | hb
  ·exact rb'.2.2 a ha b hb
  ·exact ra.2.2 a ha b hb
theorem FK{xs:List Nat}{i:Nat}(h:i<xs.length):(xs.drop i).take 1=[xs.getD i 0]:=by rw[TK h];rfl
theorem MI.a1(g:MG N lt xs ys){zs:List Nat}{ia ib:Nat}(m:MI lt xs ys zs ia ib)(ha:ia<xs.length)(hb:ib<ys.length)(h:lt (xs.getD ia 0) (ys.getD ib 0)=true):MI lt xs ys (zs++[xs.getD ia 0]) (ia+1) ib:=by
 rw[<-FK ha];exact m.pushA g 1 hb λi hi=>by rw[show ia+i=ia by omega];exact h
theorem MI.b1(g:MG N lt xs ys){zs:List Nat}{ia ib:Nat}(m:MI lt xs ys zs ia ib)(ha:ia<xs.length)(hb:ib<ys.length)(h:lt (ys.getD ib 0) (xs.getD ia 0)=true):MI lt xs ys (zs++[ys.getD ib 0]) ia (ib+1):=by
 rw[<-FK hb];exact m.pushB g 1 ha λi hi=>by rw[show ib+i=ib by omega];exact h
structure MF(lt:Nat->Nat->Bool)(xs ys zs:List Nat):Prop where
 pm:zs.Perm (xs++ys)
 pw:zs.Pairwise (Rl lt)
theorem MI.doneB{zs:List Nat}{ia ib:Nat}(m:MI lt xs ys zs ia ib)(h:ys.length<=ib):MF lt xs ys (zs++xs.drop ia++ys.drop ib):=by
 refine⟨m.pm, ?_⟩;rw[List.drop_eq_nil_of_le h,List.append_nil];exact m.ra
theorem MI.lastA{zs:List Nat}{ia ib:Nat}(m:MI lt xs ys zs ia ib)(h:ia+1=xs.length)(l:∀j,j<ys.length->lt (ys.getD j 0) (xs.getD (xs.length-1) 0)=true):MF lt xs ys (zs++ys.drop ib++xs.drop ia):=by
 refine⟨?_, ?_⟩
 ·refine List.Perm.trans ?_ m.pm;rw[List.append_assoc,List.append_assoc];exact List.Perm.append_left _ List.perm_append_comm
 ·rw[List.pairwise_append];refine⟨m.rb,(List.pairwise_append.mp m.ra).2.1,λa ha b hb=>?_⟩;obtain⟨j,j1,j2,rfl⟩:=kN hb;rcases mO.mp ha with ha | ha
  ·exact(List.pairwise_append.mp m.ra).2.2 a ha _ hb
  ·obtain⟨i,i1,i2,rfl⟩:=kN ha;rw[show j=xs.length-1 by omega];exact l i i2
end
local macro_rules | `(tactic| trivial)=>do
 let n (s:String):=Lean.mkIdent (.str (.str (.str (.num (.str (.str (.str (.str (.str .anonymous "_private") "PySem") "Builtin") "List") "W1All") 0) "PySem") "Builtin") s)
 `(tactic| first | unfold $(n "gallop") | unfold $(n "mergeLo") | unfold $(n "mergeHi") | unfold $(n "mergeAt") | unfold $(n "setMinGallop"))
section
variable{prog:Program}{w:World}{A:Around}{E:Value->Shared->Prop}{κ:SortKind}{it:Array Keyed}{N:Nat}{lt:Nat->Nat->Bool}{Iv:Shared->Prop}{st:SortSt}{s:Shared}{xs ys:List Nat}
theorem CJ(zs:List Nat)(i j:Nat):kA it zs++(kA it xs).extract i (kA it xs).size++(kA it ys).extract j (kA it ys).size=kA it (zs++xs.drop i++ys.drop j):=by rw[QF,QF,wG,wG]
theorem bey_f(g:MG N lt xs ys){ia:Nat}{key:Nat}(hk:key<N)(i j:Nat)(hij:i<=j)(hj:ia+j<xs.length)(h:bey lt false key xs.toArray ia j=true):bey lt false key xs.toArray ia i=true:=by
 have e:∀k,xs.toArray.getD k 0=xs.getD k 0:=λk=>by simp [Array.getD_eq_getD_getElem?,uY]
 have h1:lt key (xs.getD (ia+j) 0)=false:=by
  have h:(!lt key (xs.toArray.getD (ia+j) 0))=true:=h;rw[e]at h;simpa using h
 show(!lt key (xs.toArray.getD (ia+i) 0))=true;rw[e];cases q:lt key (xs.getD (ia+i) 0)with
 | false=>rfl
 | true=>
  by_cases z:i=j
  ·rw[z,h1]at q;cases q
  ·rw[g.o.tr _ _ _ q (qH g.px #[0] hj)]at h1;cases h1
theorem bey_t(g:MG N lt xs ys){ib:Nat}{key:Nat}(i j:Nat)(hij:i<=j)(hj:ib+j<ys.length)(h:bey lt true key ys.toArray ib j=true):bey lt true key ys.toArray ib i=true:=by
 have e:∀k,ys.toArray.getD k 0=ys.getD k 0:=λk=>by simp [Array.getD_eq_getD_getElem?,uY]
 have h1:lt (ys.getD (ib+j) 0) key=true:=by
  have h:lt (ys.toArray.getD (ib+j) 0) key=true:=h
  rwa [e]at h
 show lt (ys.toArray.getD (ib+i) 0) key=true;rw[e];by_cases z:i=j
 ·rw[z];exact h1
 ·exact g.o.tr _ _ _ (qH g.py #[0] hj) h1
theorem NU(c:Cmp prog w A κ it N lt Iv)(g:MG N lt xs ys){j ia n hint:Nat}{Q:Option Nat->SortSt->Shared->Prop}(hk:kindOf st=κ)(hj:j<ys.length)(hn:ia+n<=xs.length)(hh:hint<n)(hs:Iv s)
  (h:∀r s',Iv s'->r<=n->(∀i,i<r->lt (xs.getD (ia+i) 0) (ys.getD j 0)=true)->(∀i,r<=i->i<n->lt (ys.getD j 0) (xs.getD (ia+i) 0)=true)->Q (some r) st s'):kasC #[4] A E (CN false (kas_item it (ys.getD j 0)) (kA it xs) ia n hint) Q st s:=by
 have e:∀k,xs.toArray.getD k 0=xs.getD k 0:=λk=>by simp [Array.getD_eq_getD_getElem?,uY]
 rw[uF];refine wL c hk (g.yN hj) (λi hi=>by rw[e];exact g.xN (by simpa using hi)) (by simpa using hn) hh hs (λi i' h1 h2 h3=>bey_f g (g.yN hj) i i' h1 #[0] h3) λr s' hs' hr h1 h2=>h r s' hs' hr (λi hi=>?_) λi hi hi'=>?_
 ·have q:(!lt (ys.getD j 0) (xs.toArray.getD (ia+i) 0))=true:=h1 i hi;rw[e]at q;exact g.ab #[0] hj (by simpa using q)
 ·have q:(!lt (ys.getD j 0) (xs.toArray.getD (ia+i) 0))=false:=h2 i hi hi';rw[e]at q;simpa using q
theorem NT(c:Cmp prog w A κ it N lt Iv)(g:MG N lt xs ys){j ib n hint:Nat}{Q:Option Nat->SortSt->Shared->Prop}(hk:kindOf st=κ)(hj:j<xs.length)(hn:ib+n<=ys.length)(hh:hint<n)(hs:Iv s)
  (h:∀r s',Iv s'->r<=n->(∀i,i<r->lt (ys.getD (ib+i) 0) (xs.getD j 0)=true)->(∀i,r<=i->i<n->lt (xs.getD j 0) (ys.getD (ib+i) 0)=true)->Q (some r) st s'):kasC #[4] A E (CN true (kas_item it (xs.getD j 0)) (kA it ys) ib n hint) Q st s:=by
 have e:∀k,ys.toArray.getD k 0=ys.getD k 0:=λk=>by simp [Array.getD_eq_getD_getElem?,uY]
 rw[uF];refine wL c hk (g.xN hj) (λi hi=>by rw[e];exact g.yN (by simpa using hi)) (by simpa using hn) hh hs (λi i' h1 h2 h3=>bey_t g i i' h1 #[0] h3) λr s' hs' hr h1 h2=>h r s' hs' hr (λi hi=>?_) λi hi hi'=>?_
 ·have q:lt (ys.toArray.getD (ib+i) 0) (xs.getD j 0)=true:=h1 i hi
  rwa [e]at q
 ·have q:lt (ys.toArray.getD (ib+i) 0) (xs.getD j 0)=false:=h2 i hi hi';rw[e]at q;exact g.ab hj #[0] q
def MFin(it:Array Keyed)(lt:Nat->Nat->Bool)(xs ys:List Nat)(Iv:Shared->Prop)(st:SortSt)(c:Option (Array Keyed))(st':SortSt)(s':Shared):Prop:=∃zs g',c=some (kA it zs)/\st'=qC st g'/\Iv s'/\MF lt xs ys zs
theorem MFin.doneB{zs:List Nat}{ia ib g':Nat}{s':Shared}(hs':Iv s')(m:MI lt xs ys zs ia ib)(e:ib=ys.length):MFin it lt xs ys Iv st (some (kA it zs++(kA it xs).extract ia xs.length++(kA it ys).extract ib ys.length)) (qC st g') s':=by
 have q:=CJ (it:=it) (xs:=xs) (ys:=ys) zs ia ib;rw[qK,qK]at q;exact⟨_,g',by rw[q],rfl,hs',m.doneB (Nat.le_of_eq e.symm)⟩
theorem MFin.lastA{zs:List Nat}{ia ib g':Nat}{s':Shared}(hs':Iv s')(m:MI lt xs ys zs ia ib)(e:ia+1=xs.length)(l:∀j,j<ys.length->lt (ys.getD j 0) (xs.getD (xs.length-1) 0)=true):MFin it lt xs ys Iv st (some (kA it zs++(kA it ys).extract ib ys.length++(kA it xs).extract ia xs.length)) (qC st g') s':=by
 have q:=CJ (it:=it) (xs:=ys) (ys:=xs) zs ib ia;rw[qK,qK]at q;exact⟨_,g',by rw[q],rfl,hs',m.lastA e l⟩
inductive LoI{τ:Type}(it:Array Keyed)(lt:Nat->Nat->Bool)(xs ys:List Nat)(Iv:Shared->Prop)(st:SortSt)(n:Nat):(Option (Array Keyed)×Array Keyed×Nat×Nat×τ)->SortSt->Shared->Prop
 | mk {zs:List Nat} {ia ib g':Nat} {r:τ} {s':Shared} (hs:Iv s') (m:MI lt xs ys zs ia ib) (a:ia+1<xs.length) (b:ib<ys.length) (n1:n<=ia+ib):LoI it lt xs ys Iv st n (none,kA it zs,ia,ib,r) (qC st g') s'
theorem JJ{α:Type}{x:StateT SortSt Sem α}{Q:α->SortSt->Shared->Prop}{β γ:Type}(C:β->γ->Prop)(F:β->γ->StateT SortSt Sem α)(h1:(∀a b,C a b->kasC #[4] A E (F a b) Q st s)->kasC #[4] A E x Q st s)(h2:∀a b,C a b->kasC #[4] A E (F a b) Q st s):kasC #[4] A E x Q st s:=h1 h2
theorem KG{α:Type}{x:StateT SortSt Sem α}{Q:α->SortSt->Shared->Prop}{β:Type}(C:β->Prop)(F:β->StateT SortSt Sem α)(h1:(∀a,C a->kasC #[4] A E (F a) Q st s)->kasC #[4] A E x Q st s)(h2:∀a,C a->kasC #[4] A E (F a) Q st s):kasC #[4] A E x Q st s:=h1 h2
theorem OX{α:Type}{x:StateT SortSt Sem α}{Q:α->SortSt->Shared->Prop}{β:Type}(F:β->StateT SortSt Sem α)(h1:(∀a,kasC #[4] A E (F a) Q st s)->kasC #[4] A E x Q st s)(h2:∀a,kasC #[4] A E (F a) Q st s):kasC #[4] A E x Q st s:=h1 h2
theorem kQ{α:Type}{c:Prop}{i:Decidable c}{a b:StateT SortSt Sem α}{Q:α->SortSt->Shared->Prop}(h:c)(k:kasC #[4] A E a Q st s):kasC #[4] A E (@ite _ c i a b) Q st s:=by
 rw[tK h];exact k
theorem kK{α:Type}{c:Prop}{i:Decidable c}{a b:StateT SortSt Sem α}{Q:α->SortSt->Shared->Prop}(h:¬c)(k:kasC #[4] A E b Q st s):kasC #[4] A E (@ite _ c i a b) Q st s:=by
 rw[tJ h];exact k
theorem ts_lo(c:Cmp prog w A κ it N lt Iv)(g:MG N lt xs ys){Q:Array Keyed->SortSt->Shared->Prop}(hk:kindOf st=κ)(x0:0<xs.length)(y0:0<ys.length)(h0:lt (ys.getD 0 0) (xs.getD 0 0)=true)(hl:∀j,j<ys.length->lt (ys.getD j 0) (xs.getD (xs.length-1) 0)=true)(hs:Iv s)
  (h:∀zs g' s',Iv s'->MF lt xs ys zs->Q (kA it zs) (qC st g') s'):kasC #[4] A E (KO (kA it xs) (kA it ys)) Q st s:=by
 have fin:∀{zs:List Nat} {ia ib g':Nat} {s':Shared},Iv s'->MI lt xs ys zs ia ib->ib=ys.length->Q (kA it zs++(kA it xs).extract ia (kA it xs).size++(kA it ys).extract ib (kA it ys).size) (qC st g') s':=λhs' m e=>by
  rw[CJ];exact h _ _ _ hs' (m.doneB (Nat.le_of_eq e.symm))
 have fla:∀{zs:List Nat} {ia ib g':Nat} {s':Shared},Iv s'->MI lt xs ys zs ia ib->ia+1=xs.length->Q (kA it zs++(kA it ys).extract ib (kA it ys).size++(kA it xs).extract ia (kA it xs).size) (qC st g') s':=λhs' m e=>by
  rw[CJ];exact h _ _ _ hs' (m.lastA e hl)
 have m0:MI lt xs ys [] 0 0:=⟨List.Perm.refl _,g.px,g.py⟩;have m1:MI lt xs ys [ys.getD 0 0] 0 1:=m0.b1 g x0 y0 h0;have es:∀zs:List Nat,∀i,(kA it zs).push (kas_item it i)=kA it (zs++[i]):=QG;have e1:(#[kas_item it (ys.getD 0 0)]:Array Keyed)=kA it [ys.getD 0 0]:=rfl;unfold KO
 trivial
 refine kasC_bind (kasC_lift (wpAny_rule ?_));dsimp only;rw[qK,qK];generalize hb:(λ(x:Nat) (r:Option (Array Keyed)×Array Keyed×Nat×Nat×Nat)=>(_:StateT SortSt Sem (ForInStep (Option (Array Keyed)×Array Keyed×Nat×Nat×Nat))))=f;refine kasC_bind (qZ y0 ?_);rw[e1];by_cases c1:1=ys.length
 ·refine kQ (beq_iff_eq.mpr c1) ?_;have:=fin (g':=gallopOf st) hs m1 c1;rw[qK,qK]at this;exact kasC_pure this
 ·refine kK (λz=>c1 (beq_iff_eq.mp z)) ?_;by_cases c2:0+1=xs.length
  ·refine kQ (beq_iff_eq.mpr c2) ?_;have:=fla (g':=gallopOf st) hs m1 c2;rw[qK,qK]at this;exact kasC_pure this
  ·refine kK (λz=>c2 (beq_iff_eq.mp z)) ?_;refine kasC_bind (kasC_get ?_);refine kasC_bind (kI (kS (λx c st' s'=>LoI it lt xs ys Iv st (x+1) c st' s')
    (Q:=λc st' s'=>MFin it lt xs ys Iv st c.1 st' s') ?step ?fin (.mk hs m1 #[0] #[0] #[0])) ?post)
   case fin=>
    rintro c st' s' ⟨hs',m,a1,b1,n1⟩;omega
   case post=>
    rintro c st' s' ⟨zs,g',e,rfl,hs',f⟩;obtain⟨c1,c2⟩:=c;have e:c1=some (kA it zs):=e;subst e;exact kasC_pure (h zs g' s' hs' f)
   case step=>
    rintro x c st' s' _ hx ⟨hs',m,a1,b1,n1⟩;rename_i zs ia ib g' mg;subst hb;dsimp only;generalize hb2:(λ(x:Nat) (r:Option (Array Keyed)×Array Keyed×Nat×Nat×Nat×Nat)=>(_:StateT SortSt Sem (ForInStep (Option (Array Keyed)×Array Keyed×Nat×Nat×Nat×Nat))))=f2;generalize hb3:(λ(x:Nat) (r:Option (Array Keyed)×Array Keyed×Nat×Nat×Nat×Nat×Nat)=>(_:StateT SortSt Sem (ForInStep (Option (Array Keyed)×Array Keyed×Nat×Nat×Nat×Nat×Nat))))=f3;refine kasC_bind (kI (kS (λx' c st' s'=>LoI it lt xs ys Iv st (x+1+x') c st' s')
     (Q:=λc st' s'=>MFin it lt xs ys Iv st c.1 st' s'∨LoI it lt xs ys Iv st (x+2) c st' s') ?istep ?ifin (.mk hs' m a1 b1 n1)) ?ipost)
    case ifin=>
     rintro c st' s' ⟨hs',m,a1,b1,n1⟩;omega
    case istep=>
     clear hs' m a1 b1 n1;rintro x' c st' s' _ hx' ⟨hs',m,a1,b1,n1⟩;rename_i zs ia ib g' r;obtain⟨ac,bc⟩:=r;subst hb2;dsimp only;refine kasC_bind (qZ b1 (kasC_bind (qZ #[0] ?_)));refine kasC_bind (JO c (g.yN b1) (g.xN #[0]) hk hs' λs2 hs2=>?_);dsimp only;cases q:lt (ys.getD ib 0) (xs.getD ia 0)with
     | true=>
      have m2:=m.b1 g #[0] b1 q;refine kQ rfl ?_;refine kasC_bind (qZ b1 ?_);rw[es];by_cases e:ib+1=ys.length
      ·refine kQ (beq_iff_eq.mpr e) ?_;exact kasC_pure (.inl (MFin.doneB hs2 m2 e))
      ·refine kK (λz=>e (beq_iff_eq.mp z)) ?_;split
       ·exact kasC_pure (.inr (.mk hs2 m2 a1 #[0] #[0]))
       ·exact kasC_pure (.mk hs2 m2 a1 #[0] #[0])
     | false=>
      have m2:=m.a1 g #[0] b1 (g.ab #[0] b1 q);refine kK gW ?_;refine kasC_bind (qZ #[0] ?_);rw[es];by_cases e:ia+1+1=xs.length
      ·refine kQ (beq_iff_eq.mpr e) ?_;exact kasC_pure (.inl (MFin.lastA hs2 m2 e hl))
      ·refine kK (λz=>e (beq_iff_eq.mp z)) ?_;split
       ·exact kasC_pure (.inr (.mk hs2 m2 #[0] b1 #[0]))
       ·exact kasC_pure (.mk hs2 m2 #[0] b1 #[0])
    case ipost=>
     clear hs' m a1 b1 n1;rintro c st' s' (⟨zs,g',e,rfl,hs',f⟩ | ⟨hs',m,a1,b1,n1⟩)
     ·obtain⟨c1,c2⟩:=c;have e:c1=some (kA it zs):=e;subst e;exact kasC_pure ⟨zs,g',rfl,rfl,hs',f⟩
     ·dsimp only;refine kasC_bind (kasC_lift (wpAny_rule ?_));refine kasC_bind (kI (kS (λ_ c st' s'=>LoI it lt xs ys Iv st (x+2) c st' s')
       (Q:=λc st' s'=>MFin it lt xs ys Iv st c.1 st' s'∨LoI it lt xs ys Iv st (x+2) c st' s') ?gstep (λ_ _ _ z=>.inr z) (.mk hs' m a1 b1 n1)) ?gpost)
      case gpost=>
       clear hs' m a1 b1 n1;rintro c st' s' (⟨zs,g',e,rfl,hs',f⟩ | ⟨hs',m,a1,b1,n1⟩)
       ·obtain⟨c1,c2⟩:=c;have e:c1=some (kA it zs):=e;subst e;exact kasC_pure ⟨zs,g',rfl,rfl,hs',f⟩
       ·rename_i zs ia ib g' r;obtain⟨mg,ac,bc⟩:=r;dsimp only;exact kasC_bind (BS (kasC_pure (.mk hs' m a1 b1 #[0])))
      case gstep=>
       clear hs' m a1 b1 n1;rintro x' c st' s' _ _ ⟨hs',m,a1,b1,n1⟩;rename_i zs ia ib g' r;obtain⟨mg,ac,bc⟩:=r;subst hb3;dsimp only;apply OX (β:=Nat);case h1=>
        intro key;by_cases e0:mg>1
        ·refine kQ e0 ?_;generalize mg-1=mg2;exact key mg2
        ·refine kK e0 ?_;exact key mg
       intro mg2;refine kasC_bind (BS ?_);refine kasC_bind (qZ b1 ?_);refine kasC_bind (NU c g (ia:=ia) (n:=xs.length-ia) hk b1 #[0] #[0] hs' λk s2 hs2 k1 k2 k3=>?_);dsimp only;have kl:ia+k+1<=xs.length:=by
        rcases Nat.lt_or_ge (ia+k) xs.length with z | z
        ·exact z
        ·have q1:=k2 (xs.length-1-ia) #[0];rw[show ia+(xs.length-1-ia)=xs.length-1 by omega]at q1;have q2:=hl ib b1;rw[g.o.as _ _ q1]at q2;cases q2
       have hh:=k3 k uU #[0];apply JJ (β:=List Nat) (γ:=Nat) (C:=λzs2 ja=>MI lt xs ys zs2 ja ib/\ja+1<xs.length/\x+2<=ja+ib/\lt (ys.getD ib 0) (xs.getD ja 0)=true);case h1=>
        intro key;by_cases e1:k>0
        ·have ex:kA it zs++(kA it xs).extract ia (ia+k)=kA it (zs++(xs.drop ia).take k):=by rw[wF,Nat.add_sub_cancel_left,wG]
         have m2:=m.pushA g k b1 k2;refine kQ e1 ?_;rw[ex];by_cases e2:ia+k+1=xs.length
         ·refine kQ (beq_iff_eq.mpr e2) ?_;exact kasC_pure (.inl (MFin.lastA hs2 m2 e2 hl))
         refine kK (λz=>e2 (beq_iff_eq.mp z)) (kK (λz=>by have:=beq_iff_eq.mp z;omega) ?_);have cc:MI lt xs ys _ (ia+k) ib/\ia+k+1<xs.length/\x+2<=ia+k+ib/\lt (ys.getD ib 0) (xs.getD (ia+k) 0)=true:=⟨m2,by omega,by omega,hh⟩;generalize zs++(xs.drop ia).take k=zs2 at cc;generalize ia+k=ja at cc;exact key zs2 ja cc
        ·obtain rfl:k=0:=by omega
         refine kK e1 ?_;exact key zs ia ⟨m,a1,n1,hh⟩
       rintro zs2 ja ⟨m2,kk,n2,hh⟩;clear m a1 n1 k1 k2 k3 kl;try dsimp only
       refine kasC_bind (qZ b1 ?_);rw[es];have m3:=m2.b1 g #[0] b1 hh;by_cases e3:ib+1=ys.length
       ·refine kQ (beq_iff_eq.mpr e3) ?_;exact kasC_pure (.inl (MFin.doneB hs2 m3 e3))
       refine kK (λz=>e3 (beq_iff_eq.mp z)) ?_;refine kasC_bind (qZ (Nat.lt_of_succ_lt kk) ?_);refine kasC_bind (NT c g (ib:=ib+1) (n:=ys.length-(ib+1)) hk (Nat.lt_of_succ_lt kk) #[0] #[0] hs2 λr s3 hs3 r1 r2 r3=>?_);dsimp only;apply JJ (β:=List Nat) (γ:=Nat) (C:=λzs4 jb=>MI lt xs ys zs4 (ja+1) jb/\jb<ys.length/\x+2<=ja+1+jb);case h1=>
        intro key;by_cases e4:r>0
        ·have ex2:kA it (zs2++[ys.getD ib 0])++(kA it ys).extract (ib+1) (ib+1+r)=kA it (zs2++[ys.getD ib 0]++(ys.drop (ib+1)).take r):=by rw[wF,Nat.add_sub_cancel_left,wG]
         have m4:=m3.pushB g r (Nat.lt_of_succ_lt kk) r2;refine kQ e4 ?_;rw[ex2];by_cases e5:ib+1+r=ys.length
         ·refine kQ (beq_iff_eq.mpr e5) ?_;exact kasC_pure (.inl (MFin.doneB hs3 m4 e5))
         refine kK (λz=>e5 (beq_iff_eq.mp z)) ?_;refine kasC_bind (qZ (Nat.lt_of_succ_lt kk) ?_);rw[es];have cc:=And.intro (m4.a1 g (Nat.lt_of_succ_lt kk) (show ib+1+r<ys.length by omega) (r3 _ uU #[0])) (And.intro (show ib+1+r<ys.length by omega) (show x+2<=ja+1+(ib+1+r) by omega));generalize zs2++[ys.getD ib 0]++(ys.drop (ib+1)).take r++[xs.getD ja 0]=zs4 at cc;generalize ib+1+r=jb at cc;exact key zs4 jb cc
        ·obtain rfl:r=0:=by omega
         refine kK e4 ?_;refine kasC_bind (qZ (Nat.lt_of_succ_lt kk) ?_);rw[es];exact key _ (ib+1) ⟨m3.a1 g (Nat.lt_of_succ_lt kk) #[0] (r3 0 uU #[0]),by omega,by omega⟩
       rintro zs4 jb ⟨m5,bb,n5⟩;try dsimp only
       split
       ·rename_i e6;exact kasC_pure (.inl (MFin.lastA hs3 m5 (beq_iff_eq.mp e6) hl))
       ·rename_i e6;have e7:=mt beq_iff_eq.mpr e6;split
        ·exact kasC_pure (.inr (.mk hs3 m5 #[0] bb #[0]))
        ·exact kasC_pure (.mk hs3 m5 #[0] bb #[0])
end
theorem qA{xs:List Nat}{n z:Nat}(h:z∈xs.take n):∃j,j<n/\j<xs.length/\z=xs.getD j 0:=by
 obtain⟨k,hk,e⟩:=List.mem_iff_getElem.mp h;rw[mD]at hk;refine⟨k,by omega,by omega, ?_⟩;rw[<-e,List.getElem_take];simp [uY,show k<xs.length by omega]
theorem yY{xs:List Nat}{a n z:Nat}(h:z∈(xs.drop a).take n):∃j,a<=j/\j<a+n/\j<xs.length/\z=xs.getD j 0:=by
 obtain⟨k,hk,e⟩:=List.mem_iff_getElem.mp h;rw[mD,List.length_drop]at hk;refine⟨a+k,by omega,by omega,by omega, ?_⟩;rw[<-e,List.getElem_take,List.getElem_drop];simp [uY,show a+k<xs.length by omega]
theorem uI{xs:List Nat}{a n:Nat}(h:a<=n):xs.take n=xs.take a++(xs.drop a).take (n-a):=by
 conv=>lhs;rw[show n=a+(n-a) by omega,List.take_add]
structure MJ(lt:Nat->Nat->Bool)(xs ys zs:List Nat)(na nb:Nat):Prop where
 pm:(xs.take na++ys.take nb++zs).Perm (xs++ys)
 ra:(xs.take na++zs).Pairwise (Rl lt)
 rb:(ys.take nb++zs).Pairwise (Rl lt)
section
variable{N:Nat}{lt:Nat->Nat->Bool}{xs ys:List Nat}
theorem MJ.pushA(g:MG N lt xs ys){zs:List Nat}{na nb a:Nat}(m:MJ lt xs ys zs na nb)(ha:a<=na)(nb0:0<nb)(hb:nb<=ys.length)(h:∀i,a<=i->i<na->lt (ys.getD (nb-1) 0) (xs.getD i 0)=true):MJ lt xs ys ((xs.drop a).take (na-a)++zs) a nb:=by
 have ra:=m.ra;have pm:=m.pm;rw[uI ha]at ra pm;rw[List.append_assoc]at ra;refine⟨?_,ra, ?_⟩
 ·refine List.Perm.trans ?_ pm;rw[List.append_assoc,List.append_assoc,List.append_assoc];refine List.Perm.append_left _ ?_;rw[<-List.append_assoc,<-List.append_assoc];exact List.Perm.append_right _ List.perm_append_comm
 ·have ra':=List.pairwise_append.mp (List.pairwise_append.mp ra).2.1;have rb:=List.pairwise_append.mp m.rb;refine List.pairwise_append.mpr ⟨rb.1,(List.pairwise_append.mp ra).2.1,λy hy z hz=>?_⟩;rcases mO.mp hz with hz | hz
  ·obtain⟨j,j1,j2,rfl⟩:=qA hy;obtain⟨i,i1,i2,i3,rfl⟩:=yY hz;have h1:=h i i1 #[0];by_cases z:j=nb-1
   ·rw[z];exact h1
   ·exact g.o.tr _ _ _ (qH g.py #[0] #[0]) h1
  ·exact rb.2.2 y hy z hz
theorem MJ.pushB(g:MG N lt xs ys){zs:List Nat}{na nb b:Nat}(m:MJ lt xs ys zs na nb)(hb:b<=nb)(na0:0<na)(ha:na<=xs.length)(h:∀i,b<=i->i<nb->lt (xs.getD (na-1) 0) (ys.getD i 0)=true):MJ lt xs ys ((ys.drop b).take (nb-b)++zs) na b:=by
 have rb:=m.rb;have pm:=m.pm;rw[uI hb]at rb pm;rw[List.append_assoc]at rb;refine⟨?_, ?_,rb⟩
 ·refine List.Perm.trans ?_ pm;simp only[List.append_assoc];exact List.Perm.refl _
 ·have rb':=List.pairwise_append.mp (List.pairwise_append.mp rb).2.1;have ra:=List.pairwise_append.mp m.ra;refine List.pairwise_append.mpr ⟨ra.1,(List.pairwise_append.mp rb).2.1,λy hy z hz=>?_⟩;rcases mO.mp hz with hz | hz
  ·obtain⟨j,j1,j2,rfl⟩:=qA hy;obtain⟨i,i1,i2,i3,rfl⟩:=yY hz;have h1:=h i i1 #[0];by_cases z:j=na-1
   ·rw[z];exact h1
   ·exact g.o.tr _ _ _ (qH g.px #[0] #[0]) h1
  ·exact ra.2.2 y hy z hz
theorem mid1{xs:List Nat}{n:Nat}(h0:0<n)(h:n<=xs.length):(xs.drop (n-1)).take (n-(n-1))=[xs.getD (n-1) 0]:=by
 rw[show n-(n-1)=1 by omega];exact FK #[0]
theorem MJ.a1(g:MG N lt xs ys){zs:List Nat}{na nb:Nat}(m:MJ lt xs ys zs na nb)(na0:0<na)(ha:na<=xs.length)(nb0:0<nb)(hb:nb<=ys.length)(h:lt (ys.getD (nb-1) 0) (xs.getD (na-1) 0)=true):MJ lt xs ys (xs.getD (na-1) 0::zs) (na-1) nb:=by
 have:=m.pushA g (Nat.sub_le na 1) nb0 hb λi h1 h2=>by rw[show i=na-1 by omega];exact h
 rwa [mid1 na0 ha]at this
theorem MJ.b1(g:MG N lt xs ys){zs:List Nat}{na nb:Nat}(m:MJ lt xs ys zs na nb)(na0:0<na)(ha:na<=xs.length)(nb0:0<nb)(hb:nb<=ys.length)(h:lt (xs.getD (na-1) 0) (ys.getD (nb-1) 0)=true):MJ lt xs ys (ys.getD (nb-1) 0::zs) na (nb-1):=by
 have:=m.pushB g (Nat.sub_le nb 1) na0 ha λi h1 h2=>by rw[show i=nb-1 by omega];exact h
 rwa [mid1 nb0 hb]at this
theorem MJ.doneA{zs:List Nat}{na nb:Nat}(m:MJ lt xs ys zs na nb)(h:na=0):MF lt xs ys (xs.take na++ys.take nb++zs):=by
 refine⟨m.pm, ?_⟩;rw[h,List.take_zero,List.nil_append];exact m.rb
theorem MJ.firstB(g:MG N lt xs ys){zs:List Nat}{na nb:Nat}(m:MJ lt xs ys zs na nb)(h:nb=1)(x0:0<xs.length)(l:lt (ys.getD 0 0) (xs.getD 0 0)=true):MF lt xs ys (ys.take nb++xs.take na++zs):=by
 refine⟨?_, ?_⟩
 ·refine List.Perm.trans ?_ m.pm;exact List.Perm.append_right _ List.perm_append_comm
 ·have rb:=List.pairwise_append.mp m.rb;rw[List.append_assoc];refine List.pairwise_append.mpr ⟨rb.1,m.ra,λy hy z hz=>?_⟩;rcases mO.mp hz with hz | hz
  ·obtain⟨j,j1,j2,rfl⟩:=qA hy;obtain⟨i,i1,i2,rfl⟩:=qA hz;rw[show j=0 by omega];by_cases z:i=0
   ·rw[z];exact l
   ·exact g.o.tr _ _ _ l (qH g.px #[0] i2)
  ·exact rb.2.2 y hy z hz
end
local macro_rules | `(tactic| trivial)=>do
 let n (s:String):=Lean.mkIdent (.str (.str (.str (.num (.str (.str (.str (.str (.str .anonymous "_private") "PySem") "Builtin") "List") "W1All") 0) "PySem") "Builtin") s)
 `(tactic| first | unfold $(n "gallop") | unfold $(n "mergeLo") | unfold $(n "mergeHi") | unfold $(n "mergeAt") | unfold $(n "setMinGallop"))
section
variable{prog:Program}{w:World}{A:Around}{E:Value->Shared->Prop}{κ:SortKind}{it:Array Keyed}{N:Nat}{lt:Nat->Nat->Bool}{Iv:Shared->Prop}{st:SortSt}{s:Shared}{xs ys:List Nat}
theorem KZ(os:List Nat)(i j:Nat):(kA it xs).extract 0 i++(kA it ys).extract 0 j++(kA it os).reverse=kA it (xs.take i++ys.take j++os.reverse):=by rw[wF,wF,NA,wG,wG];rfl
theorem MFin.doneA{os:List Nat}{na nb g':Nat}{s':Shared}(hs':Iv s')(m:MJ lt xs ys os.reverse na nb)(e:na=0):MFin it lt xs ys Iv st (some ((kA it xs).extract 0 na++(kA it ys).extract 0 nb++(kA it os).reverse)) (qC st g') s':=⟨_,g',by rw[KZ],rfl,hs',m.doneA e⟩
theorem MFin.firstB(g:MG N lt xs ys){os:List Nat}{na nb g':Nat}{s':Shared}(hs':Iv s')(m:MJ lt xs ys os.reverse na nb)(e:nb=1)(x0:0<xs.length)(l:lt (ys.getD 0 0) (xs.getD 0 0)=true):MFin it lt xs ys Iv st (some ((kA it ys).extract 0 nb++(kA it xs).extract 0 na++(kA it os).reverse)) (qC st g') s':=⟨_,g',by rw[KZ],rfl,hs',m.firstB g e x0 l⟩
inductive HiI{τ:Type}(it:Array Keyed)(lt:Nat->Nat->Bool)(xs ys:List Nat)(Iv:Shared->Prop)(st:SortSt)(n:Nat):(Option (Array Keyed)×Nat×Nat×Array Keyed×τ)->SortSt->Shared->Prop
 | mk {os:List Nat} {na nb g':Nat} {r:τ} {s':Shared} (hs:Iv s') (m:MJ lt xs ys os.reverse na nb) (a:0<na/\na<=xs.length) (b:1<nb/\nb<=ys.length) (n1:n+na+nb<=xs.length+ys.length):HiI it lt xs ys Iv st n (none,na,nb,kA it os,r) (qC st g') s'
theorem ts_hi(c:Cmp prog w A κ it N lt Iv)(g:MG N lt xs ys){Q:Array Keyed->SortSt->Shared->Prop}(hk:kindOf st=κ)(x0:0<xs.length)(y0:0<ys.length)(h0:lt (ys.getD 0 0) (xs.getD 0 0)=true)(hl:∀j,j<ys.length->lt (ys.getD j 0) (xs.getD (xs.length-1) 0)=true)(hs:Iv s)
  (h:∀zs g' s',Iv s'->MF lt xs ys zs->Q (kA it zs) (qC st g') s'):kasC #[4] A E (KP (kA it xs) (kA it ys)) Q st s:=by
 have out:∀{c:Option (Array Keyed)} {st':SortSt} {s':Shared},MFin it lt xs ys Iv st c st' s'->∃r,c=some r/\Q r st' s':=λ⟨zs,g',e,e2,hs',f⟩=>⟨_,e,by rw[e2];exact h zs g' _ hs' f⟩;have m0:MJ lt xs ys [] xs.length ys.length:=by
  refine⟨?_, ?_, ?_⟩<;>simp only[mG,List.append_nil]
  ·exact List.Perm.refl _
  ·exact g.px
  ·exact g.py
 have m1:MJ lt xs ys ([xs.getD (xs.length-1) 0]:List Nat).reverse (xs.length-1) ys.length:=m0.a1 g x0 uU y0 uU (hl _ #[0]);have es:∀zs:List Nat,∀i,(kA it zs).push (kas_item it i)=kA it (zs++[i]):=QG;have er:∀(os:List Nat) (i:Nat),(os++[i]).reverse=i::os.reverse:=λos i=>by rw[List.reverse_append];rfl
 have e1:(#[kas_item it (xs.getD (xs.length-1) 0)]:Array Keyed)=kA it [xs.getD (xs.length-1) 0]:=rfl;unfold KP
 trivial
 refine kasC_bind (kasC_lift (wpAny_rule ?_));dsimp only;rw[qK,qK];generalize hb:(λ(x:Nat) (r:Option (Array Keyed)×Nat×Nat×Array Keyed×Nat)=>(_:StateT SortSt Sem (ForInStep (Option (Array Keyed)×Nat×Nat×Array Keyed×Nat))))=f;refine kasC_bind (qZ #[0] ?_);rw[e1];by_cases c1:xs.length-1=0
 ·refine kQ (beq_iff_eq.mpr c1) ?_;obtain⟨r,e,q⟩:=out (MFin.doneA (g':=gallopOf st) hs m1 c1);cases e;exact kasC_pure q
 ·refine kK (λz=>c1 (beq_iff_eq.mp z)) ?_;by_cases c2:ys.length=1
  ·refine kQ (beq_iff_eq.mpr c2) ?_;obtain⟨r,e,q⟩:=out (MFin.firstB g (g':=gallopOf st) hs m1 c2 x0 h0);cases e;exact kasC_pure q
  ·refine kK (λz=>c2 (beq_iff_eq.mp z)) ?_;refine kasC_bind (kasC_get ?_);refine kasC_bind (kI (kS (a:=0) (b:=xs.length+ys.length) (λx c st' s'=>HiI it lt xs ys Iv st (x+1) c st' s')
    (Q:=λc st' s'=>MFin it lt xs ys Iv st c.1 st' s') ?step ?fin (.mk hs m1 ⟨by omega,by omega⟩ ⟨by omega,by omega⟩ #[0])) ?post)
   case fin=>
    rintro c st' s' ⟨hs',m,a1,b1,n1⟩;omega
   case post=>
    rintro c st' s' f;obtain⟨c1,c2⟩:=c;obtain⟨r,e,q⟩:=out f;have e:c1=some r:=e;subst e;exact kasC_pure q
   case step=>
    rintro x c st' s' _ hx ⟨hs',m,a1,b1,n1⟩;rename_i os na nb g' mg;subst hb;dsimp only;generalize hb2:(λ(x:Nat) (r:Option (Array Keyed)×Nat×Nat×Array Keyed×Nat×Nat)=>(_:StateT SortSt Sem (ForInStep (Option (Array Keyed)×Nat×Nat×Array Keyed×Nat×Nat))))=f2;generalize hb3:(λ(x:Nat) (r:Option (Array Keyed)×Nat×Nat×Array Keyed×Nat×Nat×Nat)=>(_:StateT SortSt Sem (ForInStep (Option (Array Keyed)×Nat×Nat×Array Keyed×Nat×Nat×Nat))))=f3;refine kasC_bind (kI (kS (λx' c st' s'=>HiI it lt xs ys Iv st (x+1+x') c st' s')
     (Q:=λc st' s'=>MFin it lt xs ys Iv st c.1 st' s'∨HiI it lt xs ys Iv st (x+2) c st' s') ?istep ?ifin (.mk hs' m a1 b1 n1)) ?ipost)
    case ifin=>
     rintro c st' s' ⟨hs',m,a1,b1,n1⟩;omega
    case istep=>
     clear hs' m a1 b1 n1;rintro x' c st' s' _ hx' ⟨hs',m,a1,b1,n1⟩;rename_i os na nb g' r;obtain⟨ac,bc⟩:=r;subst hb2;dsimp only;refine kasC_bind (qZ #[0] (kasC_bind (qZ #[0] ?_)));refine kasC_bind (JO c (g.yN #[0]) (g.xN #[0]) hk hs' λs2 hs2=>?_);dsimp only;cases q:lt (ys.getD (nb-1) 0) (xs.getD (na-1) 0)with
     | true=>
      have m2:=m.a1 g a1.1 a1.2 #[0] b1.2 q;rw[<-er]at m2;refine kQ rfl ?_;refine kasC_bind (qZ #[0] ?_);rw[es];by_cases e:na-1=0
      ·refine kQ (beq_iff_eq.mpr e) ?_;exact kasC_pure (.inl (MFin.doneA hs2 m2 e))
      ·refine kK (λz=>e (beq_iff_eq.mp z)) ?_;split
       ·exact kasC_pure (.inr (.mk hs2 m2 ⟨by omega,by omega⟩ b1 #[0]))
       ·exact kasC_pure (.mk hs2 m2 ⟨by omega,by omega⟩ b1 #[0])
     | false=>
      have m2:=m.b1 g a1.1 a1.2 #[0] b1.2 (g.ab #[0] #[0] q);rw[<-er]at m2;refine kK gW ?_;refine kasC_bind (qZ #[0] ?_);rw[es];by_cases e:nb-1=1
      ·refine kQ (beq_iff_eq.mpr e) ?_;exact kasC_pure (.inl (MFin.firstB g hs2 m2 e x0 h0))
      ·refine kK (λz=>e (beq_iff_eq.mp z)) ?_;split
       ·exact kasC_pure (.inr (.mk hs2 m2 a1 ⟨by omega,by omega⟩ #[0]))
       ·exact kasC_pure (.mk hs2 m2 a1 ⟨by omega,by omega⟩ #[0])
    case ipost=>
     clear hs' m a1 b1 n1;rintro c st' s' (f | ⟨hs',m,a1,b1,n1⟩)
     ·obtain⟨c1,c2⟩:=c;obtain⟨zs,g',e,e2,hs',f⟩:=f;have e:c1=some (kA it zs):=e;subst e e2;exact kasC_pure ⟨zs,g',rfl,rfl,hs',f⟩
     ·dsimp only;refine kasC_bind (kasC_lift (wpAny_rule ?_));refine kasC_bind (kI (kS (λ_ c st' s'=>HiI it lt xs ys Iv st (x+2) c st' s')
       (Q:=λc st' s'=>MFin it lt xs ys Iv st c.1 st' s'∨HiI it lt xs ys Iv st (x+2) c st' s') ?gstep (λ_ _ _ z=>.inr z) (.mk hs' m a1 b1 n1)) ?gpost)
      case gpost=>
       clear hs' m a1 b1 n1;rintro c st' s' (f | ⟨hs',m,a1,b1,n1⟩)
       ·obtain⟨c1,c2⟩:=c;obtain⟨zs,g',e,e2,hs',f⟩:=f;have e:c1=some (kA it zs):=e;subst e e2;exact kasC_pure ⟨zs,g',rfl,rfl,hs',f⟩
       ·rename_i os na nb g' r;obtain⟨mg,ac,bc⟩:=r;dsimp only;exact kasC_bind (BS (kasC_pure (.mk hs' m a1 b1 #[0])))
      case gstep=>
       clear hs' m a1 b1 n1;rintro x' c st' s' _ _ ⟨hs',m,a1,b1,n1⟩;rename_i os na nb g' r;obtain⟨mg,ac,bc⟩:=r;subst hb3;dsimp only;apply OX (β:=Nat);case h1=>
        intro key;by_cases e0:mg>1
        ·refine kQ e0 ?_;generalize mg-1=mg2;exact key mg2
        ·refine kK e0 ?_;exact key mg
       intro mg2;refine kasC_bind (BS ?_);refine kasC_bind (qZ #[0] ?_);refine kasC_bind (NU c g (ia:=0) (n:=na) hk (show nb-1<ys.length by omega) #[0] #[0] hs' λk s2 hs2 k1 k2 k3=>?_);dsimp only;simp only[Nat.zero_add]at k2 k3;apply KG (β:=List Nat) (C:=λos2=>MJ lt xs ys os2.reverse k nb/\(0<k/\k<=xs.length)/\x+2+k+nb<=xs.length+ys.length);case h1=>
        intro key;by_cases e1:na-k>0
        ·have m2:=m.pushA g k1 #[0] b1.2 k3;have ex:kA it os++((kA it xs).extract k na).reverse=kA it (os++((xs.drop k).take (na-k)).reverse):=by rw[wF,NA,wG]
         have eo:(xs.drop k).take (na-k)++os.reverse=(os++((xs.drop k).take (na-k)).reverse).reverse:=by rw[List.reverse_append,List.reverse_reverse]
         rw[eo]at m2;refine kQ e1 ?_;rw[ex];by_cases e2:k=0
         ·refine kQ (beq_iff_eq.mpr e2) ?_;exact kasC_pure (.inl (MFin.doneA hs2 m2 e2))
         refine kK (λz=>e2 (beq_iff_eq.mp z)) ?_;generalize os++((xs.drop k).take (na-k)).reverse=os2 at m2;exact key os2 ⟨m2,by omega,by omega⟩
        ·obtain rfl:k=na:=by omega
         refine kK e1 ?_;exact key os ⟨m,a1,n1⟩
       rintro os2 ⟨m2,aa,n2⟩;have h5:=k2 (k-1) #[0];clear m a1 n1 k1 k2 k3;try dsimp only
       have m3:=m2.b1 g aa.1 aa.2 #[0] b1.2 h5;rw[<-er]at m3;refine kasC_bind (qZ #[0] ?_);rw[es];by_cases e3:nb-1=1
       ·refine kQ (beq_iff_eq.mpr e3) ?_;exact kasC_pure (.inl (MFin.firstB g hs2 m3 e3 x0 h0))
       refine kK (λz=>e3 (beq_iff_eq.mp z)) ?_;refine kasC_bind (qZ #[0] ?_);refine kasC_bind (NT c g (ib:=0) (n:=nb-1) hk (show _-1<xs.length by omega) #[0] #[0] hs2 λr s3 hs3 r1 r2 r3=>?_);dsimp only;simp only[Nat.zero_add]at r2 r3;have rp:0<r:=by
        rcases Nat.eq_zero_or_pos r with z | z
        ·have q1:=r3 0 #[0] #[0];have q2:lt (ys.getD 0 0) (xs.getD (k-1) 0)=true:=by
          by_cases w:k-1=0
          ·rw[w];exact h0
          ·exact g.o.tr _ _ _ h0 (qH g.px #[0] #[0])
         rw[g.o.as _ _ q1]at q2;cases q2
        ·exact z
       generalize os2++[ys.getD (nb-1) 0]=os3 at m3;apply KG (β:=List Nat) (C:=λos4=>MJ lt xs ys os4.reverse k r/\(1<r/\r<=ys.length));case h1=>
        intro key;by_cases e4:nb-1-r>0
        ·have m4:=m3.pushB g r1 aa.1 aa.2 r3;have ex2:kA it os3++((kA it ys).extract r (nb-1)).reverse=kA it (os3++((ys.drop r).take (nb-1-r)).reverse):=by rw[wF,NA,wG]
         have eo2:(ys.drop r).take (nb-1-r)++os3.reverse=(os3++((ys.drop r).take (nb-1-r)).reverse).reverse:=by rw[List.reverse_append,List.reverse_reverse]
         rw[eo2]at m4;refine kQ e4 ?_;rw[ex2];by_cases e5:r=1
         ·refine kQ (beq_iff_eq.mpr e5) ?_;exact kasC_pure (.inl (MFin.firstB g hs3 m4 e5 x0 h0))
         refine kK (λz=>e5 (beq_iff_eq.mp z)) (kK (λz=>by have:=beq_iff_eq.mp z;omega) ?_);generalize os3++((ys.drop r).take (nb-1-r)).reverse=os4 at m4;exact key os4 ⟨m4,by omega⟩
        ·obtain rfl:r=nb-1:=by omega
         refine kK e4 ?_;exact key os3 ⟨m3,by omega⟩
       rintro os4 ⟨m4,bb⟩;have h6:=r2 (r-1) #[0];have n3:x+3+k+r<=xs.length+ys.length:=by omega
       clear m2 m3 n2 r1 r2 r3;try dsimp only
       have m5:=m4.a1 g aa.1 aa.2 #[0] bb.2 h6;rw[<-er]at m5;refine kasC_bind (qZ #[0] ?_);rw[es];split
       ·rename_i e6;exact kasC_pure (.inl (MFin.doneA hs3 m5 (beq_iff_eq.mp e6)))
       ·rename_i e6;have e7:=mt beq_iff_eq.mpr e6;split
        ·exact kasC_pure (.inr (.mk hs3 m5 ⟨by omega,by omega⟩ bb #[0]))
        ·exact kasC_pure (.mk hs3 m5 ⟨by omega,by omega⟩ bb #[0])
end
theorem sub_e1(i d a:Nat)(h:a<d):i+(d-1-a)=i+(i+d)-1-(i+a):=by omega
theorem sub_e2(i d a:Nat)(h:¬a<d):i+d+(a-d)=i+a:=by omega
theorem QB{α:Type}{ps:List α}{i d:Nat}(hj:i+d<=ps.length):(ps.take i).length=i/\((ps.drop i).take d).length=d:=⟨List.length_take_of_le (nN (Nat.le_add_right ..) hj),List.length_take_of_le (by rw[List.length_drop];exact Nat.le_sub_of_add_le (by rw[Nat.add_comm];exact hj))⟩
theorem XF{α:Type}(ps:List α){i j:Nat}(hij:i<=j)(hj:j<=ps.length)(k:Nat):(ps.take i++(((ps.drop i).take (j-i)).reverse++ps.drop j))[k]? = if i<=k/\k<j then ps[i+j-1-k]? else ps[k]? :=by
 obtain⟨d,rfl⟩:=Nat.exists_eq_add_of_le hij;rw[Nat.add_sub_cancel_left];obtain⟨l1,l3⟩:=QB hj;by_cases h1:k<i
 ·rw[gC (by rw[l1];exact h1),gE h1,tJ (λz=>Nat.not_le.mpr h1 z.1)]
 ·obtain⟨a,rfl⟩:=Nat.exists_eq_add_of_le (Nat.le_of_not_lt h1);rw[uZ (by rw[l1];exact Nat.le_add_right ..),l1,Nat.add_sub_cancel_left];by_cases h2:a<d
  ·rw[gC (by rw[List.length_reverse,l3];exact h2),tK ⟨Nat.le_add_right ..,Nat.add_lt_add_left h2 i⟩,List.getElem?_reverse (by rw[l3];exact h2),l3,gE (gU (Nat.sub_le ..) (Nat.sub_lt (Nat.zero_lt_of_lt h2) Nat.one_pos)),List.getElem?_drop,sub_e1 i d a h2]
  ·rw[uZ (by rw[List.length_reverse,l3];exact Nat.le_of_not_lt h2),List.length_reverse,l3,tJ (λz=>h2 (Nat.lt_of_add_lt_add_left z.2)),List.getElem?_drop,sub_e2 i d a h2]
theorem sub_e3(l d b:Nat)(h:¬b<d):l+d+1+(b-d)=l+(b+1):=by omega
theorem XI{α:Type}(ps:List α){l k:Nat}(h:l<=k)(hk:k<ps.length)(q:Nat):(ps.take l++(ps[k]::((ps.drop l).take (k-l)++ps.drop (k+1))))[q]? = if q=l then ps[k]? else if l<q/\q<=k then ps[q-1]? else ps[q]? :=by
 obtain⟨d,rfl⟩:=Nat.exists_eq_add_of_le h;rw[Nat.add_sub_cancel_left];obtain⟨l1,l3⟩:=QB (nU hk);by_cases h1:q<l
 ·rw[gC (by rw[l1];exact h1),gE h1,tJ (nO h1),tJ (λz=>Nat.lt_asymm h1 z.1)]
 ·obtain⟨b,rfl⟩:=Nat.exists_eq_add_of_le (Nat.le_of_not_lt h1);rw[uZ (by rw[l1];exact Nat.le_add_right ..),l1,Nat.add_sub_cancel_left];cases b with
  | zero=>rw[tK (nV l),List.getElem?_cons_zero,gD hk]
  | succ b=>
   have lt:l<l+(b+1):=Nat.lt_add_of_pos_right (Nat.succ_pos b);rw[tJ (Nat.ne_of_gt lt),List.getElem?_cons_succ];by_cases h3:b<d
   ·rw[gC (by rw[l3];exact h3),tK ⟨lt,Nat.add_le_add_left h3 l⟩,gE h3,List.getElem?_drop]
    rfl
   ·rw[uZ (by rw[l3];exact Nat.le_of_not_lt h3),l3,tJ (λz=>h3 (Nat.le_of_add_le_add_left z.2)),List.getElem?_drop,sub_e3 l d b h3]
section
variable{it:Array Keyed}
theorem uG(ps:List Nat)(k:Nat):(kA it ps)[k]? = (ps[k]?).map (kas_item it):=by simp [kA]
theorem SX(ps:List Nat){i j:Nat}(hij:i<=j)(hj:j<=ps.length):mirror (kA it ps) i j ((j-i)/2)=kA it (ps.take i++(((ps.drop i).take (j-i)).reverse++ps.drop j)):=by
 apply Array.ext_getElem?;intro k;rw[getElem?_mirror_all (by rw[qK];exact hj),uG,uG,uG,XF ps hij hj];split<;>rfl
theorem SY(ps:List Nat){l k:Nat}(h:l<=k)(hk:k<ps.length):bubble (kA it ps) k (k-l)=kA it (ps.take l++(ps[k]::((ps.drop l).take (k-l)++ps.drop (k+1)))):=by
 apply Array.ext_getElem?;intro q;rw[getElem?_bubble (by rw[qK];exact hk) _ #[0],uG,uG,uG,uG,XI ps h hk,show k-(k-l)=l by omega];split
 ·rfl
 ·split<;>rfl
end
section
variable{prog:Program}{w:World}{A:Around}{E:Value->Shared->Prop}{κ:SortKind}{it:Array Keyed}{N:Nat}{lt:Nat->Nat->Bool}{Iv:Shared->Prop}{st:SortSt}{s:Shared}{ps F rs:List Nat}
theorem ZS(c:Cmp prog w A κ it N lt Iv){i j:Nat}{Q:Option Bool->SortSt->Shared->Prop}(ha:arrOf st=kA it ps)(hk:kindOf st=κ)(hb:∀z∈ps,z<N)(hi:i<ps.length)(hj:j<ps.length)(hs:Iv s)(h:∀s',Iv s'->Q (some (lt (ps.getD i 0) (ps.getD j 0))) st s'):kasC #[4] A E (ltAt' i j) Q st s:=by
 rw[ltAt'_eq];refine kasC_bind (kasC_get ?_);dsimp only;rw[ha];refine kasC_bind (qZ hi (kasC_bind (qZ hj ?_)));exact JO c (hb _ (vI hi)) (hb _ (vI hj)) hk hs h
theorem ts_rev{i j:Nat}{Q:Unit->SortSt->Shared->Prop}(ha:arrOf st=kA it ps)(hij:i<=j)(hj:j<=ps.length)(h:Q () (setArr st (kA it (ps.take i++(((ps.drop i).take (j-i)).reverse++ps.drop j)))) s):kasC #[4] A E (reverseSlice' i j) Q st s:=by
 rw[reverseSlice'_eq];refine kasC_modify ?_;rw[ha,SX ps hij hj];exact h
theorem ts_mov{l k:Nat}{Q:Unit->SortSt->Shared->Prop}(ha:arrOf st=kA it ps)(h:l<=k)(hk:k<ps.length)(q:Q () (setArr st (kA it (ps.take l++(ps[k]::((ps.drop l).take (k-l)++ps.drop (k+1)))))) s):kasC #[4] A E (moveDown' k l) Q st s:=by
 rw[moveDown'_eq];refine kasC_modify ?_;rw[ha,SY ps h hk];exact q
theorem EX(F rs:List Nat)(i:Nat):(F++rs).getD (F.length+i) 0=rs.getD i 0:=by
 rw[uY,uY,uZ #[0]]
 congr 2
 omega
theorem BP(o:LwD.Strict lt N){n:Nat}(h1:1<=n)(hn:n<rs.length)(p:(rs.take n).Pairwise (Rl lt))(h:lt (rs.getD (n-1) 0) (rs.getD n 0)=true):(rs.take (n+1)).Pairwise (Rl lt):=by
 have e:rs.take (n+1)=rs.take n++[rs.getD n 0]:=by
  rw[uI (Nat.le_succ n),show n+1-n=1 by omega,FK hn]
 rw[e];refine List.pairwise_append.mpr ⟨p,List.pairwise_singleton ..,λa ha b hb=>?_⟩;rw[gY.mp hb];obtain⟨j,j1,j2,rfl⟩:=qA ha;by_cases z:j=n-1
 ·rw[z];exact h
 ·refine o.tr _ _ _ ?_ h;have q:=qH p (i:=j) (j:=n-1) #[0] (by rw[mD];omega);have e2:∀k,k<n->(rs.take n).getD k 0=rs.getD k 0:=λk hk=>by rw[uY,uY,List.getElem?_take,tK hk]
  rwa [e2 j j1,e2 (n-1) #[0]]at q
end
theorem DJ{lt:Nat->Nat->Bool}{N:Nat}(o:LwD.Strict lt N):LwD.Strict (λa b=>lt b a) N:=⟨λa b c h1 h2=>o.tr _ _ _ h2 h1,λa b h=>o.as _ _ h,λa b ha hb hn h=>o.tot _ _ hb ha (λz=>hn z.symm) h⟩
theorem CG{rs:List Nat}(nd:rs.Nodup){i j:Nat}(hi:i<rs.length)(hj:j<rs.length)(h:i≠j):rs.getD i 0≠rs.getD j 0:=by
 have e1:rs.getD i 0=rs[i]:=by simp [uY,hi]
 have e2:rs.getD j 0=rs[j]:=by simp [uY,hj]
 rw[e1,e2];exact λz=>h ((List.getElem_inj nd).mp z)
section
variable{prog:Program}{w:World}{A:Around}{E:Value->Shared->Prop}{κ:SortKind}{it:Array Keyed}{N:Nat}{lt:Nat->Nat->Bool}{Iv:Shared->Prop}{st:SortSt}{s:Shared}{ps F rs:List Nat}
theorem AR(c:Cmp prog w A κ it N lt Iv){i j:Nat}{Q:Option Bool->SortSt->Shared->Prop}(ha:arrOf st=kA it (F++rs))(hk:kindOf st=κ)(hb:∀z∈F++rs,z<N)(hi:i<rs.length)(hj:j<rs.length)(hs:Iv s)(h:∀s',Iv s'->Q (some (lt (rs.getD i 0) (rs.getD j 0))) st s'):kasC #[4] A E (ltAt' (F.length+i) (F.length+j)) Q st s:=by
 refine ZS c ha hk hb (by rw[List.length_append];omega) (by rw[List.length_append];omega) hs λs' hs'=>?_;rw[EX,EX];exact h s' hs'
theorem UR(c:Cmp prog w A κ it N lt Iv){Q:Option Nat->SortSt->Shared->Prop}(ha:arrOf st=kA it (F++rs))(hk:kindOf st=κ)(hb:∀z∈F++rs,z<N)(nd:rs.Nodup)(r0:0<rs.length)(hs:Iv s)
  (h:∀n rs' s',Iv s'->1<=n->n<=rs.length->rs'.Perm rs->(rs'.take n).Pairwise (Rl lt)->Q (some n) (setArr st (kA it (F++rs'))) s'):kasC #[4] A E (countRun' F.length rs.length) Q st s:=by
 have same:setArr st (kA it (F++rs))=st:=by rw[<-ha]
 have rN:∀{i},i<rs.length->rs.getD i 0<N:=λhi=>hb _ (gJ _ (vI hi));have p1:(rs.take 1).Pairwise (Rl lt):=by
  have:=FK (xs:=rs) (i:=0) r0;rw[List.drop_zero]at this;rw[this];exact List.pairwise_singleton ..
 rw[countRun'_eq];dsimp only;refine kasC_bind (kI (kS (λk c st' s'=>st'=st/\Iv s'/\c=(none,k)/\1<=k/\(rs.take k).Pairwise (Rl lt))
  (Q:=λc st' s'=>st'=st/\Iv s'/\∃n,c=(none,n)/\1<=n/\n<=rs.length/\(rs.take n).Pairwise (Rl lt)/\(n<rs.length->lt (rs.getD n 0) (rs.getD (n-1) 0)=true)) ?a ?b ⟨rfl,hs,rfl,nX _,p1⟩) ?d)
 case a=>
  rintro k c st' s' _ hkn ⟨rfl,hs',rfl,k1,pk⟩;dsimp only;rw[show F.length+k-1=F.length+(k-1) by omega];refine kasC_bind (AR c ha hk hb hkn #[0] hs' λs2 hs2=>?_);dsimp only;cases q:lt (rs.getD k 0) (rs.getD (k-1) 0)with
  | true=>exact kasC_pure ⟨rfl,hs2,k,rfl,k1,by omega,pk,λ_=>q⟩
  | false=>exact kasC_pure ⟨rfl,hs2,rfl,by omega,BP c.o k1 hkn pk (c.o.tot _ _ (rN hkn) (rN #[0]) (CG nd hkn #[0] #[0]) q)⟩
 case b=>
  rintro c st' s' ⟨rfl,hs',rfl,k1,pk⟩;exact⟨rfl,hs',_,rfl,k1,by omega,pk,λz=>by omega⟩
 case d=>
  rintro c st' s' ⟨rfl,hs',n,rfl,n1,n2,pn,low⟩;dsimp only;by_cases e1:n=rs.length
  ·rw[tK (beq_iff_eq.mpr e1)];have:=h n rs s' hs' n1 n2 (List.Perm.refl _) pn;rw[same]at this;exact kasC_pure this
  rw[tJ (λz=>e1 (beq_iff_eq.mp z))];by_cases e2:n>1
  ·rw[tK e2,show F.length+n-1=F.length+(n-1) by omega];refine kasC_bind (AR (F:=F) (i:=0) c ha hk hb #[0] #[0] hs' λs2 hs2=>?_);dsimp only;have q:lt (rs.getD 0 0) (rs.getD (n-1) 0)=true:=by
    have q:=qH pn (i:=0) (j:=n-1) #[0] (by rw[mD];omega);have e2:∀k,k<n->(rs.take n).getD k 0=rs.getD k 0:=λk hk=>by rw[uY,uY,List.getElem?_take,tK hk]
    rwa [e2 0 #[0],e2 (n-1) #[0]]at q
   rw[q,tK rfl];have:=h n rs s2 hs2 n1 n2 (List.Perm.refl _) pn;rw[same]at this;exact kasC_pure this
  rw[tJ e2];obtain rfl:n=1:=by omega
  have p2:(rs.take (1+1)).Pairwise (Rl λa b=>lt b a):=BP (DJ c.o) (nX 1) #[0] (by
   have:=FK (xs:=rs) (i:=0) r0;rw[List.drop_zero]at this;rw[this];exact List.pairwise_singleton ..) (low #[0])
  refine kasC_bind (kasC_lift (wpAny_rule ?_));refine kasC_bind (kI (kS (λk c st2 s2=>st2=st'/\Iv s2/\c=(none,k,0)/\2<=k/\(rs.take k).Pairwise (Rl λa b=>lt b a))
   (Q:=λc st2 s2=>st2=st'/\Iv s2/\∃n,c=(none,n,0)/\2<=n/\n<=rs.length/\(rs.take n).Pairwise (Rl λa b=>lt b a)) ?a2 ?b2 ⟨rfl,hs',rfl,nX _,p2⟩) ?d2)
  case a2=>
   rintro k c st2 s2 _ hkn ⟨rfl,hs2,rfl,k1,pk⟩;dsimp only;rw[show F.length+k-1=F.length+(k-1) by omega];refine kasC_bind (AR c ha hk hb hkn #[0] hs2 λs3 hs3=>?_);dsimp only;cases q:lt (rs.getD k 0) (rs.getD (k-1) 0)with
   | true=>
    rw[tK rfl,tJ (mY 0)];exact kasC_pure ⟨rfl,hs3,rfl,by omega,BP (DJ c.o) #[0] hkn pk q⟩
   | false=>
    rw[tJ gW];refine kasC_bind (AR c ha hk hb #[0] hkn hs3 λs4 hs4=>?_);dsimp only;rw[c.o.tot _ _ (rN hkn) (rN #[0]) (CG nd hkn #[0] #[0]) q,tK rfl];exact kasC_pure ⟨rfl,hs4,k,rfl,k1,by omega,pk⟩
  case b2=>
   rintro c st2 s2 ⟨rfl,hs2,rfl,k1,pk⟩;exact⟨rfl,hs2,_,rfl,k1,by omega,pk⟩
  case d2=>
   rintro c st2 s2 ⟨rfl,hs2,m,rfl,m1,m2,pm⟩;dsimp only;rw[tJ (mY 0)];refine kasC_bind (ts_rev ha (Nat.le_add_right _ _) (by rw[List.length_append];omega) ?_);have e:(F++rs).take F.length++((((F++rs).drop F.length).take (F.length+m-F.length)).reverse++(F++rs).drop (F.length+m))=F++((rs.take m).reverse++rs.drop m):=by
    rw[List.take_left',List.drop_left',Nat.add_sub_cancel_left,<-List.drop_drop,List.drop_left']<;>rfl
   rw[e];have pr:((rs.take m).reverse++rs.drop m).Perm rs:=by
    refine List.Perm.trans (List.Perm.append_right _ (List.reverse_perm _)) ?_;rw[List.take_append_drop]
   have lr:((rs.take m).reverse++rs.drop m).length=rs.length:=pr.length_eq;have pu:(((rs.take m).reverse++rs.drop m).take m).Pairwise (Rl lt):=by
    rw[List.take_left' (by rw[List.length_reverse,mD];omega)];exact List.pairwise_reverse.mpr pm
   generalize (rs.take m).reverse++rs.drop m=r2 at pr lr pu;have hb2:∀z∈F++r2,z<N:=λz hz=>hb z (by
    rcases mO.mp hz with hz | hz
    ·exact List.mem_append_left _ hz
    ·exact gJ _ (pr.mem_iff.mp hz))
   have nd2:r2.Nodup:=pr.nodup_iff.mpr nd;have ha2:arrOf (setArr st2 (kA it (F++r2)))=kA it (F++r2):=rfl;have hk2:kindOf (setArr st2 (kA it (F++r2)))=κ:=hk;have h2:∀n s',Iv s'->1<=n->n<=r2.length->(r2.take n).Pairwise (Rl lt)->Q (some n) (setArr st2 (kA it (F++r2))) s':=λn s' a b c d=>h n r2 s' a b (lr▸c) pr d;generalize setArr st2 (kA it (F++r2))=st3 at ha2 hk2 h2;rw[<-lr];have rN2:∀{i},i<r2.length->r2.getD i 0<N:=λhi=>hb2 _ (gJ _ (vI hi));refine kasC_bind (kI (kS (λk c st' s'=>st'=st3/\Iv s'/\c=(none,k)/\2<=k/\(r2.take k).Pairwise (Rl lt))
    (Q:=λc st' s'=>st'=st3/\Iv s'/\∃n,c=(none,n)/\1<=n/\n<=r2.length/\(r2.take n).Pairwise (Rl lt)) ?a3 ?b3 ⟨rfl,hs2,rfl,m1,pu⟩) ?d3)
   case a3=>
    rintro k c st' s' _ hkn ⟨rfl,hs',rfl,k1,pk⟩;dsimp only;rw[show F.length+k-1=F.length+(k-1) by omega];refine kasC_bind (AR c ha2 hk2 hb2 hkn #[0] hs' λs3 hs3=>?_);dsimp only;cases q:lt (r2.getD k 0) (r2.getD (k-1) 0)with
    | true=>exact kasC_pure ⟨rfl,hs3,k,rfl,by omega,by omega,pk⟩
    | false=>exact kasC_pure ⟨rfl,hs3,rfl,by omega,BP c.o #[0] hkn pk (c.o.tot _ _ (rN2 hkn) (rN2 #[0]) (CG nd2 hkn #[0] #[0]) q)⟩
   case b3=>
    rintro c st' s' ⟨rfl,hs',rfl,k1,pk⟩;exact⟨rfl,hs',_,rfl,by omega,by omega,pk⟩
   case d3=>
    rintro c st' s' ⟨rfl,hs',n,rfl,n1,n2,pn⟩;exact kasC_pure (h2 n s' hs' n1 n2 pn)
theorem ts_bin(c:Cmp prog w A κ it N lt Iv){Q:Bool->SortSt->Shared->Prop}{n ok:Nat}(ha:arrOf st=kA it (F++rs))(hk:kindOf st=κ)(hb:∀z∈F++rs,z<N)(nd:rs.Nodup)(o1:1<=ok)(on:ok<=n)(hn:n<=rs.length)(po:(rs.take ok).Pairwise (Rl lt))(hs:Iv s)
  (h:∀rs' s',Iv s'->rs'.Perm rs->(rs'.take n).Pairwise (Rl lt)->Q true (setArr st (kA it (F++rs'))) s'):kasC #[4] A E (binarySort' F.length n ok) Q st s:=by
 rw[binarySort'_eq];dsimp only;refine kasC_bind (kI (kS (λk c st' s'=>Iv s'/\c=(none,())/\∃r2,st'=setArr st (kA it (F++r2))/\r2.Perm rs/\(r2.take k).Pairwise (Rl lt))
  (Q:=λc st' s'=>Iv s'/\c=(none,())/\∃r2,st'=setArr st (kA it (F++r2))/\r2.Perm rs/\(r2.take n).Pairwise (Rl lt)) ?a ?b ⟨hs,rfl,rs,by rw[<-ha],List.Perm.refl _,by rw[show max ok 1=ok by omega];exact po⟩) ?d)
 case b=>
  rintro c st' s' ⟨hs',rfl,r2,rfl,pr,pk⟩;rw[show max (max ok 1) n=n by omega]at pk;exact⟨hs',rfl,r2,rfl,pr,pk⟩
 case d=>
  rintro c st' s' ⟨hs',rfl,r2,rfl,pr,pk⟩;exact kasC_pure (h r2 s' hs' pr pk)
 case a=>
  rintro k c st' s' hk1 hkn ⟨hs',rfl,r2,rfl,pr,pk⟩;have lr:r2.length=rs.length:=pr.length_eq;have hb2:∀z∈F++r2,z<N:=λz hz=>hb z (by
   rcases mO.mp hz with hz | hz
   ·exact List.mem_append_left _ hz
   ·exact gJ _ (pr.mem_iff.mp hz))
  have nd2:r2.Nodup:=pr.nodup_iff.mpr nd;have rN2:∀{i},i<r2.length->r2.getD i 0<N:=λhi=>hb2 _ (gJ _ (vI hi));have up:∀i j,i<j->j<k->lt (r2.getD i 0) (r2.getD j 0)=true:=λi j h1 h2=>by
   have q:=qH pk (i:=i) (j:=j) h1 (by rw[mD];omega);have e2:∀i,i<k->(r2.take k).getD i 0=r2.getD i 0:=λi hi=>by rw[uY,uY,List.getElem?_take,tK hi]
   rwa [e2 i #[0],e2 j h2]at q
  have ha2:arrOf (setArr st (kA it (F++r2)))=kA it (F++r2):=rfl;have hk2:kindOf (setArr st (kA it (F++r2)))=κ:=hk;refine kasC_bind (kI (kS (λx c st'' s'=>st''=setArr st (kA it (F++r2))/\Iv s'/\∃l r,c=(none,l,r)/\l<=r/\r<=k/\r-l<=k-x/\(∀i,i<l->lt (r2.getD i 0) (r2.getD k 0)=true)/\∀i,r<=i->i<k->lt (r2.getD k 0) (r2.getD i 0)=true)
   (Q:=λc st'' s'=>st''=setArr st (kA it (F++r2))/\Iv s'/\∃l r,c=(none,l,r)/\l<=k/\(∀i,i<l->lt (r2.getD i 0) (r2.getD k 0)=true)/\∀i,l<=i->i<k->lt (r2.getD k 0) (r2.getD i 0)=true) ?a2 ?b2 ⟨rfl,hs',0,k,rfl,nY _,nX _,by omega,λi hi=>by omega,λi h1 h2=>by omega⟩) ?d2)
  case a2=>
   rintro x c st'' s2 _ hxk ⟨rfl,hs2,l,r,rfl,a1,a2,a3,a4,a5⟩;dsimp only;by_cases e:l ≥ r
   ·rw[tK e];exact kasC_pure ⟨rfl,hs2,l,r,rfl,by omega,a4,λi h1 h2=>a5 i #[0] h2⟩
   ·rw[tJ e];refine kasC_bind (AR c ha2 hk2 hb2 #[0] #[0] hs2 λs3 hs3=>?_);dsimp only;cases q:lt (r2.getD k 0) (r2.getD ((l+r)/2) 0)with
    | true=>
     rw[tK rfl];refine kasC_pure ⟨rfl,hs3,l,(l+r)/2,rfl,by omega,by omega,by omega,a4,λi h1 h2=>?_⟩;by_cases z:i=(l+r)/2
     ·rw[z];exact q
     ·exact c.o.tr _ _ _ q (up _ _ #[0] h2)
    | false=>
     rw[tJ gW];have q':=c.o.tot _ _ (rN2 #[0]) (rN2 #[0]) (CG nd2 (show k<r2.length by omega) (show(l+r)/2<r2.length by omega) #[0]) q;refine kasC_pure ⟨rfl,hs3,(l+r)/2+1,r,rfl,by omega,by omega,by omega,λi h1=>?_,a5⟩;by_cases z:i=(l+r)/2
     ·rw[z];exact q'
     ·exact c.o.tr _ _ _ (up _ _ #[0] #[0]) q'
  case b2=>
   rintro c st'' s2 ⟨rfl,hs2,l,r,rfl,a1,a2,a3,a4,a5⟩;exact⟨rfl,hs2,l,r,rfl,by omega,a4,λi h1 h2=>a5 i #[0] h2⟩
  case d2=>
   rintro c st'' s2 ⟨rfl,hs2,l,r,rfl,lk,a4,a5⟩;dsimp only;have hkl:F.length+k<(F++r2).length:=by rw[List.length_append];omega
   refine kasC_bind (ts_mov ha2 (Nat.add_le_add_left lk _) hkl ?_);have hk3:k<r2.length:=by omega
   have e:(F++r2).take (F.length+l)++((F++r2)[F.length+k]::(((F++r2).drop (F.length+l)).take (F.length+k-(F.length+l))++(F++r2).drop (F.length+k+1)))=F++(r2.take l++(r2[k]::((r2.drop l).take (k-l)++r2.drop (k+1)))):=by
    have e1:(F++r2).take (F.length+l)=F++r2.take l:=by rw[List.take_append,gI #[0],Nat.add_sub_cancel_left]
    have e2:∀j,(F++r2).drop (F.length+j)=r2.drop j:=λj=>by rw[<-List.drop_drop,List.drop_left'];rfl
    have e3:(F++r2)[F.length+k]=r2[k]:=by rw[List.getElem_append_right #[0]];congr 1;omega
    rw[e1,e2 l,Nat.add_assoc,e2 (k+1),e3,show F.length+k-(F.length+l)=k-l by omega,List.append_assoc]
   rw[e];have sp:r2=r2.take l++((r2.drop l).take (k-l)++(r2[k]::r2.drop (k+1))):=by
    conv=>lhs;rw[<-List.take_append_drop l r2]
    congr 1
    have e1:r2.drop l=(r2.drop l).take (k-l)++(r2.drop l).drop (k-l):=(List.take_append_drop _ _).symm;rw[List.drop_drop,show l+(k-l)=k by omega,List.drop_eq_getElem_cons hk3]at e1;exact e1
   have pn:(r2.take l++(r2[k]::((r2.drop l).take (k-l)++r2.drop (k+1)))).Perm r2:=by
    conv=>rhs;rw[sp]
    exact List.Perm.append_left _ List.perm_middle.symm
   refine kasC_pure ⟨hs2,rfl,_,rfl,pn.trans pr, ?_⟩;have e5:(r2.take l++(r2[k]::((r2.drop l).take (k-l)++r2.drop (k+1)))).take (k+1)=r2.take l++(r2[k]::(r2.drop l).take (k-l)):=by
    have l1:(r2.take l++(r2[k]::(r2.drop l).take (k-l))).length=k+1:=by rw[List.length_append,mH,mD,mD,List.length_drop];omega
    rw[show r2.take l++(r2[k]::((r2.drop l).take (k-l)++r2.drop (k+1)))=(r2.take l++(r2[k]::(r2.drop l).take (k-l)))++r2.drop (k+1) by rw[List.append_assoc,List.cons_append]];exact List.take_left' l1
   rw[e5];have ek:r2[k]=r2.getD k 0:=by simp [uY,hk3]
   have pk':(r2.take l++(r2.drop l).take (k-l)).Pairwise (Rl lt):=by rw[<-uI lk];exact pk
   have pp:=List.pairwise_append.mp pk';refine List.pairwise_append.mpr ⟨pp.1,List.pairwise_cons.mpr ⟨λb hb'=>?_,pp.2.1⟩,λa ha' b hb'=>?_⟩
   ·obtain⟨j,j1,j2,j3,rfl⟩:=yY hb';rw[ek];exact a5 j j1 #[0]
   ·obtain⟨i,i1,i2,rfl⟩:=qA ha';rcases mX.mp hb' with rfl | hb'
    ·rw[ek];exact a4 i i1
    ·exact pp.2.2 _ ha' _ hb'
end
inductive PR:Nat->List (Nat×Nat×Nat)->List (List Nat)->Prop
 | nil {o:Nat} :PR o [] []
 | cons {o:Nat} {b:List Nat} {q:Nat} {p:List (Nat×Nat×Nat)} {bs:List (List Nat)} (h:PR (o+b.length) p bs):PR o ((o,b.length,q)::p) (b::bs)
theorem PR.len:∀{o:Nat} {p:List (Nat×Nat×Nat)} {bs:List (List Nat)},PR o p bs->p.length=bs.length
 | _,_,_,.nil=>rfl
 | _,_,_,.cons h=>by rw[mH,mH,h.len]
theorem PR.two{a b c:List Nat}{B2:List (List Nat)}(hc:c.length=a.length+b.length):∀{B1:List (List Nat)} {o:Nat} {p:List (Nat×Nat×Nat)},PR o p (B1++a::b::B2)->∃q1 q2,p[B1.length]? = some (o+B1.flatten.length,a.length,q1)/\p[B1.length+1]? = some (o+B1.flatten.length+a.length,b.length,q2)/\
  PR o ((p.set B1.length (o+B1.flatten.length,a.length+b.length,q1)).eraseIdx (B1.length+1)) (B1++c::B2)
 | [],o,_,.cons (q:=q1) (.cons (q:=q2) h)=>by
  refine⟨q1,q2,rfl,rfl, ?_⟩;show PR o ((o+0,a.length+b.length,q1)::_) (c::B2);rw[<-hc];refine .cons ?_;rw[hc,<-Nat.add_assoc];exact h
 | d::B1,o,_,.cons (q:=q) h=>by
  obtain⟨q1,q2,h1,h2,h3⟩:=PR.two hc (B1:=B1) h;have e:o+(d::B1).flatten.length=o+d.length+B1.flatten.length:=by rw[List.flatten_cons,List.length_append,Nat.add_assoc]
  rw[e];exact⟨q1,q2,h1,h2,.cons h3⟩
theorem PR.snoc{b:List Nat}{q:Nat} :∀{bs:List (List Nat)} {o:Nat} {p:List (Nat×Nat×Nat)},PR o p bs->PR o (p++[(o+bs.flatten.length,b.length,q)]) (bs++[b])
 | [],_,_,.nil=>.cons .nil
 | d::bs,o,_,.cons h=>by
  have:=h.snoc (b:=b) (q:=q);rw[List.flatten_cons,List.length_append,<-Nat.add_assoc];exact .cons this
theorem PR.mod{f:Nat×Nat×Nat->Nat×Nat×Nat}(hf:∀x,(f x).1=x.1/\(f x).2.1=x.2.1):∀{bs:List (List Nat)} {o:Nat} {p:List (Nat×Nat×Nat)} (i:Nat),PR o p bs->PR o (p.modify i f) bs
 | _,_,_,i,.nil=>by rw[List.modify_nil];exact .nil
 | _,_,_,0,.cons (o:=o) (b:=b) (q:=q) h=>by
  rw[List.modify_zero_cons];have:=hf (o,b.length,q);rw[show f (o,b.length,q)=(o,b.length,(f (o,b.length,q)).2.2)from Prod.ext this.1 (Prod.ext this.2 rfl)];exact .cons h
 | _,_,_,i+1,.cons h=>by
  rw[List.modify_succ_cons];exact .cons (PR.mod hf i h)
section
variable{it:Array Keyed}
theorem kA_set(A X:List Nat)(x z n:Nat)(h:n=A.length):(kA it (A++x::X)).setIfInBounds n (kas_item it z)=kA it (A++z::X):=by
 apply Array.toList_inj.mp;subst h;simp [kA,List.set_append_right]
theorem QH:∀(zs X A C:List Nat) (n off:Nat),X.length=zs.length->off+n=A.length->((zs.map (kas_item it)).zipIdx n).foldl (λa (p:Keyed×Nat)=>a.setIfInBounds (off+p.2) p.1) (kA it (A++(X++C)))=kA it (A++(zs++C))
 | [],X,A,C,n,off,hx,ho=>by
  rw[List.length_eq_zero_iff.mp hx]
  rfl
 | z::zs,x::X,A,C,n,off,hx,ho=>by
  rw[mW,List.zipIdx_cons,List.foldl_cons];show List.foldl _ ((kA it (A++(x::(X++C)))).setIfInBounds (off+n) (kas_item it z)) _=_;rw[kA_set A (X++C) x z (off+n) ho];have:=QH zs X (A++[z]) C (n+1) off (by simpa using hx) (by rw[List.length_append];show _=_+1;omega);rw[List.append_assoc,List.append_assoc]at this;exact this
end
theorem XV{M:Model}{A:Around}{E:Value->Shared->Prop}{σ:Type}{st st':σ}{s:Shared}{Q:PUnit->σ->Shared->Prop}(h:Q ⟨⟩ st' s):kasC M A E (set st':StateT σ Sem PUnit) Q st s:=by
 unfold kasC;rw[StateT.run_set];exact tG h
local macro_rules | `(tactic| trivial)=>do
 let n (s:String):=Lean.mkIdent (.str (.str (.str (.num (.str (.str (.str (.str (.str .anonymous "_private") "PySem") "Builtin") "List") "W1All") 0) "PySem") "Builtin") s)
 `(tactic| first | unfold $(n "gallop") | unfold $(n "mergeLo") | unfold $(n "mergeHi") | unfold $(n "mergeAt") | unfold $(n "setMinGallop"))
section
variable{prog:Program}{w:World}{A:Around}{E:Value->Shared->Prop}{κ:SortKind}{it:Array Keyed}{N:Nat}{lt:Nat->Nat->Bool}{Iv:Shared->Prop}{st:SortSt}{s:Shared}
theorem LC(P a S:List Nat)(i:Nat)(h:i<a.length):(P++(a++S)).getD (P.length+i) 0=a.getD i 0:=by
 rw[EX,uY,uY,gC h]
theorem DC(ps:List Nat)(k:Nat):ps.toArray.getD k 0=ps.getD k 0:=by simp [Array.getD_eq_getD_getElem?,uY]
theorem QM(P a S:List Nat)(i j:Nat)(hi:i<=j)(hj:j<=a.length):(kA it (P++(a++S))).extract (P.length+i) (P.length+j)=kA it ((a.drop i).take (j-i)):=by
 rw[wF,<-List.drop_drop,List.drop_left' rfl,List.drop_append_of_le_length #[0],List.take_append_of_le_length (by rw[List.length_drop];omega),show P.length+j-(P.length+i)=j-i by omega]
theorem ts_at(c:Cmp prog w A κ it N lt Iv){Q:Bool->SortSt->Shared->Prop}{B1 B2:List (List Nat)}{a b rest:List Nat}(hA:arrOf st=kA it ((B1++a::b::B2).flatten++rest))(hk:kindOf st=κ)(hf:failedOf st=none)(hP:PR 0 (pendingOf st).toList (B1++a::b::B2))
  (nd:((B1++a::b::B2).flatten++rest).Nodup) (bd:∀z∈(B1++a::b::B2).flatten++rest,z<N) (pa:a.Pairwise (Rl lt)) (pb:b.Pairwise (Rl lt)) (a0:0<a.length) (b0:0<b.length) (hs:Iv s)
  (h:∀cc st' s',Iv s'->cc.Perm (a++b)->cc.Pairwise (Rl lt)->arrOf st'=kA it ((B1++cc::B2).flatten++rest)->kindOf st'=κ->failedOf st'=none->PR 0 (pendingOf st').toList (B1++cc::B2)->Q true st' s'):kasC #[4] A E (mergeAt' B1.length) Q st s:=by
 have fl:∀cc:List Nat,(B1++cc::B2).flatten++rest=B1.flatten++(cc++(B2.flatten++rest)):=λcc=>by simp
 have e0:(B1++a::b::B2).flatten++rest=B1.flatten++(a++(b++(B2.flatten++rest))):=by simp
 rw[e0]at hA nd bd;have hc2:∀cc:List Nat,cc.Perm (a++b)->cc.length=a.length+b.length:=λcc p=>by rw[p.length_eq,List.length_append]
 have g:MG N lt a b:=⟨c.o,by
  have:=(mB.mp nd).2.1;rw[<-List.append_assoc]at this;exact(mB.mp this).1,λz hz=>bd z (gJ _ (by rw[<-List.append_assoc];exact List.mem_append_left _ hz)),pa,pb⟩
 generalize hPe:B1.flatten=P at hA nd bd fl;generalize B2.flatten++rest=S at hA nd bd fl;obtain⟨q1,q2,h1,h2,-⟩:=PR.two (c:=a++b) (List.length_append) hP;rw[hPe,Nat.zero_add]at h1 h2;rw[Array.getElem?_toList]at h1 h2;have done:∀(cc:List Nat) (arr:Array Keyed) (g':Nat) (s':Shared),Iv s'->cc.Perm (a++b)->cc.Pairwise (Rl lt)->arr=kA it (P++(cc++S))->Q true (SortSt.mk' (kindOf st) arr (((pendingOf st).setIfInBounds B1.length (P.length,a.length+b.length,q1)).eraseIdxIfInBounds (B1.length+1)) g' (failedOf st)) s':=λcc arr g' s' hs' pc pw ea=>by
  obtain⟨q1',q2',h1',h2',h3⟩:=PR.two (c:=cc) (hc2 cc pc) hP;rw[hPe,Nat.zero_add]at h1' h3;rw[Array.getElem?_toList,h1]at h1';injection h1' with h1'
  injection h1' with _ h1'
  injection h1' with _ h1'
  subst h1';refine h cc _ s' hs' pc pw (ea.trans (by rw[fl])) hk hf ?_;have ep:(((pendingOf st).setIfInBounds B1.length (P.length,a.length+b.length,q1)).eraseIdxIfInBounds (B1.length+1)).toList=((pendingOf st).toList.set B1.length (P.length,a.length+b.length,q1)).eraseIdx (B1.length+1):=by simp
  show PR 0 (((pendingOf st).setIfInBounds B1.length (P.length,a.length+b.length,q1)).eraseIdxIfInBounds (B1.length+1)).toList _;rw[ep];exact h3
 unfold mergeAt'
 trivial
 refine kasC_bind (kasC_get ?_);dsimp only;rw[h1,h2];dsimp only;refine kasC_bind (XV ?_);have hk1:∀{arr:Array Keyed} {pn:Array (Nat×Nat×Nat)} {g':Nat},kindOf (SortSt.mk' (kindOf st) arr pn g' (failedOf st))=κ:=fun {_ _ _} =>hk;have ea:∀i,i<a.length->(P++(a++(b++S))).getD (P.length+i) 0=a.getD i 0:=λi hi=>LC P a (b++S) i hi;have eb:∀i,i<b.length->(P++(a++(b++S))).getD (P.length+a.length+i) 0=b.getD i 0:=λi hi=>by
  have:=LC (P++a) b S i hi
  rwa [List.append_assoc,List.length_append]at this
 have lenE:(P++(a++(b++S))).length=P.length+a.length+b.length+S.length:=by simp only[List.length_append];omega
 have extA:∀k,k<=a.length->(kA it (P++(a++(b++S)))).extract (P.length+k) (P.length+a.length)=kA it (a.drop k):=λk hk=>by
  rw[QM P a (b++S) k a.length hk uU,gI (by rw[List.length_drop];omega)]
 have extB:∀r,r<=b.length->(kA it (P++(a++(b++S)))).extract (P.length+a.length) (P.length+a.length+r)=kA it (b.take r):=λr hr=>by
  have:=QM (it:=it) (P++a) b S 0 r (nY _) hr
  rwa [List.append_assoc,List.length_append,nV,List.drop_zero,Nat.sub_zero]at this
 have back:∀(k r:Nat) (zs:List Nat),k<=a.length->r<=b.length->zs.length=(a.drop k++b.take r).length->(kA it zs).toList.zipIdx.foldl (λ(x:Array Keyed) (p:Keyed×Nat)=>x.setIfInBounds (P.length+k+p.2) p.1) (kA it (P++(a++(b++S))))=kA it (P++((a.take k++(zs++b.drop r))++S)):=λk r zs hk hr hz=>by
  have q:=QH (it:=it) zs (a.drop k++b.take r) (P++a.take k) (b.drop r++S) 0 (P.length+k) hz.symm (by rw[List.length_append,mD];omega);have e1:P++a.take k++(a.drop k++b.take r++(b.drop r++S))=P++(a++(b++S)):=by
   conv=>rhs;rw[<-List.take_append_drop k a,<-List.take_append_drop r b]
   simp only[List.append_assoc]
  have e2:P++a.take k++(zs++(b.drop r++S))=P++((a.take k++(zs++b.drop r))++S):=by simp only[List.append_assoc]
  rw[e1,e2]at q;rw[<-q];have e3:(kA it zs).toList=zs.map (kas_item it):=by simp [kA]
  rw[e3]
 generalize hps:P++(a++(b++S))=ps at hA bd ea eb lenE extA extB back;have bN:∀i,i<ps.toArray.size->ps.toArray.getD i 0<N:=λi hi=>by rw[DC];exact bd _ (vI (by simpa using hi))
 have aN:∀{i},i<a.length->a.getD i 0<N:=λhi=>g.xN hi;have hA':(sortPriv% PySem.Builtin.SortState.a) st=kA it ps:=hA;rw[hA'];refine kasC_bind (qZ #[0] ?_);have eb0:=eb 0 b0;rw[nV]at eb0;rw[eb0];have bA:∀i,i<a.length->bey lt false (b.getD 0 0) ps.toArray P.length i = !lt (b.getD 0 0) (a.getD i 0):=λi hi=>by
  show(!lt (b.getD 0 0) (ps.toArray.getD (P.length+i) 0))=_;rw[DC,ea i hi]
 have bB:∀i,i<b.length->bey lt true (a.getD (a.length-1) 0) ps.toArray (P.length+a.length) i=lt (b.getD i 0) (a.getD (a.length-1) 0):=λi hi=>by
  show lt (ps.toArray.getD (P.length+a.length+i) 0) (a.getD (a.length-1) 0)=_;rw[DC,eb i hi]
 have szE:ps.toArray.size=P.length+a.length+b.length+S.length:=by rw[hV];exact lenE
 refine kasC_bind ?_;rw[uF];refine wL c hk1 (g.yN b0) bN (by rw[szE];omega) a0 hs (λi j hij hj hq=>?_) λk s2 hs2 k1 k2 k3=>?_
 ·rw[bA j hj]at hq;rw[bA i #[0]];cases q:lt (b.getD 0 0) (a.getD i 0)with
  | false=>rfl
  | true=>
   by_cases z:i=j
   ·rw[<-z,q]at hq;exact hq
   ·rw[c.o.tr _ _ _ q (qH pa #[0] hj)]at hq;exact hq
 rw[<-uF];dsimp only;have k2:∀i,i<k->∀j,j<b.length->lt (a.getD i 0) (b.getD j 0)=true:=λi hi j hj=>by
  have q:=k2 i hi;rw[bA i #[0]]at q;have q:=g.ab (i:=i) (j:=0) #[0] b0 (by simpa using q);by_cases z:j=0
  ·rw[z];exact q
  ·exact c.o.tr _ _ _ q (qH pb #[0] hj)
 have k3:∀i,k<=i->i<a.length->lt (b.getD 0 0) (a.getD i 0)=true:=λi h1 h2=>by
  have q:=k3 i h1 h2;rw[bA i h2]at q;simpa using q
 by_cases c1:a.length-k=0
 ·rw[tK (beq_iff_eq.mpr c1)];refine kasC_pure (done (a++b) _ (gallopOf st) s2 hs2 (List.Perm.refl _) (List.pairwise_append.mpr ⟨pa,pb,λx hx y hy=>?_⟩) (by rw[<-hps,List.append_assoc]));obtain⟨i,i1,i2,rfl⟩:=kN (xs:=a) (i:=0) (z:=x) (by rwa [List.drop_zero]);obtain⟨j,j1,j2,rfl⟩:=kN (xs:=b) (i:=0) (z:=y) (by rwa [List.drop_zero]);exact k2 i #[0] j j2
 rw[tJ (λz=>c1 (beq_iff_eq.mp z)),show P.length+k+(a.length-k)-1=P.length+(a.length-1) by omega];refine kasC_bind (qZ #[0] ?_);rw[ea _ #[0]];refine kasC_bind ?_;rw[uF];refine wL c hk1 (aN #[0]) bN (by rw[szE];omega) #[0] hs2 (λi j hij hj hq=>?_) λr s3 hs3 r1 r2 r3=>?_
 ·rw[bB j hj]at hq;rw[bB i #[0]];by_cases z:i=j
  ·rw[z];exact hq
  ·exact c.o.tr _ _ _ (qH pb #[0] hj) hq
 rw[<-uF];dsimp only;have r2:∀i,i<r->lt (b.getD i 0) (a.getD (a.length-1) 0)=true:=λi hi=>by
  have q:=r2 i hi
  rwa [bB i #[0]]at q
 have r3:∀i,r<=i->i<b.length->lt (a.getD (a.length-1) 0) (b.getD i 0)=true:=λi h1 h2=>by
  have q:=r3 i h1 h2;rw[bB i h2]at q;exact g.ab #[0] h2 q
 have rp:r≠0:=λz=>by
  have q1:=k3 (a.length-1) #[0] #[0];have q2:=r3 0 #[0] b0;rw[c.o.as _ _ q1]at q2;cases q2
 rw[tJ (λz=>rp (beq_iff_eq.mp z)),extA k k1,extB r r1];have gd:∀i,(a.drop k).getD i 0=a.getD (k+i) 0:=λi=>by rw[uY,uY,List.getElem?_drop]
 have gt:∀i,i<r->(b.take r).getD i 0=b.getD i 0:=λi hi=>by rw[uY,uY,List.getElem?_take,tK hi]
 have ld:(a.drop k).length=a.length-k:=List.length_drop;have lt':(b.take r).length=r:=by rw[mD];omega
 have g2:MG N lt (a.drop k) (b.take r):=⟨c.o,g.nd.sublist ((List.drop_sublist k a).append (List.take_sublist r b)),λz hz=>g.bd z (by
  rcases mO.mp hz with hz | hz
  ·exact List.mem_append_left _ (List.mem_of_mem_drop hz)
  ·exact gJ _ (gR hz)),pa.sublist (List.drop_sublist k a),pb.sublist (List.take_sublist r b)⟩
 have h0:lt ((b.take r).getD 0 0) ((a.drop k).getD 0 0)=true:=by
  rw[gt 0 #[0],gd,nV];exact k3 k uU #[0]
 have hl:∀j,j<(b.take r).length->lt ((b.take r).getD j 0) ((a.drop k).getD ((a.drop k).length-1) 0)=true:=λj hj=>by
  rw[gt j #[0],gd,ld,show k+(a.length-k-1)=a.length-1 by omega];exact r2 j #[0]
 have fin:∀zs g' s4,Iv s4->MF lt (a.drop k) (b.take r) zs->kasC #[4] A E (do
   modify λs=>setArr s (List.foldl (λa x=>a.setIfInBounds (P.length+k+x.snd) x.fst) (arrOf s) (kA it zs).toList.zipIdx)
   let __do_lift<-get
   pure (failedOf __do_lift).isNone) Q (qC (SortSt.mk' (kindOf st) (kA it ps) (((pendingOf st).setIfInBounds B1.length (P.length,a.length+b.length,q1)).eraseIdxIfInBounds (B1.length+1)) (gallopOf st) (failedOf st)) g') s4:=λzs g' s4 hs4 mf=>by
  refine kasC_bind (kasC_modify (kasC_bind (kasC_get ?_)));have ef:(failedOf st).isNone=true:=by rw[hf];rfl
  refine kasC_pure ?_;show Q (failedOf st).isNone (SortSt.mk' (kindOf st) (List.foldl (λa x=>a.setIfInBounds (P.length+k+x.snd) x.fst) (kA it ps) (kA it zs).toList.zipIdx) _ g' (failedOf st)) s4;rw[ef,back k r zs k1 r1 mf.pm.length_eq];have inb:∀x,x∈b.take r->∃j,j<r/\x=b.getD j 0:=λx hx=>by
   obtain⟨j,j1,j2,e⟩:=qA hx;exact⟨j,j1,e⟩
  refine done _ _ g' s4 hs4 ?_ ?_ rfl
  ·refine List.Perm.trans (List.Perm.append_left _ (List.Perm.append_right _ mf.pm)) ?_
   conv=>rhs;rw[<-List.take_append_drop k a,<-List.take_append_drop r b]
   simp only[List.append_assoc];exact List.Perm.refl _
  ·refine List.pairwise_append.mpr ⟨pa.sublist (List.take_sublist k a),List.pairwise_append.mpr ⟨mf.pw,pb.sublist (List.drop_sublist r b),λx hx y hy=>?_⟩,λx hx y hy=>?_⟩
   ·obtain⟨j,j1,j2,rfl⟩:=kN hy;rcases mO.mp (mf.pm.mem_iff.mp hx)with hx | hx
    ·obtain⟨i,i1,i2,rfl⟩:=kN hx;by_cases z:i=a.length-1
     ·rw[z];exact r3 j j1 j2
     ·exact c.o.tr _ _ _ (qH pa (i:=i) (j:=a.length-1) #[0] #[0]) (r3 j j1 j2)
    ·obtain⟨i,i1,rfl⟩:=inb x hx;exact qH pb #[0] j2
   ·obtain⟨i,i1,i2,rfl⟩:=qA hx;rcases mO.mp hy with hy | hy
    ·rcases mO.mp (mf.pm.mem_iff.mp hy)with hy | hy
     ·obtain⟨j,j1,j2,rfl⟩:=kN hy;exact qH pa #[0] j2
     ·obtain⟨j,j1,rfl⟩:=inb y hy;exact k2 i i1 j #[0]
    ·obtain⟨j,j1,j2,rfl⟩:=kN hy;exact k2 i i1 j j2
 split
 ·exact kasC_bind (ts_lo c g2 hk1 #[0] #[0] h0 hl hs3 fin)
 ·exact kasC_bind (ts_hi c g2 hk1 #[0] #[0] h0 hl hs3 fin)
end
structure RI(it:Array Keyed)(κ:SortKind)(lt:Nat->Nat->Bool)(ps:List Nat)(bs:List (List Nat))(rest:List Nat)(st:SortSt):Prop where
 ar:arrOf st=kA it (bs.flatten++rest)
 kd:kindOf st=κ
 fl:failedOf st=none
 pr:PR 0 (pendingOf st).toList bs
 pm:(bs.flatten++rest).Perm ps
 pw:∀b∈bs,b.Pairwise (Rl lt)
 ne:∀b∈bs,0<b.length
section
variable{prog:Program}{w:World}{A:Around}{E:Value->Shared->Prop}{κ:SortKind}{it:Array Keyed}{N:Nat}{lt:Nat->Nat->Bool}{Iv:Shared->Prop}{st:SortSt}{s:Shared}{ps rest:List Nat}{bs:List (List Nat)}
theorem RI.size(h:RI it κ lt ps bs rest st):(pendingOf st).size=bs.length:=by rw[<-Array.length_toList];exact h.pr.len
theorem RI.merge(h:RI it κ lt ps bs rest st)(c:Cmp prog w A κ it N lt Iv)(nd:ps.Nodup)(bd:∀z∈ps,z<N){i:Nat}(hi:i+1<bs.length){Q:Bool->SortSt->Shared->Prop}(hs:Iv s)
  (go:∀bs' st' s',Iv s'->RI it κ lt ps bs' rest st'->bs'.length+1=bs.length->bs'.flatten.length=bs.flatten.length->Q true st' s'):kasC #[4] A E (mergeAt' i) Q st s:=by
 obtain⟨B1,a,b,B2,rfl,rfl⟩:∃B1 a b B2,bs=B1++a::b::B2/\B1.length=i:=by
  refine⟨bs.take i,bs[i],bs[i+1],bs.drop (i+2), ?_,by rw[mD];omega⟩
  conv=>lhs;rw[<-List.take_append_drop i bs]
  congr 1
  rw[List.drop_eq_getElem_cons #[0],List.drop_eq_getElem_cons hi]
 refine ts_at c h.ar h.kd h.fl h.pr (h.pm.nodup_iff.mpr nd) (λz hz=>bd z (h.pm.mem_iff.mp hz)) (h.pw a (by simp)) (h.pw b (by simp)) (h.ne a (by simp)) (h.ne b (by simp)) hs λcc st' s' hs' pc pw' ar kd fl pr=>?_;have lc:cc.length=a.length+b.length:=by rw[pc.length_eq,List.length_append]
 have pf:(B1++cc::B2).flatten.Perm (B1++a::b::B2).flatten:=by
  simp only[List.flatten_append,List.flatten_cons];refine List.Perm.append_left _ ?_;rw[<-List.append_assoc];exact List.Perm.append_right _ pc
 refine go (B1++cc::B2) st' s' hs' ⟨ar,kd,fl,pr,(List.Perm.append_right _ pf).trans h.pm,λx hx=>?_,λx hx=>?_⟩ (by simp only[List.length_append,mH];omega) pf.length_eq
 ·rcases mO.mp hx with hx | hx
  ·exact h.pw x (List.mem_append_left _ hx)
  ·rcases mX.mp hx with rfl | hx
   ·exact pw'
   ·exact h.pw x (by simp [hx])
 ·rcases mO.mp hx with hx | hx
  ·exact h.ne x (List.mem_append_left _ hx)
  ·rcases mX.mp hx with rfl | hx
   ·have:=h.ne a (by simp);omega
   ·exact h.ne x (by simp [hx])
theorem RI.push(h:RI it κ lt ps bs rest st){n:Nat}(n1:1<=n)(n2:n<=rest.length)(p:(rest.take n).Pairwise (Rl lt)):RI it κ lt ps (bs++[rest.take n]) (rest.drop n) (setPending st ((pendingOf st).push (bs.flatten.length,n,0))):=by
 have e:(bs++[rest.take n]).flatten++rest.drop n=bs.flatten++rest:=by simp [List.flatten_append]
 have ln:(rest.take n).length=n:=by rw[mD];omega
 refine⟨?_,h.kd,h.fl, ?_, ?_,λb hb=>?_,λb hb=>?_⟩
 ·rw[e];exact h.ar
 ·have:=h.pr.snoc (b:=rest.take n) (q:=0);rw[Nat.zero_add,ln]at this;show PR 0 ((pendingOf st).push (bs.flatten.length,n,0)).toList _;rw[Array.toList_push];exact this
 ·rw[e];exact h.pm
 ·rcases mO.mp hb with hb | hb
  ·exact h.pw b hb
  ·rw[gY.mp hb];exact p
 ·rcases mO.mp hb with hb | hb
  ·exact h.ne b hb
  ·rw[gY.mp hb,ln];exact n1
theorem RI.mod(h:RI it κ lt ps bs rest st)(i pw:Nat):RI it κ lt ps bs rest (setPending st ((pendingOf st).modify i λx=>(x.fst,x.2.fst,pw))):=by
 refine⟨h.ar,h.kd,h.fl, ?_,h.pm,h.pw,h.ne⟩;show PR 0 ((pendingOf st).modify i λx=>(x.fst,x.2.fst,pw)).toList _;rw[Array.toList_modify];exact PR.mod (f:=λx=>(x.fst,x.2.fst,pw)) (λx=>⟨rfl,rfl⟩) i h.pr
theorem RI.arr(h:RI it κ lt ps bs rest st){r2:List Nat}(p:r2.Perm rest):RI it κ lt ps bs r2 (setArr st (kA it (bs.flatten++r2))):=⟨rfl,h.kd,h.fl,h.pr,(List.Perm.append_left _ p).trans h.pm,h.pw,h.ne⟩
theorem RI.len(h:RI it κ lt ps bs rest st):bs.flatten.length+rest.length=ps.length:=by rw[<-List.length_append];exact h.pm.length_eq
theorem RI.few(h:RI it κ lt ps bs rest st):bs.length<=ps.length:=by
 have key:∀bs:List (List Nat),(∀b∈bs,0<b.length)->bs.length<=bs.flatten.length:=λbs=>by
  induction bs with
  | nil=>intro _;exact nX 0
  | cons b bs ih=>
   intro hb;have:=ih λx hx=>hb x (gN _ hx);have:=hb b (gZ ..);rw[mH,List.flatten_cons,List.length_append];omega
 have:=key bs h.ne;have:=h.len;omega
theorem ZR(c:Cmp prog w A κ it N lt Iv){Q:Unit->SortSt->Shared->Prop}(hA:arrOf st=kA it ps)(hk:kindOf st=κ)(hf:failedOf st=none)(hp:pendingOf st = #[])(nd:ps.Nodup)(bd:∀z∈ps,z<N)(hs:Iv s)
  (h:∀qs st' s',Iv s'->qs.Perm ps->qs.Pairwise (Rl lt)->arrOf st'=kA it qs->failedOf st'=none->Q () st' s'):kasC #[4] A E sortRuns' Q st s:=by
 rw[sortRuns'_eq];refine kasC_bind (kasC_get ?_);dsimp only;rw[hA,qK];generalize minRun' ps.length ps.length 0=mr;refine kasC_bind (kI (kS (λx c st' s'=>∃bs rest,c=(none,bs.flatten.length)/\Iv s'/\RI it κ lt ps bs rest st'/\x<=bs.flatten.length)
  (Q:=λc st' s'=>∃bs lo,c=(none,lo)/\Iv s'/\RI it κ lt ps bs [] st') ?a ?b ⟨[],ps,rfl,hs,⟨hA,hk,hf,by rw[hp];exact .nil,List.Perm.refl _,λ_ h=>(nomatch h),λ_ h=>(nomatch h)⟩,nX _⟩) ?d)
 case b=>
  rintro c st' s' ⟨bs,rest,rfl,hs',r,hx⟩;have:=r.len;have e:rest=[]:=List.length_eq_zero_iff.mp #[0];subst e;exact⟨bs,_,rfl,hs',r⟩
 case a=>
  rintro x c st' s' _ _ ⟨bs,rest,rfl,hs',r,hx⟩;have rl:=r.len;dsimp only;by_cases e0:bs.flatten.length ≥ ps.length
  ·rw[tK e0];have e:rest=[]:=List.length_eq_zero_iff.mp #[0];subst e;exact kasC_pure ⟨bs,_,rfl,hs',r⟩
  rw[tJ e0,show ps.length-bs.flatten.length=rest.length by omega];have ndr:(bs.flatten++rest).Nodup:=r.pm.nodup_iff.mpr nd;have bdr:∀z∈bs.flatten++rest,z<N:=λz hz=>bd z (r.pm.mem_iff.mp hz);refine kasC_bind (UR c r.ar r.kd bdr (mB.mp ndr).2.1 #[0] hs' λn r2 s2 hs2 n1 n2 p2 w2=>?_);have q2:=r.arr p2;have l2:=p2.length_eq;have bd2:∀z∈bs.flatten++r2,z<N:=λz hz=>bd z (q2.pm.mem_iff.mp hz);dsimp only;by_cases e1:n<mr
  case' pos=>
   rw[tK e1];refine kasC_bind (kasC_lift (wpAny_rule ?_));refine kasC_bind (ts_bin c q2.ar q2.kd bd2 (p2.nodup_iff.mpr (mB.mp ndr).2.1) n1 #[0] #[0] w2 hs2 λr3 s3 hs3 p3 w3=>?_);have q3:=q2.arr p3;have l3:=p3.length_eq;have n31:1<=min rest.length mr:=by omega
   have n32:min rest.length mr<=r3.length:=by omega
   rw[tJ #[1]]
  case' neg=>
   have q3:=q2;have n31:=n1;have n32:n<=r2.length:=by omega
   have w3:=w2;have hs3:=hs2;rw[tJ e1]
  all_goals
   refine kasC_bind (kasC_get ?_);split
   ·refine kasC_bind (kI (kS (λ_ c st'' s''=>c=(none,())/\Iv s''/\∃bs',RI it κ lt ps bs' _ st''/\bs'.flatten.length=bs.flatten.length)
     (Q:=λc st'' s''=>c=(none,())/\Iv s''/\∃bs',RI it κ lt ps bs' _ st''/\bs'.flatten.length=bs.flatten.length) ?a2 (λ_ _ _ z=>z) ⟨rfl,hs3,bs,q3,rfl⟩) ?d2)
    case a2=>
     rintro y c st'' s'' _ _ ⟨rfl,hs4,bs',q4,f4⟩;refine kasC_bind (kasC_get ?_);split
     ·split
      ·exact kasC_pure ⟨rfl,hs4,bs',q4,f4⟩
      ·rename_i hz _;have s4:=q4.size;have gt:1<bs'.length:=by
        rw[<-s4];by_cases g1:(pendingOf st'').size>1
        ·exact g1
        ·rw[tJ g1]at hz;cases hz
       refine kasC_bind (q4.merge c nd bd #[0] hs4 λbs5 st5 s5 hs5 q5 l5 f5=>?_);rw[tJ #[1]];exact kasC_pure ⟨rfl,hs5,bs5,q5,f5.trans f4⟩
     ·exact kasC_pure ⟨rfl,hs4,bs',q4,f4⟩
    case d2=>
     rintro c st'' s'' ⟨rfl,hs4,bs',q4,f4⟩;dsimp only;refine kasC_bind (kasC_modify (kasC_bind (kasC_modify (kasC_pure ?_))));refine⟨_,_, ?_,hs4,f4▸(q4.mod ((pendingOf st'').size-1) _).push n31 n32 w3, ?_⟩
     ·rw[List.flatten_append,List.length_append,f4]
      congr 2
      simp only[List.flatten_cons,List.flatten_nil,List.append_nil,mD];omega
     ·rw[List.flatten_append,List.length_append,f4];simp only[List.flatten_cons,List.flatten_nil,List.append_nil,mD];omega
   ·refine kasC_bind (kasC_modify (kasC_pure ?_));refine⟨_,_, ?_,hs3,q3.push n31 n32 w3, ?_⟩
    ·rw[List.flatten_append,List.length_append]
     congr 2
     simp only[List.flatten_cons,List.flatten_nil,List.append_nil,mD];omega
    ·rw[List.flatten_append,List.length_append];simp only[List.flatten_cons,List.flatten_nil,List.append_nil,mD];omega
 case d=>
  rintro c st' s' ⟨bs,lo,rfl,hs',r⟩;dsimp only;refine kasC_bind (kI (kS (λx c st'' s''=>c=(none,())/\Iv s''/\∃bs',RI it κ lt ps bs' [] st''/\bs'.length+x<=ps.length)
   (Q:=λc st'' s''=>c=(none,())/\Iv s''/\∃bs',RI it κ lt ps bs' [] st''/\bs'.length<=1) ?a3 ?b3 ⟨rfl,hs',bs,r,r.few⟩) ?d3)
  case a3=>
   rintro y c st'' s'' _ _ ⟨rfl,hs4,bs',q4,f4⟩;refine kasC_bind (kasC_get ?_);have s4:=q4.size;split
   ·exact kasC_pure ⟨rfl,hs4,bs',q4,by omega⟩
   ·have ix:∀(p:Prop) [Decidable p],(if p then(pendingOf st'').size-2-1 else(pendingOf st'').size-2)+1<bs'.length:=λp _=>by split<;>omega
    refine kasC_bind (q4.merge c nd bd (ix _) hs4 λbs5 st5 s5 hs5 q5 l5 f5=>?_);rw[tJ #[1]];exact kasC_pure ⟨rfl,hs5,bs5,q5,by omega⟩
  case b3=>
   rintro c st'' s'' ⟨rfl,hs4,bs',q4,f4⟩;exact⟨rfl,hs4,bs',q4,by omega⟩
  case d3=>
   rintro c st'' s'' ⟨rfl,hs4,bs',q4,f4⟩;refine kasC_pure (h _ st'' s'' hs4 q4.pm ?_ q4.ar q4.fl);rw[List.append_nil]
   match bs',f4,q4 with
   | [],_,_=>exact .nil
   | [b],_,q4=>
    rw[show [b].flatten=b by simp];exact q4.pw b (gZ ..)
end
def SortsBy(prog:Program)(w:World)(A:Around)(κ:SortKind)(vs:List Value)(R:List Nat->Shared->Prop)(s:Shared):Prop:=
 ∃(lt:Nat->Nat->Bool) (Iv:Shared->Prop),Cmp prog w A κ (pairsOf vs) vs.length lt Iv/\Iv s/\∀p s',Iv s'->p.Perm (List.range vs.length)->p.Pairwise (Rl lt)->R p s'
section
variable{prog:Program}{w:World}{A:Around}{E:Value->Shared->Prop}{κ:SortKind}{s:Shared}{vs:List Value}
theorem XW(it:Array Keyed):kA it (List.range it.size)=it:=by
 unfold kA;refine Array.ext (by simp) λi h1 h2=>?_;simp [kas_item,Array.getD,h2]
theorem UQ{R:List Nat->Shared->Prop}{Q:Unit->SortSt->Shared->Prop}(h:SortsBy prog w A κ vs R s)(q:∀p st' s',R p s'->p.length=vs.length->arrOf st'=kA (pairsOf vs) p->failedOf st'=none->Q () st' s'):kasC #[4] A E sortRuns' Q (SortSt.mk' κ (pairsOf vs) #[] 7 none) s:=by
 obtain⟨lt,Iv,c,hs,go⟩:=h;have e:kA (pairsOf vs) (List.range vs.length)=pairsOf vs:=by
  have:=XW (pairsOf vs)
  rwa [pairsOf_size]at this
 exact ZR c (ps:=List.range vs.length) e.symm rfl rfl rfl List.nodup_range (λz hz=>mR.mp hz) hs λqs st' s' hs' pm pw ar fl=>q qs st' s' (go qs s' hs' pm pw) (by rw[pm.length_eq,List.length_range]) ar fl
theorem snds(p:List Nat):(kA (pairsOf vs) p).map (·.2)=(p.map λi=>vs.getD i Value.none).toArray:=by
 apply Array.toList_inj.mp;rw[Array.toList_map];unfold kA;rw[nT];exact List.map_congr_left λi _=>by show(kas_item (pairsOf vs) i).2=_;rw[kas_item_eq]
variable{h₀:Heap}{L a D:Addr}{m:Str->Option Value}{news:List (Addr×Obj)}
theorem ts_lsort{its:Array Value}{n:Nat}{g:Obj->List (Addr×Obj)}{Q:Value->Shared->Prop}(F:Fr h₀ L s.heap m)(N:News h₀ L s.heap news)(U:UpdF D (listOf its n) news g)(he:its.toList=vs)(h2:2<=vs.length)(hz:vs.length<=sizeLine)
  (h:∀e1 h',Fr h₀ L h' m->News h₀ L h' (g (seqObj "list" #[] e1))->
   wpAny #[4] A.in1 (keyKind' vs.toArray) (fun κ s'=>SortsBy prog w A.in1 κ vs (λp s''=>KasFin h₀ L m D e1 (p.map λi=>vs.getD i Value.none) (λs3=>Q .none s3) s'') s') (λ_ _=>False) { s with heap:=h' }) :
  wpAny #[4] A (call (.builtin "list.sort") [.ref D]) Q E s:=by
 subst he;obtain⟨pre,post,en,eg,x1,x2⟩:=U.split;have at0:=N (D,listOf its n) (by rw[en];exact gJ _ (.head _));have ho:s.heap.get? D=some (seqObj "list" its.toList.toArray n):=by rw[Array.toArray_toList];exact at0.1
 obtain⟨e1,ho1⟩:∃e1,(s.heap.update D (Obj.mapSeq λ_=>#[])).get? D=some (seqObj "list" #[] e1):=⟨_,get?_update_seq ho λ_=>#[]⟩;have up:=Heap.SameBut.update s.heap D (Obj.mapSeq λ_=>(#[]:Array Value));have F1:=((kas_fr F up at0.2.1 at0.2.2).push (seqObj "tuple" its.toList.toArray 0)).push (seqObj "list" #[] 0);have N1:News h₀ L (((s.heap.update D (Obj.mapSeq λ_=>#[])).push (seqObj "tuple" its.toList.toArray 0)).push (seqObj "list" #[] 0)) (g (seqObj "list" #[] e1)):=λq hq=>by
  rw[eg]at hq;have old:∀b u,(s.heap.update D (Obj.mapSeq λ_=>#[])).get? b=some u->(((s.heap.update D (Obj.mapSeq λ_=>#[])).push (seqObj "tuple" its.toList.toArray 0)).push (seqObj "list" #[] 0)).get? b=some u:=λb u e=>gH _ (gH _ e);have keep:∀q,q∈pre∨q∈post->q.1≠D->(((s.heap.update D (Obj.mapSeq λ_=>#[])).push (seqObj "tuple" its.toList.toArray 0)).push (seqObj "list" #[] 0)).get? q.1=some q.2/\q.1≠L/\h₀.get? q.1=none:=λq hq nd=>by
   have y:=N q (by
    rw[en];rcases hq with hq | hq
    ·exact List.mem_append_left _ hq
    ·exact gJ _ (.tail _ hq))
   exact⟨old _ _ ((up.2 q.1 nd).trans y.1),y.2⟩
  rcases mO.mp hq with hq | hq
  ·exact keep q (.inl hq) (x1 q hq)
  ·rcases mX.mp hq with rfl | hq
   ·exact⟨old _ _ ho1,at0.2⟩
   ·exact keep q (.inr hq) (x2 q hq)
 have ask:=h e1 _ F1 N1;refine wpAny_call_entry slot_list_sort ⟨_,at0.1,rfl⟩ entry_list_sort ?_ (args_list_sort _);rw[list_sort_plain];refine tF (listItems_at ho rfl (tF (listUpdate_at ho rfl (tF (seqEpoch_at ho1 rfl (tF (wpAny_newTuple (tF (wpAny_newList (wpAny_holding ?_) (nY _))) hz)))) (by rw[hV];exact hz) (nY _))));have big:¬its.toList.toArray.size<2:=by rw[hV];omega
 dsimp only;rw[tJ big,tJ big];refine tF (tH ask (fun κ s1 hk=>?_) λ_ _ x=>x.elim);refine tF (tH (UQ (E:=E) (Q:=λ_ st' s'=>∃p:List Nat,p.length=its.toList.length/\arrOf st'=kA (pairsOf its.toList) p/\failedOf st'=none/\KasFin h₀ L m D e1 (p.map λi=>its.toList.getD i Value.none) (λs3=>Q .none s3) s') hk λp st' s' a b c d=>⟨p,b,c,d,a⟩) ?_ λ_ _ x=>x);rintro⟨⟨⟩,st'⟩ s2 ⟨p,hp,har,hf,news2,g2,F2,N2,U2,k⟩;dsimp only;obtain⟨pre2,post2,en2,eg2,y1,y2⟩:=U2.split;rw[en2]at N2;have at2:=N2 (D,seqObj "list" #[] e1) (gJ _ (.head _));have out:(arrOf st').map (·.2)=List.toArray (p.map λi=>its.toList.getD i Value.none):=by rw[har,snds]
 have osz:(List.toArray (p.map λi=>its.toList.getD i Value.none)).size<=sizeLine:=by rw[hV,mL,hp];exact hz
 rw[out];have up2:=Heap.SameBut.update s2.heap D (Obj.mapSeq λ_=>List.toArray (p.map λi=>its.toList.getD i Value.none));obtain⟨c2,hc2⟩:∃c2,(s2.heap.update D (Obj.mapSeq λ_=>List.toArray (p.map λi=>its.toList.getD i Value.none))).get? D=some (seqObj "list" (List.toArray (p.map λi=>its.toList.getD i Value.none)) c2):=⟨_,get?_update_seq at2.1 λ_=>_⟩;refine tF (seqEpoch_at at2.1 rfl (tF (listUpdate_at at2.1 rfl ?_ (nY _) (Nat.le_succ_of_le osz))));rw[hf];simp only[bne_self_eq_false,Bool.false_eq_true,if_false];refine tG ⟨_,rfl,k _ c2 (kas_fr F2 up2 at2.2.1 at2.2.2) ?_⟩;rw[eg2];exact news_set N2 y1 y2 up2 hc2
end
end LwR
namespace LwD
open PySem PySem.Spec PyProof.Rows L2 Lw
def kY:List Int->List Int->Bool
 | x::xs,y::ys=>if x=y then kY xs ys else decide (x<y)
 | [],_::_=>true
 | _,[]=>false
theorem PY:∀a b c:List Int,kY a b=true->kY b c=true->kY a c=true
 | [],[],_,h,_=>by simp [kY]at h
 | [],_::_,[],_,h=>by simp [kY]at h
 | [],_::_,_::_,_,_=>by simp [kY]
 | _::_,[],_,h,_=>by simp [kY]at h
 | _::_,_::_,[],_,h=>by simp [kY]at h
 | x::xs,y::ys,z::zs,h1,h2=>by
  have ih:=PY xs ys zs;simp only[kY]at h1 h2 ⊢;by_cases e1:x=y
  ·subst e1;rw[tK rfl]at h1;by_cases e2:x=z
   ·rw[tK e2]at h2 ⊢;exact ih h1 h2
   ·rw[tJ e2]at h2 ⊢;exact h2
  ·rw[tJ e1]at h1;have h1:=hX h1;by_cases e2:y=z
   ·subst e2;rw[tJ e1];exact mP h1
   ·rw[tJ e2]at h2;have h2:=hX h2;rw[tJ #[0]];exact mP #[0]
theorem PZ:∀a b:List Int,kY a b=true->kY b a=false
 | [],[],h=>by simp [kY]at h
 | [],_::_,_=>by simp [kY]
 | _::_,[],h=>by simp [kY]at h
 | x::xs,y::ys,h=>by
  have ih:=PZ xs ys;simp only[kY]at h ⊢;by_cases e1:x=y
  ·subst e1;rw[tK rfl]at h ⊢;exact ih h
  ·rw[tJ e1]at h;have h:=hX h;rw[tJ #[0]];exact mN #[0]
theorem KS:∀a b:List Int,a≠b->kY a b=false->kY b a=true
 | [],[],n,_=>absurd rfl n
 | [],_::_,_,h=>by simp [kY]at h
 | _::_,[],_,_=>by simp [kY]
 | x::xs,y::ys,n,h=>by
  have ih:=KS xs ys;simp only[kY]at h ⊢;by_cases e1:x=y
  ·subst e1;rw[tK rfl]at h ⊢;exact ih (λz=>n (by rw[z])) h
  ·rw[tJ e1]at h;have h:=of_decide_eq_false h;rw[tJ #[0]];exact mP #[0]
def IU(fin:Bool):List Int->List Int->Bool
 | x::xs,y::ys=>if x=y then IU fin xs ys else decide (x<y)
 | _,_=>fin
theorem QA:∀a b:List Int,IU (decide (a.length<b.length)) a b=kY a b
 | [],[]=>rfl
 | [],_::_=>by simp [IU,kY]
 | _::_,[]=>by simp [IU,kY]
 | x::xs,y::ys=>by
  have ih:=QA xs ys;simp only[IU,kY,mH,Nat.add_lt_add_iff_right];rw[ih]
def xS(k:List Key):List Int:=k.filterMap fun | .inl i=>some i | .inr _=>none
theorem ET(ns:List Int):xS (ik ns)=ns:=by
 unfold xS ik;induction ns with
 | nil=>rfl
 | cons n r ih=>simp [ih]
theorem KTkeys{H:Hp}{ah:List (List Key×V)}{xs:List (List Key×Addr×Value)}(r:KT H ah xs):ah.map (·.1)=xs.map (·.1):=by
 induction r with
 | nil=>rfl
 | cons h _ ih=>rw[mW,mW,ih,h.1]
section
variable{prog:Program}{w:World}{A:Around}{E:Value->Shared->Prop}{s:Shared}
theorem KR{b fin:Bool}{Q:Bool->Shared->Prop} :∀{as bs:List Value} {xs ys:List Int} (_:IntsAre as xs) (_:IntsAre bs ys) (_:Q (IU fin xs ys) s) (i:Nat),PySem.W.KatLex prog w A b fin Q (as.zip bs) i s
 | _,_,_,_,.nil,_,h,_=>by
  rw[List.zip_nil_left];exact PySem.W.kat_nil (by simpa [IU]using h)
 | _,_,_,_,.cons _ _ _,.nil,h,_=>by
  rw[List.zip_nil_right];exact PySem.W.kat_nil (by simpa [IU]using h)
 | _,_,_,_,.cons n t r,.cons m u r2,h,i=>by
  rw[List.zip_cons_cons];simp only[IU]at h;refine PySem.W.kat_cons (SeqAt.EqAt.int_int _ _ _ _ prog w _ _ ?_);refine PySem.W.kat_go (λe=>PySem.W.kat_yes (KR r r2 (by rwa [tK (by simpa using e)]at h) (i+1))) λe=>PySem.W.kat_no ?_;rw[tJ (by simpa using e)]at h;cases hb:(b&&i==0)with
  | true=>exact oneLt_int h
  | false=>exact PySem.W.kat_one _ _ (lt_int h)
end
section
variable{X:Cx}
end
section
variable{X:Cx}
def rSortSn:List V->Hp->VK->Prop:=λxs H Q=>∃(a:Addr) (ah:List (List Key×V)),xs=[.ref a]/\Rd H a (.dT ah)/\(∀p∈ah,∃ns:List Int,p.1=ik ns/\ns≠[])/\
 ∀(ys:List V) (zs:List (List Key×V)),zs.Perm ah->Keyed H ys zs->zs.Pairwise (λp q=>kY (xS p.1) (xS q.1)=true)->New H (.lst ys) Q
theorem LO(hc:X.calm=true):CallR X (.builtin "sorted") rSortSn:=by
 intro ae s σ H xs us Q I r h;obtain⟨a,ah,rfl,ha,hk,q⟩:=h;obtain⟨u,rfl,ru⟩:=xU r;cases ru;obtain⟨z,lo,ks,rel,dd⟩:=AK I.hok ha;obtain⟨o,es,ep,hd1,hd2,hd3,he,his,hn⟩:=id dd;have raw:Raw s.heap a es ep:=⟨o,hd1,hd2,hd3⟩;have esz:es.size=ah.length:=by rw[size_of_entries he,<-Paired.length rel]
 obtain⟨m,F⟩:=I.fr;have kn:(ah.map (·.1)).Nodup:=by rw[KTkeys rel];exact hn
 have itup:∀(j:Nat) (h:j<es.size),∃(b:Addr) (ns:List Int) (v:V),es[j].key=.ref b/\H b=some (.tup (ns.map V.int))/\ah[j]? = some (ik ns,v)/\ns≠[]:=λj hj=>by
  have e1:=entry_at he j;rw[Array.getElem?_eq_getElem hj]at e1;cases e2:ks[j]? with
  | none=>rw[e2]at e1;cases e1
  | some x=>
   rw[e2]at e1;have e3:es[j]=entryOfKey _ x:=Option.some.inj e1;obtain⟨v,m1,m2⟩:=KTgetI rel e2;obtain⟨ns,n1,n2⟩:=hk _ (gM m1);dsimp only at n1;rw[n1]at m1 m2;rw[yH]at m2;exact⟨x.2.1,ns,v,by rw[e3];rfl,m2,m1,n2⟩
 refine PySem.W.kdu_sorted (OP lo) (I.ok.hd hc) F KK raw (by rw[esz];exact z) λD h' tk vs F' N' lt hlen hP=>?_;have vtup:∀(j:Nat) (hj:j<vs.length),∃(b:Addr) (ns:List Int) (v:V),vs[j]=.ref b/\H b=some (.tup (ns.map V.int))/\ah[j]? = some (ik ns,v)/\ns≠[]:=λj hj=>by
  obtain⟨h1,h2⟩:=hP j vs[j] (by simp [hj]);rw[h2];exact itup j h1
 have vl:vs.length=ah.length:=by rw[hlen,esz]
 have kvI:∀(j:Nat) (ns:List Int) (v:V),ah[j]? = some (ik ns,v)->xS (ah.getD j ([],.non)).1=ns:=λj ns v e=>by rw[uY,e];exact ET ns
 have O:Strict (λi j=>kY (xS (ah.getD i ([],.non)).1) (xS (ah.getD j ([],.non)).1)) vs.length:=by
  refine⟨λa b c=>PY _ _ _,λa b=>PZ _ _,λa b ha hb hab hf=>?_⟩;obtain⟨_,ns,v,_,_,e3,_⟩:=vtup a ha;obtain⟨_,ms,v',_,_,e3',_⟩:=vtup b hb;rw[kvI _ _ _ e3,kvI _ _ _ e3']at hf;show kY (xS (ah.getD b ([],.non)).1) (xS (ah.getD a ([],.non)).1)=true;rw[kvI _ _ _ e3,kvI _ _ _ e3'];refine KS _ _ (λz=>hab ?_) hf;have i1:(ah.map (·.1))[a]? = some (ik ns):=by rw[hU,e3];rfl
  have i2:(ah.map (·.1))[b]? = some (ik ns):=by rw[hU,e3',z];rfl
  exact(List.getElem?_inj (by rw[mL];omega) kn).mp (i1.trans i2.symm)
 have fin:∀(idx:List Nat) (h3:Heap) (c tk3:Nat),idx.Perm (List.range ah.length)->idx.Pairwise (λi j=>kY (xS (ah.getD i ([],.non)).1) (xS (ah.getD j ([],.non)).1)=true)->Fr X.base X.env.locals h3 m->News X.base X.env.locals h3 ((D,PySem.W.listOf (idx.map λi=>vs.getD i Value.none).toArray c)::xJ X.base s.heap X.env.locals)->
   EP X ae σ Q (.ref D) { s with heap:=h3,toks:=tk3 } :=λidx h3 c tk3 pm pw F3 N3=>by
  have il:idx.length=ah.length:=by rw[pm.length_eq,List.length_range]
  have im:∀i∈idx,i<ah.length:=λi hi=>mR.mp (pm.mem_iff.mp hi);have tr:∀js:List Nat,(∀i∈js,i<ah.length)->∃ys:List V,Vals ys (js.map λi=>vs.getD i Value.none)/\Keyed H ys (js.map λi=>ah.getD i ([],.non)):=by
   intro js;induction js with
   | nil=>exact λ_=>⟨[],.nil,rfl,λi y p e=>by simp at e⟩
   | cons j js ih=>
    intro hj;obtain⟨ys,r1,r2,r3⟩:=ih λi hi=>hj i (gN _ hi);have hj1:=hj j (gZ ..);obtain⟨b,ns,x,e1,e2,e3,_⟩:=vtup j (by rw[vl];exact hj1);refine⟨.ref b::ys, ?_,by simp [r2],λi y p ey ep=>?_⟩
    ·rw[mW];refine .cons ?_ r1;rw[uY,gD (by rw[vl];exact hj1),e1]
     rfl
    ·cases i with
     | zero=>
      simp only[mW,List.getElem?_cons_zero,Option.some.injEq]at ey ep;rw[uY,e3]at ep;subst ey;subst ep;exact⟨b,ns,rfl,e2,rfl⟩
     | succ i=>
      simp only[mW,List.getElem?_cons_succ]at ey ep;exact r3 i y p ey ep
  obtain⟨ys,rv,hy⟩:=tr idx im;have yl:ys.length=ah.length:=by rw[hy.1,mL];exact il
  have nb:=BG (ho:=.lst ys) (tk:=tk3) I F F3 N3 lt λe=>⟨by rw[yl];exact z,_,c,rv,e⟩;have pz:(idx.map λi=>ah.getD i ([],.non)).Perm ah:=by
   have:=pm.map λi=>ah.getD i ([],V.non);rw[zE]at this;exact this
  exact⟨.ref D,_,nb.2,rfl,(q ys _ pz hy (List.pairwise_map.mpr pw)).at nb.1⟩
 have nD:=N' (D,PySem.W.listOf vs.toArray 0) (gZ ..);by_cases h2:vs.length<2
 ·refine DV (n:=0) nD.1 h2 ?_;obtain⟨c,hat⟩:=sortedHeap_at (vs:=vs) (n:=0) (out:=vs.toArray) nD.1;have old:∀b u,b≠D->h'.get? b=some u->(sortedHeap h' D vs vs.toArray).get? b=some u:=λb u hb e=>by
   rw[sortedHeap_old hb (nJ e)];exact e
  have er:(List.range ah.length).map (λi=>vs.getD i Value.none)=vs:=by rw[<-vl];exact zE vs _
  refine fin (List.range ah.length) _ c tk (List.Perm.refl _) (by
   rw[<-vl];have:vs.length=0∨vs.length=1:=by omega
   rcases this with z | z<;>rw[z]<;>simp) ⟨?_,λb u e=>old b u (λy=>by rw[y,nD.2.2]at e;cases e) (F'.keep b u e),F'.above⟩ (λp hp=>?_)
  ·obtain⟨ob,es',ep',e1,e2⟩:=F'.ns;exact⟨ob,es',ep',old _ _ (Ne.symm nD.2.1) e1,e2⟩
  ·rw[er]at hp;rcases mX.mp hp with rfl | hp
   ·exact⟨hat,nD.2⟩
   ·have y:=N' p (gN _ hp);exact⟨old _ _ (nO (lt p hp)) y.1,y.2⟩
 ·have hd:∀q∈xJ X.base s.heap X.env.locals,q.1≠D:=λq hq=>nO (lt q hq);refine LwR.ts_lsort (vs:=vs) (its:=vs.toArray) F' N' (.head hd) rfl #[0] (by rw[vl];exact z) λe1 h4 F4 N4=>?_;have in4:∀b xs,H b=some (.tup xs)->∃its:List Value,Vals xs its/\IsTup h4 b its.toArray:=λb xs e=>by
   obtain⟨_,its,rv,⟨ob,ho,hc2⟩,_⟩:=(show ObjOk X.prog X.w H s.heap b (.tup xs)from I.hok b _ e);refine⟨its,rv,ob, ?_,hc2⟩;cases y:X.base.get? b with
   | some u=>
    have y2:=I.bk b u y;rw[ho]at y2;cases y2;exact F4.keep b _ y
   | none=>exact(N4 (b,ob) (gN _ (wC (λy2=>by rw[y2,I.free]at e;cases e) y ho))).1
  have tups:∀l:List Value,(∀v∈l,v∈vs)->∃fs:List Value,PySem.W.KatTups h4 l fs/\fs.length=l.length/\∀f∈fs,∃n t,f=Value.int n t:=by
   intro l;induction l with
   | nil=>exact λ_=>⟨[],.nil,rfl,λ_ y=>nomatch y⟩
   | cons v r ih=>
    intro hm;obtain⟨fs,t1,t2,t3⟩:=ih λv' hv'=>hm v' (gN _ hv');obtain⟨j,hj,ev⟩:=List.getElem_of_mem (hm v (gZ ..));obtain⟨b,ns,x,g1,g2,g3,g4⟩:=vtup j hj;obtain⟨its,rv,ob,ho,hc2,nn,hdt⟩:=in4 b _ g2
    match ns,g4,rv with
    | n::nr,_,.cons (b:=iv) (l₂:=ir) rr rt=>
     obtain⟨tt,rfl⟩:=rr;rw[<-ev,g1];exact⟨.int n tt::fs,.cons ho hc2 hdt (by simp) t1,by simp [t2],λf hf=>(mX.mp hf).elim (λy=>⟨n,tt,y⟩) (t3 f)⟩
  obtain⟨fs,t1,t2,t3⟩:=tups vs λ_ y=>y;refine PySem.W.kat_kind (T:=.type "int") t1 #[0] (λf hf=>?_) #[1] ?_
  ·obtain⟨n,t,rfl⟩:=t3 f hf;exact PySem.W.Looks.of_pure rfl
  ·refine⟨λi j=>kY (xS (ah.getD i ([],.non)).1) (xS (ah.getD j ([],.non)).1),λs'=>s' = { s with heap:=h4,toks:=tk },⟨λi j s' C hi hj hs' hC=>?_,O⟩,rfl,λp s' hs' pm pw=>?_⟩
   ·subst hs';obtain⟨b,ns,x,g1,g2,g3,_⟩:=vtup i hi;obtain⟨b',ns',x',g1',g2',g3',_⟩:=vtup j hj;obtain⟨its,rv,ob,ho,hc2,nn,hdt⟩:=in4 b _ g2;obtain⟨its',rv',ob',ho',hc2',nn',hdt'⟩:=in4 b' _ g2';have hC:=hC _ rfl;unfold PySem.W.kas_cmp;rw[PySem.W.kas_item_eq,PySem.W.kas_item_eq];dsimp only;rw[show vs.getD i Value.none=.ref b by rw[uY,gD hi,g1];rfl,show vs.getD j Value.none=.ref b' by rw[uY,gD hj,g1'];rfl];rw[kvI _ _ _ g3,kvI _ _ _ g3']at hC;have i1:=vB rv;have i2:=vB rv';refine PySem.W.kat_lt ho hdt ho' hdt' (KR i1 i2 ?_ 0);rw[hV,hV,vK i1,vK i2,QA];exact hC
   ·subst hs';exact PySem.W.KasFin.intro F4 N4 (.head hd) λh5 c F5 N5=>fin p h5 c tk (by rw[<-vl];exact pm) pw F5 N5
end
end LwD
namespace LwI
open PySem PySem.Spec PyProof.Rows
open Sem (wp)
section
local macro_rules | `(panic! $s:str)=>return Lean.mkIdent ((Lean.Name.str (.str (.num (.str (.str (.str (.str (.str .anonymous "_private") "PySem") "Builtin") "Int") "W0All") 0) "PySem") "Builtin")++s.getString.toName)
local macro_rules | `(tactic| trivial)=>do
 let n (s:String):=Lean.mkIdent (.str (.str (.str (.num (.str (.str (.str (.str (.str .anonymous "_private") "PySem") "Builtin") "Int") "W0All") 0) "PySem") "Builtin") s)
 `(tactic| first | unfold $(n "intFromObject") | unfold $(n "numeralText?") | unfold $(n "intFromText") | unfold $(n "readNumeral") | unfold $(n "prefixBase?") | unfold $(n "numeralDigits?") | unfold $(n "digitValue?"))
end
end LwI
namespace L2
open PySem PySem.Spec PyProof.Rows Lw
section
variable{X:Cx}
end
end L2
namespace L2
open PySem PySem.Spec PyProof.Rows
section
variable{X:Cx}
end
end L2
namespace LwD
open PySem PySem.Spec PyProof.Rows L2 Lw PySem.W
section
variable{prog:Program}{w:World}{A:Around}{E:Value->Shared->Prop}{s:Shared}{h₀:Heap}{L:Addr}{m:Str->Option Value}{news:List (Addr×Obj)}
end
section
variable{X:Cx}
end
section
variable{X:Cx}{e e2:Expr}{kpos p pos:Pos}{t:TA}
end
end LwD
namespace LwS
open PySem PySem.Builtin.Str
structure Mark(sep:Str)(k c:Nat):Prop where
 one:sep.cps.toList[k]? = some c
 only:∀j,j<k->sep.cps.toList[j]?≠some c
 kind:strKind sep=1
open LwI
structure Trm where
 ns:List Int
 t:Int
 b:Int
structure TmOk(ad:Nat)(x:Trm):Prop where
 len:x.ns.length=ad
 nn:∀n∈x.ns,0<=n
 deg:x.ns.sum<=16
 pos:0<x.b
 low:Int.gcd x.t x.b=1
 nz:x.t≠0
 st:x.t.natAbs<2^782
 sb:x.b.natAbs<2^680
end LwS
namespace Lw
open PySem PySem.Spec PyProof.Rows L2
section
variable{X:Cx}
def tF2(m:Str)(ta:TE):TE:=fun σ H Q=>ta σ H λx H1=>∃i:Int,x=.int i/\i.natAbs.log2<1920/\m.length<=sizeLine/\(m++(toString i:Str)).length<=sizeLine/\Q (.str (m++(toString i:Str))) H1
theorem pe_f2{a:Expr}{ta:TE}{m:Str}{k:Nat}{p1 p2 pos:Pos}(hm:m.length<=sizeLine)(ha:PE X a ta):PE X (.JoinedStr [.Constant (.str m) k p2,.FormattedValue a (-1) none p1] pos) (tF2 m ta):=by
 intro ae s σ H Q I h;have e1:Str.empty++m=m:=Str.empty_append m;refine JoinedStr_many (joinParts_cons (Calls.Constant_str ?_));show(Str.empty++m).length<=sizeLine/\wpAny _ _ (joinParts (Str.empty++m) _) _ _ { s with toks:=s.toks+1 };rw[e1];refine⟨hm,joinParts_cons (FormattedValue_plain (thn (ha ae _ σ H _ (I.tok _) h) λv s1 ⟨x,H1,I1,r1,i,ex,f1,_,hl,q1⟩=>?_))⟩;subst ex;obtain⟨t,rfl⟩:=r1;exact formatField_int_small f1 ⟨hl,joinParts_nilE (joinParts_nil ⟨.str _,H1,(I1.tok _).tok _,⟨_,rfl⟩,q1⟩ hl)⟩
end
end Lw
namespace LwD
open PySem PySem.Spec PyProof.Rows L2 Lw
section
variable{prog:Program}{w:World}{A:Around}{E:Value->Shared->Prop}{h:Heap}{g:Array GenState}{d:Drawn}{t:Nat}{os:OsState}{a:Addr}{o:Obj}
end
theorem zC:plainId "dict.update.loop" = true:=by decide +kernel
theorem EO:entryFor table "dict.update.loop" = some Builtin.«dict.update.loop»:=entryFor_of_tree (by kernel_rfl)
section
variable{prog:Program}{w:World}{A:Around}{E:Value->Shared->Prop}
abbrev tkd(prog:Program)(w:World):=tupleKind (kC prog w)
def PairAt(prog:Program)(w:World)(h:Heap)(v:Value)(x:List Key×Addr×Value):Prop:=∃r,v=.ref r/\IsTup h r #[.ref x.2.1,x.2.2]/\(tkd prog w).is h x.1 x.2.1
theorem PairAt.keep{h h':Heap}{v:Value}{x:List Key×Addr×Value}(p:PairAt prog w h v x)(k:∀b u,h.get? b=some u->h'.get? b=some u):PairAt prog w h' v x:=by
 obtain⟨r,e,⟨o,h1,h2⟩,q,its,n,h3,h4⟩:=p;exact⟨r,e,⟨o,k _ _ h1,h2⟩,q,its,n,k _ _ h3,h4⟩
def ZZ(xs ps:List (List Key×Addr×Value)):List (List Key×Addr×Value):=ps.foldl (λacc x=>storedH acc x.1 x.2.1 x.2.2) xs
theorem LZ(xs:List (List Key×Addr×Value))(k:List Key)(a:Addr)(v:Value):(storedH xs k a v).length<=xs.length+1:=by
 unfold storedH;split<;>simp
end
section
variable{prog:Program}{w:World}{A:Around}{E:Value->Shared->Prop}{s:Shared}
end
section
variable{X:Cx}
def PairsIn(H:Hp)(ys:List V)(ah:List (List Key×V)):Prop:=Paired (λ(y:V) (p:List Key×V)=>∃r b,y=.ref r/\Rd H r (.tup [.ref b,p.2])/\H b=some (.tup (p.1.map kV))) ys ah
theorem JX:∀(ps xs:List (List Key×Addr×Value)),((xs++ps).map (·.1)).Nodup->ZZ xs ps=xs++ps
 | [],xs,_=>(List.append_nil xs).symm
 | p::ps,xs,h=>by
  have hn:atKey xs p.1=none:=by
   refine atKey_none_of_get λj q e=>?_;rw[mM,mW]at h;exact(mB.mp h).2.2 p.1 (nP.mpr ⟨_,gM e,rfl⟩) p.1 (gZ ..) rfl
  show ZZ (storedH xs p.1 p.2.1 p.2.2) ps=_;rw[storedH_new hn,JX ps _ (by rw[List.append_assoc];exact h),List.append_assoc]
  rfl
end
section
variable{prog:Program}{w:World}{A:Around}{E:Value->Shared->Prop}{s:Shared}
theorem EY{α:Type}(f:α->Int):∀(l:List α),(l.map f).Nodup->∀e∈l,(l.filter λx=>f x==f e).length<=1
 | [],_,e,he=>nomatch he
 | a::l,hn,e,he=>by
  rw[mW,List.nodup_cons]at hn;by_cases z:f a=f e
  ·have:(l.filter λx=>f x==f e)=[]:=by
    rw[List.filter_eq_nil_iff];intro x hx;simp only[beq_iff_eq];exact λy=>hn.1 (z▸y▸nP.mpr ⟨x,hx,rfl⟩)
   rw[mK,this];split<;>simp
  ·rw[mK,tJ (by simpa using z)];rcases mX.mp he with rfl | he
   ·exact absurd rfl z
   ·exact EY f l hn.2 e he
theorem MT{nm:String}{d o:Addr}{xs:List (List Key×Addr×Value)}{Q:Unit->Shared->Prop}(hdo:d≠o)(hoS:(o==sysModules)=false)(hd:s.heap.DictOfH (tkd prog w) d [])(ho:s.heap.DictOfH (tkd prog w) o xs)
  (hh:(xs.map λx=>(tkd prog w).hash x.1).Nodup) (hz:xs.length<=sizeLine) (hQ:∀h',h'.DictOfH (tkd prog w) d xs->Heap.SameBut d s.heap h'->Q () { s with heap:=h' }):wpAny #[4] A (Builtin.Dict.mergeDict nm d o) Q E s:=by
 obtain⟨od,esd,epd,hod,hcd,hdd,hed,hid,hnd⟩:=id hd;obtain⟨oo,eso,epo,hoo,hco,hdo',heo,hio,hno⟩:=id ho;have d0:esd = #[]:=by simpa using hed
 subst d0;have lz:eso.size=xs.length:=size_of_entries heo;unfold Builtin.Dict.mergeDict;rw[tJ (by simpa using hdo)];unfold Builtin.Dict.showsAll;rw[tJ (by rw[hoS];exact gW)];refine tF (tG ?_);refine tF (wpAny_dictEntries hoo hdo' ?_);dsimp only;by_cases he:xs=[]
 ·subst he;have e0:eso = #[]:=by simpa using heo
  subst e0;rw[tJ (by simp)];refine tF (wpAny_dictEpoch hoo hdo' ?_);refine tF (wpAny_dictEntries hoo hdo' ?_);refine tF ?_;rw[Std.Legacy.Range.forIn_eq_forIn_range'];refine tG ?_;exact tG (hQ s.heap hd (Heap.SameBut.refl _ _))
 ·have few:(decide (eso.size<=8)&&eso.all λe=>(keyPart e.key).isSome)=false:=by
   obtain⟨x,r,rfl⟩:∃x r,xs=x::r:=by cases xs with | nil=>exact absurd rfl he | cons x r=>exact⟨x,r,rfl⟩
   have:eso.all (λe=>(keyPart e.key).isSome)=false:=by
    rw[<-Array.all_toList,heo]
    rfl
   rw[this,Bool.and_false]
  rw[few,tK #[1]];refine tF (wpAny_dictEntries hod hdd ?_);rw[tK #[1]];refine tF ?_;unfold Builtin.Dict.entriesForEmpty;refine tF (wpAny_dictEntries hoo hdo' ?_);have body:∀e∈eso.toList,∀(s':Shared),s'=s->∀{Q':ForInStep PUnit->Shared->Prop},Q' (.yield PUnit.unit) s'->wpAny #[4] A (do
   let q<-Builtin.Dict.quietEq e.key
   if (!q)=true then
    if (eso.filter (·.hash==e.hash)).size>1 then(do let _<-(unsupported s!"{nm}:keys-of-equal-hash" :Sem PUnit);pure (ForInStep.yield PUnit.unit))else pure (ForInStep.yield PUnit.unit)
   else pure (ForInStep.yield PUnit.unit):Sem (ForInStep PUnit)) Q' E s':=by
   rintro e hm s' rfl Q' hq;have hm':=hm;rw[heo]at hm;obtain⟨x,hx,rfl⟩:=nP.mp hm;refine tF ?_;show wpAny _ _ (Builtin.Dict.quietEq (.ref x.2.1)) _ _ _;unfold Builtin.Dict.quietEq;refine tF (wpAny_specialOf (hio x hx).typeIs F.slot_tuple_eq.lookup (tG ?_));rw[tK #[1],tJ ?_]
   ·exact tG hq
   ·have:=EY (λe:DictEntry=>e.hash) eso.toList (by rw[heo,nT];exact hh) _ hm';rw[<-Array.toList_filter,Array.length_toList]at this;exact Nat.not_lt.mpr this
  refine tF ?_;rw[<-Array.forIn_toList];refine wpAny_forIn_list _ (λrest _ s'=>s'=s/\∃pre,eso.toList=pre++rest) _ ?_ ?_ _ _ ⟨rfl,[],rfl⟩
  ·rintro e rest b s' ⟨rfl,pre,hp⟩;refine body e (by rw[hp];simp) _ rfl ?_;exact⟨rfl,pre++[e],by rw[hp];simp⟩
  ·rintro b s' ⟨rfl,_⟩;refine tG ?_;rw[tK (by
    have:eso≠#[]:=λz=>he (List.length_eq_zero_iff.mp (by rw[<-lz,z];rfl));simpa using this)]
   refine tF (wpAny_updateDictKeysTo hod hdd (tG (hQ _ ⟨_,_,epd+1,Heap.get?_update_self _ hod (Obj.isFreed_of_dict (Obj.data_mapDictKeys hdd _)),hcd.mapDictKeys _,Obj.data_mapDictKeys hdd _,heo,λx hx=>?_,hno⟩ (Heap.SameBut.update ..))) #[0]);exact(tkd prog w).keeps (hio x hx) hod hdd (Heap.SameBut.update ..)
theorem TL{o:Addr}{xs:List (List Key×Addr×Value)}{Q:Value->Shared->Prop}(hoS:(o==sysModules)=false)(ho:s.heap.DictOfH (tkd prog w) o xs)(hh:(xs.map λx=>(tkd prog w).hash x.1).Nodup)(hz:xs.length<=sizeLine)
  (h:∀h',h'.DictOfH (tkd prog w) s.heap.objs.size xs->(∀b u,s.heap.get? b=some u->h'.get? b=some u)->Q (.ref s.heap.objs.size) { s with heap:=h' }) :
  wpAny #[4] A (call (.type "dict") [.ref o]) Q E s:=by
 refine callType_codes (Q₁:=λobj s₁=>obj=.ref s.heap.objs.size/\s₁ = { s with heap:=s.heap.push { cls:=.type "dict",data:=.dict #[] } }) F.kt_called_dict (F.kt_typeCall_dict_1 _) F.entry_dict_init (kt_code_dict_new _ ⟨rfl,rfl⟩) ?_;rintro obj s₁ ⟨rfl,rfl⟩;have hnew:(s.heap.push { cls:=.type "dict",data:=.dict #[] }).DictOfH (tkd prog w) s.heap.objs.size []:=⟨_,#[],0,gT _ rfl,⟨rfl,rfl,rfl⟩,rfl,rfl,(λx hx=>nomatch hx),mU⟩;have ho':(s.heap.push { cls:=.type "dict",data:=.dict #[] }).DictOfH (tkd prog w) o xs:=by
  obtain⟨oo,es,ep,g1,g2,g3,g4,g5,g6⟩:=ho;exact⟨oo,es,ep,gH _ g1,g2,g3,g4,λx hx=>let ⟨q,its,n,i1,i2⟩:=g5 x hx;⟨q,its,n,gH _ i1,i2⟩,g6⟩
 have hdo:s.heap.objs.size≠o:=by
  obtain⟨_,_,_,hg,_⟩:=ho;exact λe=>absurd (nJ hg) (by rw[e];exact mY _)
 have ty:∀{h1:Heap} {a:Addr} {ys:List (List Key×Addr×Value)},h1.DictOfH (tkd prog w) a ys->(⟨h1,s.gens,s.drawn,s.toks,s.os⟩:Shared).TypeIs (.ref a) "dict":=λD=>let ⟨q,_,_,g1,g2,_⟩:=D;⟨q,g1,g2.1⟩;refine⟨ty hnew,F.args_dict_init_2 _ _, ?_⟩;unfold Builtin.«dict.__init__»;refine tF ?_;unfold Builtin.Dict.selfAndRest;refine tF (wpAny_notOrdered_dict (ty hnew) ?_);show wpAny _ _ (pure (s.heap.objs.size,[Value.ref o])) _ _ _;refine tG ?_;show wpAny _ _ (Builtin.Dict.updateFrom "dict.__init__" s.heap.objs.size (.ref o) [] .none) _ _ _;unfold Builtin.Dict.updateFrom;refine tF (wpAny_typeOf (ty ho') ?_);rw[tJ #[1]];refine tF ?_;unfold Builtin.Dict.merge;refine tF ?_;unfold Builtin.Dict.readDirectly;refine tF (wpAny_isInstance (ty ho') isSubtype_dict_dict ?_);simp only[Bool.not_true,Bool.false_eq_true,if_false];refine tF (wpAny_specialOf (ty ho') F.slot_dict_iter.lookup (tG ?_));simp only[beq_self_eq_true,if_true];refine tF (tG ?_);refine MT hdo hoS hnew ho' hh hz λh' hd' hs'=>?_;show wpAny _ _ (Builtin.Dict.addKeywords s.heap.objs.size [] >>= _) _ _ _;refine tF (tG (tG ⟨rfl,h h' hd' λb u e=>?_⟩));exact(hs'.2 b (nO (nJ e))).trans (gH _ e)
end
section
variable{X:Cx}
end
def UE:Nat->Nat->List (List Int)
 | 0,_=>[[]]
 | m+1,s=>(List.range (s+1)).flatMap λi=>(UE m (s-i)).map λr=>(i:Int)::r
theorem FD:∀(m s:Nat) (ns:List Int),ns.length=m->(∀n∈ns,0<=n)->ns.sum<=s->ns∈UE m s
 | 0,_,ns,h,_,_=>by rw[List.length_eq_zero_iff.mp h];exact gY.mpr rfl
 | m+1,s,[],h,_,_=>by cases h
 | m+1,s,n::r,h,hp,hs=>by
  have hn:=hp n (gZ ..);obtain⟨i,rfl⟩:=gF hn;have hr:0<=r.sum:=by
   have:∀l:List Int,(∀x∈l,0<=x)->0<=l.sum:=λl=>by
    induction l with
    | nil=>exact λ_=>tD _
    | cons a l ih=>
     intro h;have h1:=h a (gZ ..);have h2:=ih λx hx=>h x (gN _ hx);rw[mZ];omega
   exact this r λx hx=>hp x (gN _ hx)
  rw[mZ]at hs;have hi:i<=s:=by omega
  refine List.mem_flatMap.mpr ⟨i,mR.mpr #[0],nP.mpr ⟨r, ?_,rfl⟩⟩;exact FD m (s-i) r (by simpa using h) (λx hx=>hp x (gN _ hx)) #[0]
def hT(ns:List Int):Int:=reduceHash (Builtin.Tuple.tupleHashOf (ns.map hashInt))
structure PwS(ad:Nat)(ns:List Int):Prop where
 len:ns.length=ad
 nn:∀n∈ns,0<=n
 deg:ns.sum<=8
theorem yR{α β:Type}{f:α->β} :∀{l:List α},(l.map f).Nodup->∀{a b:α},a∈l->b∈l->f a=f b->a=b
 | [],_,_,_,h,_,_=>nomatch h
 | x::r,hn,a,b,ha,hb,e=>by
  rw[mW,List.nodup_cons]at hn;rcases mX.mp ha with ea | ka
  ·rcases mX.mp hb with eb | kb
   ·rw[ea,eb]
   ·exact absurd (nP.mpr ⟨b,kb,by rw[<-e,ea]⟩) hn.1
  ·rcases mX.mp hb with eb | kb
   ·exact absurd (nP.mpr ⟨a,ka,by rw[e,eb]⟩) hn.1
   ·exact yR hn.2 ka kb e
theorem QJ(P:Program)(w:World)(ns:List Int):(tkd P w).hash (ik ns)=hT ns:=by
 show reduceHash (Builtin.Tuple.tupleHashOf ((ik ns).map (keyH w)))=_;unfold hT
 congr 2
 show List.map (keyH w) (ns.map Sum.inl)=_;rw[nT]
 rfl
section
variable{X:Cx}
end
section
variable{prog:Program}{w:World}{A:Around}{E:Value->Shared->Prop}{s:Shared}
end
section
variable{X:Cx}
end
section
variable{prog:Program}{w:World}{A:Around}{E:Value->Shared->Prop}{s:Shared}{d it:Addr}{es:Array DictEntry}{ep i:Nat}
end
section
variable{X:Cx}
end
end LwD
namespace Lw
open PySem PySem.Spec PyProof.Rows L2
section
variable{X:Cx}
end
section
variable{X:Cx}
end
section
variable{prog:Program}{w:World}{A:Around}{R:Result->Shared->Prop}{s:Shared}
theorem LL{elt target iter c:Expr}{scope:Scope}{pos:Pos}{it acc:Value}{env:Env}(I:Nat->Shared->Prop)
  (turn:∀n s,I n s->wpAny #[4] A (pyNext it) (λr s₁=>match r with
   | none=>R (.ok .next) s₁
   | some v=>wpAny #[4] A (letOwnedTupleGo target it v) (λ_ s₁'=>wpAny #[4] A (assign target env v) (λ_ s₂=>wpAny #[4] A (isTrue c env (eval c env)) (λb s₂'=>if b=true then wpAny #[4] A (eval elt env) (λx s₃=>
     wpAny #[4] A (call (.builtin "list.append") [acc,x]) (λ_ s₄=>∃m,m<n/\I m s₄) (notedBy #[4] A env λe s'=>R (.error e) s') s₃)
     (notedBy #[4] A env λe s'=>R (.error e) s') s₂' else ∃m,m<n/\I m s₂') (notedBy #[4] A env λe s'=>R (.error e) s') s₂) (notedBy #[4] A env λe s'=>R (.error e) s') s₁') (notedBy #[4] A env λe s'=>R (.error e) s') s₁) (notedBy #[4] A env λe s'=>R (.error e) s') s)
  (n:Nat) (h:I n s) :
  codeAny #[4] A (.compLoop (.ListComp elt [⟨target,iter,[c],0⟩] scope pos) 0 it acc env) R s:=by
 refine codeAny_loop rfl I (λn s hI=>?_) n h;show wpAny _ _ ((compTurn (.ListComp elt [⟨target,iter,[c],0⟩] scope pos) 0 it acc env).onRaise (λx=>do noteFrame x env;theTreesLotGoes x)) _ _ s;refine wpAny_noted ?_;rw[compTurn_list];refine tF (wpAny_standAt (tF (tH (turn n s hI) (λr s₁ h₁=>?_) λ_ _ h'=>h')));cases r with
 | none=>exact tG h₁
 | some v=>
  refine tF (tH h₁ (λ_ s₁' h₁'=>?_) λ_ _ h'=>h');refine tF (tH h₁' (λ_ s₂ h₂=>?_) λ_ _ h'=>h');refine tF ?_;rw[List.forIn_cons];dsimp only;rw[tK rfl];refine tF (tF (tH h₂ (λb s₂' hb=>tG ?_) λ_ _ h'=>h'));dsimp only;rw[List.forIn_nil];refine tG ?_;cases b with
  | true=>
   rw[tK rfl]at hb ⊢;refine tF ?_;exact(tF (tH hb (λx s₃ h₃=>tF (tH h₃
    (λ_ s₄ h₄=>tG (tG ⟨rfl,h₄⟩)) λ_ _ h'=>h')) λ_ _ h'=>h'))
  | false=>
   rw[tJ gW]at hb ⊢;exact tG ⟨rfl,hb⟩
end
section
variable{X:Cx}
end
end Lw
namespace LwD
open PySem PySem.Spec PyProof.Rows L2 Lw
section
variable{prog:Program}{w:World}{A:Around}{E:Value->Shared->Prop}{s:Shared}
end
section
variable{X:Cx}
end
section
variable{X:Cx}{k v:Expr}{tk tv:TE}{pos:Pos}
end
end LwD
namespace L2
open PySem PySem.Spec PyProof.Rows
section
variable{X:Cx}
end
end L2
namespace Lw
open PySem PySem.Spec PyProof.Rows L2
theorem XS{κ:Type}{ah:List (κ×V)}{vs:List (κ×Value)}(r:KV ah vs){i:Nat}{k:κ}{x:V}(h:ah[i]? = some (k,x)):∃u,vs[i]? = some (k,u)/\RelV x u:=by
 unfold KV at r;induction r generalizing i with
 | nil=>simp at h
 | cons p t ih=>
  cases i with
  | zero=>
   cases (Option.some.inj h);rename_i b bs _;exact⟨b.2,by have e:k=b.1:=p.1;show some b=some (k,b.2);rw[e],p.2⟩
  | succ i=>exact ih (i:=i) h
theorem OO{P:Program}{w:World}{k:Key}{u:Value}(h:(kC P w).is k u=true):RelV (kV k) u:=by
 rcases qB (show EQ k u=true from h)with⟨i,t,rfl,rfl⟩ | ⟨x,t,rfl,rfl⟩
 ·exact⟨t,rfl⟩
 ·exact⟨t,rfl⟩
def Iti(d:Addr)(o:Obj)(ah:List (Key×V)):It:=
 ⟨λi H=>H d=some (.frz o (.dK ah))/\i<ah.length,
  λi H v H'=>∃p k x,H p=none/\v=.ref p/\ah[i]? = some (k,x)/\H'=upd H p (.tup [kV k,x]),
  λi H=>H d=some (.frz o (.dK ah))/\i=ah.length⟩
theorem LW{P:Program}{w:World}{K:tL}{es:List Expr}{x1}{pos:Pos}(d it:Addr){o:Obj}{ens:Array DictEntry}{ep:Nat}{ah:List (Key×V)}(ho:o.data=.dict ens ep):Turn P w K (.Tuple es x1 pos) (Iti d o ah) [it] it (λi h=>∃ok ov,IsItemIter h it d i ah.length ep ok ov) where
 mem:=by simp
 obj:=λi h st b hb=>by
  have e:b=it:=by simpa using hb
  subst e;obtain⟨ok,ov,st⟩:=st;exact⟨_,st,λv q=>by cases (show Data.fields _=Data.cell v from q)⟩
 keep:=λi h h' st k=>by
  obtain⟨ok,ov,st⟩:=st;exact⟨ok,ov,k it (by simp) _ st⟩
 item:=by
  intro X hP hw hK hc i ae s σ H E I hf st hg;subst hP hw hK;obtain⟨hd,hi⟩:=hg;obtain⟨go,ob⟩:=I.hok d _ hd;obtain⟨z,lo,vs,rel,o',es',ep',g',xo,hdat,hk,hp,hn⟩:=(show ObjOk X.prog X.w H s.heap d (.dK ah)from ob);rw[go]at g';cases g';rw[ho]at hdat;cases hdat;have hlen:vs.length=ah.length:=rel.length.symm;have at':s.heap.DictAt (kC X.prog X.w) d vs ep:=⟨o,ens,go,xo,ho,hk,hp,hn⟩;obtain⟨⟨k,x⟩,hkx⟩:∃kx,ah[i]? = some kx:=⟨ah[i],by simp [hi]⟩;obtain⟨u,hu,ru⟩:=XS rel hkx;obtain⟨ok,ov,st⟩:=st;rw[<-hlen]at st;refine wpAny_pyNext_items_item st at' hu λkey g hkey out new _ kk=>⟨_,rfl, ?_⟩;refine wpAny_letOwnedTupleGo_items out λg2 z2 sb=>?_;have il:it<s.heap.objs.size:=nJ st;have fr:H s.heap.objs.size=none:=I.hok.fresh uU ;have fp:∀b∈[it],FpOk X ae (upd H s.heap.objs.size (.tup [kV k,x])) b:=λb hb=>by
   have e:b=it:=by simpa using hb
   subst e;exact⟨by rw[jG (nO il)];exact(hf b hb).1,(hf b hb).2⟩
  have I1:Inv X ae σ (upd H s.heap.objs.size (.tup [kV k,x])) { s with heap:=s.heap.push { cls:=.type "tuple",data:=.seq #[key,u] } } :=I.laid (t':=s.toks) (λb u e=>gH _ e) uU ⟨by simp [sizeLine],[key,u],.cons (OO hkey) (.cons ru .nil),⟨_,gT _ rfl,rfl,_,rfl⟩,.of (gT _ rfl) rfl⟩;have I2:Inv X ae σ (upd H s.heap.objs.size (.tup [kV k,x])) { s with heap:=g2 } :=by
   refine Inv.turnedL (s:={ s with heap:=s.heap.push { cls:=.type "tuple",data:=.seq #[key,u] } }) (h':=g2) (t':=s.toks) I1 fp λb o hb y=>?_;have hb:b≠it:=λz=>hb (by simp [z]);rcases Heap.get?_push_cases y with⟨e1,e2⟩ | e1
   ·rw[e1,e2];exact sb.extBut _ _ (Nat.ne_of_gt il) new
   ·exact sb.extBut _ _ hb (kk b o hb e1)
  rw[hlen]at z2;exact⟨.ref s.heap.objs.size,_,I2,rfl,⟨_,k,x,fr,rfl,hkx,rfl⟩,⟨_,_,z2⟩,λb hb=>(fp b hb).1⟩
 done:=by
  intro X hP hw hK hc i ae s σ H E I hf st hg;subst hP hw hK;obtain⟨hd,hi⟩:=hg;obtain⟨go,ob⟩:=I.hok d _ hd;obtain⟨z,lo,vs,rel,o',es',ep',g',xo,hdat,hk,hp,hn⟩:=(show ObjOk X.prog X.w H s.heap d (.dK ah)from ob);rw[go]at g';cases g';rw[ho]at hdat;cases hdat;have hlen:vs.length=ah.length:=rel.length.symm;have at':s.heap.DictAt (kC X.prog X.w) d vs ep:=⟨o,ens,go,xo,ho,hk,hp,hn⟩;obtain⟨ok,ov,st⟩:=st;rw[<-hlen]at st;exact wpAny_pyNext_items_end (I.ok.hd hc) st at' (by rw[List.getElem?_eq_none];omega) λg eb=>⟨rfl,Inv.turnedL (t':=s.toks) I hf λb o hb y=>eb b o (λz=>hb (by simp [z])) y⟩
 self:=λ_ _ _ _ _ st h=>by
  obtain⟨ok,ov,st⟩:=st;exact PySem.W.kcp_self st h
section
variable{X:Cx}
theorem SA{prog:Program}{w:World}{A:Around}{E:Value->Shared->Prop}{s:Shared}{d:Addr}{vs:List (Key×Value)}{Q:Value->Shared->Prop}(lo:(d==sysModules)=false)(hm:s.heap.DictOf (kC prog w) d vs)(q:Q (.ref s.heap.objs.size) { s with heap:=s.heap.push { cls:=.type "dict_items",data:=.fields #[.ref d] } }) :
  wpAny #[4] A (call (.builtin "dict.items") [.ref d]) Q E s:=
 call_meetsIn PySem.F.slot_dict_items hm.typeIs PySem.F.entry_dict_items (PySem.F.args_dict_items_1 _) (meets_dict_items (kC prog w) d lo) ⟨⟨vs,hm⟩,q⟩
def iItems(te:TE):TI:=fun σ H R=>te σ H λv H1=>∃d o ah,v=.ref d/\H1 d=some (.frz o (.dK ah))/\R (Iti d o ah) H1
theorem xO{es:List Expr}{x1}{tp:Pos}{o:Expr}{to:TE}{apos cpos:Pos}(ho:PE X o to)(hbase:attributeBase o "items" X.env (eval o X.env)=eval o X.env:=by rfl)(hline:(apos.endLine==cpos.line)=true:=by rfl) :
  PI X (.Tuple es x1 tp) (.Call (.Attribute o "items" apos) [] [] cpos) (iItems to):=by
 intro ae s σ H R I h;refine wpAny_Call_method0_late hbase hline (thn (ho ae s σ H _ I h) λv s1 ⟨x,H1,I1,r1,q1⟩=>?_);obtain⟨d,ob,ah,rfl,hd,q⟩:=q1;cases r1;obtain⟨go,ok⟩:=I1.hok d _ hd;obtain⟨z,lo,vs,rel,dd⟩:=(show ObjOk X.prog X.w H1 s1.heap d (.dK ah)from ok);obtain⟨o',es',ep,g',xo,hdat,hk,hp,hn⟩:=id dd;rw[go]at g';cases g';have hlen:vs.length=ah.length:=rel.length.symm;refine⟨"dict","dict.items",PySem.F.plainAttrs_dict,PySem.F.slot_dict_items,PySem.F.type_dict_items,⟨_,go,xo.1⟩,(λa e=>by cases e;exact⟨_,go,xo.2.1⟩),Calls.callWith_builtin rfl (PySem.evalArgs_none ?_)⟩;refine SA lo dd ?_;have at1:(s1.heap.push { cls:=.type "dict_items",data:=.fields #[.ref d] }).DictAt (kC X.prog X.w) d vs ep:=⟨ob,es',gH _ go,xo,hdat,hk,hp,hn⟩;refine wpAny_pyIter_items (s:={ s1 with heap:=s1.heap.push { cls:=.type "dict_items",data:=.fields #[.ref d] } }) ⟨_,gT _ rfl,rfl,rfl⟩ at1 ?_;have psz:(s1.heap.push { cls:=.type "dict_items",data:=.fields #[.ref d] }).objs.size=s1.heap.objs.size+1:=mV ..;refine⟨_,[(s1.heap.push { cls:=.type "dict_items",data:=.fields #[.ref d] }).objs.size],_,_,H1,rfl,I1.kept (t':=s1.toks) λb o e=>gH _ (gH _ e),LW d _ hdat,⟨_,_,by rw[<-hlen];exact gT _ rfl⟩,λb hb=>?_,q⟩;have e:b=(s1.heap.push { cls:=.type "dict_items",data:=.fields #[.ref d] }).objs.size:=by simpa using hb
 have hb':s1.heap.objs.size<=b:=by rw[e,psz];exact Nat.le_succ _
 exact I1.fpOk hb' (I1.hok.fresh hb')
end
theorem wU{d:Addr}{o:Obj}{ah:List (Key×V)}{g:TG}{tb:TS}{D:Ends}{σ:L2.St}{H:Hp}(Pv:Nat->L2.St->Hp->Prop)(h0:Pv 0 σ H)(hl:∀i σ H,i<=ah.length->Pv i σ H->H d=some (.frz o (.dK ah)))
  (hs:∀i k x p σ H,ah[i]? = some (k,x)->H p=none->Pv i σ H->g (.ref p) σ (upd H p (.tup [kV k,x])) fun σ2 H2=>tb { D with nx:=Pv (i+1),ct:=Pv (i+1),bk:=D.nx } σ2 H2) (hd:∀σ H,Pv ah.length σ H->D.nx σ H) :
  ∃W:Nat->Nat->L2.St->Hp->Prop,(∃m,W 0 m σ H)/\∀i m σ H,W i m σ H->
   ((Iti d o ah).stop i H/\D.nx σ H)∨((Iti d o ah).go i H/\∃N:L2.St->Hp->Prop,(∀σ' H',N σ' H'->∃m',m'<m/\W (i+1) m' σ' H')/\∀x H',(Iti d o ah).yld i H x H'->g x σ H' fun σ2 H2=>tb { D with nx:=N,ct:=N,bk:=D.nx } σ2 H2):=by
 refine⟨λi m σ H=>m=ah.length-i/\i<=ah.length/\Pv i σ H,⟨ah.length,by simp,nY _,h0⟩, ?_⟩;rintro i m σ H ⟨rfl,hi,p⟩;have q:=hl i σ H hi p;by_cases hlt:i<ah.length
 ·refine .inr ⟨⟨q,hlt⟩,Pv (i+1),fun σ' H' p'=>⟨ah.length-(i+1),by omega,rfl,hlt,p'⟩,λv H' y=>?_⟩;obtain⟨r,k,x,hr,rfl,hx,rfl⟩:=y;exact hs i k x r σ H hx hr p
 ·have ei:i=ah.length:=by omega
  subst ei;exact .inl ⟨⟨q,rfl⟩,hd σ H p⟩
section
variable{X:Cx}{ae:List (Addr×Obj)}{σ:L2.St}{H:Hp}{s:Shared}
theorem Inv.freezeK{d:Addr}{ah:List (Key×V)}(I:Inv X ae σ H s)(e:H d=some (.dK ah)):∃o,Inv X ae σ (upd H d (.frz o (.dK ah))) s:=by
 have ob:ObjOk X.prog X.w H s.heap d (.dK ah):=I.hok d _ e;obtain⟨z,lo,xs,rel,o,es,ep,ho,r⟩:=id ob;refine⟨o, ?_⟩;have ne:∀{b:Addr} {u:HO},H b=some u->(∀k,u≠.dK k)->upd H d (.frz o (.dK ah)) b=some u:=fun {b u} q n=>by
  rw[jG (λy=>by rw[y,e]at q;cases q;exact n _ rfl)];exact q
 refine I.step (h':=s.heap) (g':=s.gens) (t':=s.toks) (d':=s.drawn) (ch:=[]) (λ_ y=>nomatch y) (λb u _ _ _ q _=>q) (λb u _ _ _ q _=>⟨u.slots,q⟩) (λb u _ _ q=>?_) (λb u _ q=>⟨u,q⟩) (λb xs q=>ne q λ_ y=>by cases y) (λb u v q=>ne q λ_ y=>by cases y)
  (λb ps q=>⟨#[],by rw[ne q λ_ y=>by cases y];simp⟩) (λm hm=>hm) ?_ I.bare
 ·rw[jG (λy=>by rw[y,e]at q;cases q)];exact q
 ·intro b u q;by_cases hb:b=d
  ·subst hb;rw[jE]at q;cases q;exact⟨ho,ob.stay (λc v _ q=>q) (λc q=>ne q λ_ y=>by cases y) λc xs q=>ne q λ_ y=>by cases y⟩
  ·rw[jG hb]at q;exact(I.hok b u q).stay (λc v _ q=>q) (λc q=>ne q λ_ y=>by cases y) λc xs q=>ne q λ_ y=>by cases y
end
section
variable{X:Cx}
def tFrzK(te:TE):TE:=fun σ H Q=>te σ H λv H1=>∃d ah,v=.ref d/\H1 d=some (.dK ah)/\∀o,Q v (upd H1 d (.frz o (.dK ah)))
theorem IL{e:Expr}{te:TE}(h:PE X e te):PE X e (tFrzK te):=by
 intro ae s σ H Q I hq;refine thn (h ae s σ H _ I hq) λu s1 ⟨x,H1,I1,r1,q1⟩=>?_;obtain⟨d,ah,rfl,hd,k⟩:=q1;obtain⟨o,I2⟩:=Inv.freezeK I1 hd;exact⟨.ref d,_,I2,r1,k o⟩
end
open LwD
section
variable{X:Cx}
def jX(ah:List (Key×V)):List Int:=ah.map λp=>match p.1 with | .inl i=>i | .inr _=>0
theorem SE{prog:Program}{w:World} :∀{es:List DictEntry} {vs:List (Key×Value)},Pairs (kC prog w) es vs->∀(j:Nat) (h:j<es.length),∃k u,vs[j]? = some (k,u)/\(kC prog w).is k es[j].key=true:=by
 intro es vs h;induction h with
 | nil=>intro j h;exact absurd h (Nat.not_lt_zero _)
 | cons h1 h2 t ih=>
  intro j hj;cases j with
  | zero=>exact⟨_,_,rfl,h1⟩
  | succ j=>exact ih j (by simpa using hj)
theorem JH:∀{xs:List V} {us:List Value},xs.length=us.length->(∀(j:Nat) (x:V) (u:Value),xs[j]? = some x->us[j]? = some u->RelV x u)->Vals xs us
 | [],[],_,_=>.nil
 | [],_::_,h,_=>by simp at h
 | _::_,[],h,_=>by simp at h
 | x::xs,u::us,h,f=>.cons (f 0 x u rfl rfl) (JH (by simpa using h) λj y v hy hv=>f (j+1) y v (by simpa using hy) (by simpa using hv))
end
section
variable{X:Cx}
def rSortKn:List V->Hp->VK->Prop:=λxs H Q=>∃(a:Addr) (ah:List (Key×V)),xs=[.ref a]/\Rd H a (.dK ah)/\(∀p∈ah,∃i:Int,p.1=.inl i)/\
 ∀ns:List Int,ns.Perm (jX ah)->ns.Pairwise (λx y=>x<y)->New H (.lst (ns.map V.int)) Q
theorem ND{ah:List (Key×V)}(hk:∀p∈ah,∃i:Int,p.1=.inl i)(hn:(ah.map (·.1)).Nodup):(jX ah).Nodup:=by
 refine List.pairwise_map.mpr ((List.pairwise_map.mp hn).imp_of_mem fun {p r} hp hr ne=>?_);obtain⟨i,hi⟩:=hk p hp;obtain⟨j,hj⟩:=hk r hr;rw[hi,hj]at ne;rw[hi,hj];exact λz=>ne (by rw[show i=j from z])
theorem KV_keys{ah:List (Key×V)}{vs:List (Key×Value)}(r:KV ah vs):ah.map (·.1)=vs.map (·.1):=by
 induction r with
 | nil=>rfl
 | cons h _ ih=>rw[mW,mW,ih,h.1]
theorem BM(hc:X.calm=true):CallR X (.builtin "sorted") rSortKn:=by
 intro ae s σ H xs us Q I r h;obtain⟨a,ah,rfl,ha,hk,q⟩:=h;obtain⟨u,rfl,ru⟩:=xU r;cases ru;obtain⟨z,lo,ks,rel,dd⟩:=BJ I.hok ha;obtain⟨o,es,ep,hd1,hd2,hd3,he,hp,hn⟩:=id dd;have raw:Raw s.heap a es ep:=⟨o,hd1,hd2,hd3⟩;have esz:es.size=ah.length:=by rw[rel.length,<-hp.length];simp
 obtain⟨m,F⟩:=I.fr;refine PySem.W.kdu_sorted (OP lo) (I.ok.hd hc) F KK raw (by rw[esz];exact z) λD h' tk vs F' N' lt hlen hP=>?_;have vl:vs.length=ah.length:=by rw[hlen,esz]
 have kl:(jX ah).length=ah.length:=by unfold jX;rw[mL]
 have vv:Vals ((jX ah).map V.int) vs:=by
  refine JH (by rw[mL,kl,vl]) λj x u hx hu=>?_;obtain⟨hj,e⟩:=hP j u hu;have hj':j<es.toList.length:=by simpa using hj
  obtain⟨k,u',h1,h2⟩:=SE hp j hj';have jk:j<ah.length:=by rw[<-esz];exact hj
  obtain⟨u2,g1,_⟩:=XS rel (i:=j) (k:=ah[j].1) (x:=ah[j].2) (by rw[gD jk]);rw[h1]at g1;cases g1;obtain⟨i,hi⟩:=hk ah[j] (List.getElem_mem jk);have ex:x=.int i:=by
   unfold jX at hx;rw[nT,hU,gD jk]at hx;have hx:=Option.some.inj hx;rw[<-hx];show V.int (match ah[j].1 with | .inl i=>i | .inr _=>0)=_;rw[hi]
  rw[hi]at h2;have r2:=OO h2;rw[ex,e];have r2:RelV (V.int i) (es.toList[j]).key:=r2;simpa using r2
 have ia:IntsAre vs (jX ah):=vB vv;have hd:∀q∈xJ X.base s.heap X.env.locals,q.1≠D:=λq hq=>nO (lt q hq);have nD:=N' (D,PySem.W.listOf vs.toArray 0) (gZ ..);have kn:(jX ah).Nodup:=ND hk (by rw[KV_keys rel];exact hn);have O:Strict (λi j=>decide ((jX ah).getD i 0<(jX ah).getD j 0)) vs.length:=by
  refine⟨λa b c h1 h2=>mP (Int.lt_trans (hX h1) (hX h2)),λa b h1=>mN (by have:=hX h1;omega),λa b ha hb hab hf=>mP ?_⟩;have h1:=of_decide_eq_false hf;have e1:(jX ah).getD a 0=(jX ah)[a]'#[0]:=by simp [uY,show a<(jX ah).length by omega]
  have e2:(jX ah).getD b 0=(jX ah)[b]'#[0]:=by simp [uY,show b<(jX ah).length by omega]
  have ne:(jX ah).getD a 0≠(jX ah).getD b 0:=by
   rw[e1,e2];exact λz=>hab ((List.getElem_inj kn).mp z)
  omega
 have at':∀j,j<vs.length->∃t,vs.getD j Value.none=.int ((jX ah).getD j 0) t:=λj hj=>by
  obtain⟨n,t,g1,g2⟩:=vW ia hj;exact⟨t,by rw[uY,uY,gD hj,g1,g2];rfl⟩
 have fin:∀(idx:List Nat) (h3:Heap) (c tk3:Nat),idx.Perm (List.range vs.length)->idx.Pairwise (λi j=>decide ((jX ah).getD i 0<(jX ah).getD j 0)=true)->Fr X.base X.env.locals h3 m->News X.base X.env.locals h3 ((D,PySem.W.listOf (idx.map λi=>vs.getD i Value.none).toArray c)::xJ X.base s.heap X.env.locals)->
   EP X ae σ Q (.ref D) { s with heap:=h3,toks:=tk3 } :=λidx h3 c tk3 pm pw F3 N3=>by
  have im:∀i∈idx,i<vs.length:=λi hi=>mR.mp (pm.mem_iff.mp hi);have rv:Vals ((idx.map λi=>(jX ah).getD i 0).map V.int) (idx.map λi=>vs.getD i Value.none):=by
   rw[nT];clear pm pw N3;induction idx with
   | nil=>exact .nil
   | cons j js ih=>
    obtain⟨t,e⟩:=at' j (im j (gZ ..));rw[mW,mW];exact .cons (by rw[e];exact⟨t,rfl⟩) (ih λi hi=>im i (gN _ hi))
  have il:idx.length=vs.length:=by rw[pm.length_eq,List.length_range]
  have nb:=BG (ho:=.lst ((idx.map λi=>(jX ah).getD i 0).map V.int)) (tk:=tk3) I F F3 N3 lt λe=>⟨by rw[mL,mL,il,vl];exact z,_,c,rv,e⟩;have er:(List.range vs.length).map (λi=>(jX ah).getD i 0)=jX ah:=by rw[show vs.length=(jX ah).length by omega];exact zE (jX ah) 0
  have pz:(idx.map λi=>(jX ah).getD i 0).Perm (jX ah):=by
   have:=pm.map λi=>(jX ah).getD i 0
   rwa [er]at this
  exact⟨.ref D,_,nb.2,rfl,(q _ pz (List.pairwise_map.mpr (pw.imp λh=>hX h))).at nb.1⟩
 by_cases h2:vs.length<2
 ·refine DV (n:=0) nD.1 h2 ?_;obtain⟨c,hat⟩:=sortedHeap_at (vs:=vs) (n:=0) (out:=vs.toArray) nD.1;have old:∀b u,b≠D->h'.get? b=some u->(sortedHeap h' D vs vs.toArray).get? b=some u:=λb u hb e=>by
   rw[sortedHeap_old hb (nJ e)];exact e
  have er:(List.range vs.length).map (λi=>vs.getD i Value.none)=vs:=zE vs _;refine fin (List.range vs.length) _ c tk (List.Perm.refl _) (by
   have:vs.length=0∨vs.length=1:=by omega
   rcases this with z | z<;>rw[z]<;>simp) ⟨?_,λb u e=>old b u (λy=>by rw[y,nD.2.2]at e;cases e) (F'.keep b u e),F'.above⟩ (λp hp=>?_)
  ·obtain⟨ob,es',ep',e1,e2⟩:=F'.ns;exact⟨ob,es',ep',old _ _ (Ne.symm nD.2.1) e1,e2⟩
  ·rw[er]at hp;rcases mX.mp hp with rfl | hp
   ·exact⟨hat,nD.2⟩
   ·have y:=N' p (gN _ hp);exact⟨old _ _ (nO (lt p hp)) y.1,y.2⟩
 ·refine LwR.ts_lsort (vs:=vs) (its:=vs.toArray) F' N' (.head hd) rfl #[0] (by rw[vl];exact z) λe1 h4 F4 N4=>?_;have ty:∀v∈vs,∃n t,v=Value.int n t:=λv hv=>by
   obtain⟨j,hj,rfl⟩:=List.getElem_of_mem hv;obtain⟨n,t,_,g2⟩:=vW ia hj;exact⟨n,t,g2⟩
  refine PySem.W.kas_kind (T:=.type "int") #[0] (λv hv=>?_) #[1] #[1] ?_
  ·obtain⟨n,t,rfl⟩:=ty v hv;exact PySem.W.Looks.of_pure rfl
  ·refine⟨λi j=>decide ((jX ah).getD i 0<(jX ah).getD j 0),λs'=>s' = { s with heap:=h4,toks:=tk },⟨λi j s' C hi hj hs' hC=>?_,O⟩,rfl,λp s' hs' pm pw=>?_⟩
   ·subst hs';have hC:=hC _ rfl;obtain⟨t,e1⟩:=at' i hi;obtain⟨u,e2⟩:=at' j hj;unfold PySem.W.kas_cmp;rw[PySem.W.kas_item_eq,PySem.W.kas_item_eq];dsimp only;rw[e1,e2,keyLt'_oneType];exact oneLt_int hC
   ·subst hs';exact PySem.W.KasFin.intro F4 N4 (.head hd) λh5 c F5 N5=>fin p h5 c tk pm pw F5 N5
end
end Lw
namespace Lw
open PySem PySem.Spec PyProof.Rows L2
section
variable{X:Cx}
def tFrzB(te:TE):TE:=fun σ H Q=>te σ H λv H1=>∃d ah,v=.ref d/\Rd H1 d (.dK ah)/\∀(o:Obj) (H2:Hp),H2 d=some (.frz o (.dK ah))->But d H1 H2->(∀c,H2 c=none->H1 c=none)->Q v H2
theorem CC{e:Expr}{te:TE}(h:PE X e te):PE X e (tFrzB te):=by
 intro ae s σ H Q I hq;refine thn (h ae s σ H _ I hq) λu s1 ⟨v,H1,I1,r,d,ah,ev,rd,q⟩=>?_;rcases rd with e | ⟨o,e⟩
 ·obtain⟨o,I2⟩:=Inv.freezeK I1 e;refine⟨v,_,I2,r,q o _ jE (λc u h n=>by rw[jG n];exact h) λc n=>?_⟩;by_cases z:c=d
  ·rw[z,jE]at n;cases n
  ·rw[jG z]at n;exact n
 ·exact⟨v,H1,I1,r,q o H1 e (λ_ _ h _=>h) λ_ n=>n⟩
end
def Itw(d:Addr)(o:Obj)(ah:List (Key×V)):It:=
 ⟨λi H=>H d=some (.frz o (.dK ah))/\i<ah.length,
  λi H v H'=>H'=H/\∃k,ah[i]? = some (k,v),
  λi H=>H d=some (.frz o (.dK ah))/\i=ah.length⟩
theorem RK{P:Program}{w:World}{K:tL}{tg:Expr}(d it:Addr){o:Obj}{ens:Array DictEntry}{ep:Nat}{ah:List (Key×V)}(ho:o.data=.dict ens ep):Turn P w K tg (Itw d o ah) [it] it (λi h=>h.IsValIter it d i ah.length ep) where
 mem:=by simp
 obj:=λi h st b hb=>by
  have e:b=it:=by simpa using hb
  subst e;obtain⟨o,e,_,dd⟩:=st;exact⟨_,e,λv q=>by rw[dd]at q;cases q⟩
 keep:=λi h h' st k=>st.at λo e=>k it (by simp) o e
 item:=by
  intro X hP hw hK hc i ae s σ H E I hf st hg;subst hP hw hK;obtain⟨hd,hi⟩:=hg;obtain⟨go,ob⟩:=I.hok d _ hd;obtain⟨z,lo,vs,rel,o',es',ep',g',xo,hdat,hk,hp,hn⟩:=(show ObjOk X.prog X.w H s.heap d (.dK ah)from ob);rw[go]at g';cases g';rw[ho]at hdat;cases hdat;have hlen:vs.length=ah.length:=rel.length.symm;have at':s.heap.DictAt (kC X.prog X.w) d vs ep:=⟨o,ens,go,xo,ho,hk,hp,hn⟩;obtain⟨⟨k,x⟩,hkx⟩:∃kx,ah[i]? = some kx:=⟨ah[i],by simp [hi]⟩;obtain⟨u,hu,ru⟩:=XS rel hkx;rw[<-hlen]at st;refine wpAny_pyNext_values_item st at' hu λh' st' sb=>⟨_,rfl, ?_⟩;obtain⟨o9,e9,c9,d9⟩:=id st';refine LB (s:={ s with heap:=h' }) e9 c9 d9 #[1] ?_;rw[hlen]at st';exact⟨x,H,Inv.turnedL (t':=s.toks) I hf λb o hb y=>sb.extBut b o (λz=>hb (by simp [z])) y,ru,⟨rfl,k,hkx⟩,st',λb hb=>(hf b hb).1⟩
 done:=by
  intro X hP hw hK hc i ae s σ H E I hf st hg;subst hP hw hK;obtain⟨hd,hi⟩:=hg;obtain⟨go,ob⟩:=I.hok d _ hd;obtain⟨z,lo,vs,rel,o',es',ep',g',xo,hdat,hk,hp,hn⟩:=(show ObjOk X.prog X.w H s.heap d (.dK ah)from ob);rw[go]at g';cases g';rw[ho]at hdat;cases hdat;have hlen:vs.length=ah.length:=rel.length.symm;have at':s.heap.DictAt (kC X.prog X.w) d vs ep:=⟨o,ens,go,xo,ho,hk,hp,hn⟩;rw[<-hlen]at st;exact wpAny_pyNext_values_end (I.ok.hd hc) st at' (by rw[List.getElem?_eq_none];omega) λg eb=>⟨rfl,Inv.turnedL (t':=s.toks) I hf λb o hb y=>eb b o (λz=>hb (by simp [z])) y⟩
 self:=λ_ _ _ _ _ st h=>wpAny_pyIter_valiter st h
section
variable{X:Cx}
theorem RZ{prog:Program}{w:World}{A:Around}{E:Value->Shared->Prop}{s:Shared}{d:Addr}{vs:List (Key×Value)}{Q:Value->Shared->Prop}(lo:(d==sysModules)=false)(hm:s.heap.DictOf (kC prog w) d vs)(q:Q (.ref s.heap.objs.size) { s with heap:=s.heap.push { cls:=.type "dict_values",data:=.fields #[.ref d] } }) :
  wpAny #[4] A (call (.builtin "dict.values") [.ref d]) Q E s:=
 call_meetsIn PySem.F.slot_dict_values hm.typeIs PySem.F.entry_dict_values (PySem.F.args_dict_values_1 _) (meets_dict_values (kC prog w) d lo) ⟨⟨vs,hm⟩,q⟩
def iVals(te:TE):TI:=fun σ H R=>te σ H λv H1=>∃d o ah,v=.ref d/\H1 d=some (.frz o (.dK ah))/\R (Itw d o ah) H1
theorem pi_vals{tg:Expr}{o:Expr}{to:TE}{apos cpos:Pos}(ho:PE X o to)(hbase:attributeBase o "values" X.env (eval o X.env)=eval o X.env:=by rfl)(hline:(apos.endLine==cpos.line)=true:=by rfl) :
  PI X tg (.Call (.Attribute o "values" apos) [] [] cpos) (iVals to):=by
 intro ae s σ H R I h;refine wpAny_Call_method0_late hbase hline (thn (ho ae s σ H _ I h) λv s1 ⟨x,H1,I1,r1,q1⟩=>?_);obtain⟨d,ob,ah,rfl,hd,q⟩:=q1;cases r1;obtain⟨go,ok⟩:=I1.hok d _ hd;obtain⟨z,lo,vs,rel,dd⟩:=(show ObjOk X.prog X.w H1 s1.heap d (.dK ah)from ok);obtain⟨o',es',ep,g',xo,hdat,hk,hp,hn⟩:=id dd;rw[go]at g';cases g';have hlen:vs.length=ah.length:=rel.length.symm;refine⟨"dict","dict.values",PySem.F.plainAttrs_dict,PySem.F.slot_dict_values,PySem.F.type_dict_values,⟨_,go,xo.1⟩,(λa e=>by cases e;exact⟨_,go,xo.2.1⟩),Calls.callWith_builtin rfl (PySem.evalArgs_none ?_)⟩;refine RZ lo dd ?_;have at1:(s1.heap.push { cls:=.type "dict_values",data:=.fields #[.ref d] }).DictAt (kC X.prog X.w) d vs ep:=⟨ob,es',gH _ go,xo,hdat,hk,hp,hn⟩;refine wpAny_pyIter_values (s:={ s1 with heap:=s1.heap.push { cls:=.type "dict_values",data:=.fields #[.ref d] } }) ⟨_,gT _ rfl,rfl,rfl⟩ at1 ?_;have psz:(s1.heap.push { cls:=.type "dict_values",data:=.fields #[.ref d] }).objs.size=s1.heap.objs.size+1:=mV ..;refine⟨_,[(s1.heap.push { cls:=.type "dict_values",data:=.fields #[.ref d] }).objs.size],_,_,H1,rfl,I1.kept (t':=s1.toks) λb o e=>gH _ (gH _ e),RK d _ hdat,by rw[<-hlen];exact⟨_,gT _ rfl,rfl,rfl⟩,λb hb=>?_,q⟩;have e:b=(s1.heap.push { cls:=.type "dict_values",data:=.fields #[.ref d] }).objs.size:=by simpa using hb
 have hb':s1.heap.objs.size<=b:=by rw[e,psz];exact Nat.le_succ _
 exact I1.fpOk hb' (I1.hok.fresh hb')
end
theorem YJ{d:Addr}{o:Obj}{ah:List (Key×V)}{g:TG}{tb:TS}{D:Ends}{σ:L2.St}{H:Hp}(Pv:Nat->L2.St->Hp->Prop)(h0:Pv 0 σ H)(hl:∀i σ H,i<=ah.length->Pv i σ H->H d=some (.frz o (.dK ah)))
  (hs:∀i k x σ H,ah[i]? = some (k,x)->Pv i σ H->g x σ H fun σ2 H2=>tb { D with nx:=Pv (i+1),ct:=Pv (i+1),bk:=D.nx } σ2 H2) (hd:∀σ H,Pv ah.length σ H->D.nx σ H) :
  ∃W:Nat->Nat->L2.St->Hp->Prop,(∃m,W 0 m σ H)/\∀i m σ H,W i m σ H->
   ((Itw d o ah).stop i H/\D.nx σ H)∨((Itw d o ah).go i H/\∃N:L2.St->Hp->Prop,(∀σ' H',N σ' H'->∃m',m'<m/\W (i+1) m' σ' H')/\∀x H',(Itw d o ah).yld i H x H'->g x σ H' fun σ2 H2=>tb { D with nx:=N,ct:=N,bk:=D.nx } σ2 H2):=by
 refine⟨λi m σ H=>m=ah.length-i/\i<=ah.length/\Pv i σ H,⟨ah.length,by simp,nY _,h0⟩, ?_⟩;rintro i m σ H ⟨rfl,hi,p⟩;have q:=hl i σ H hi p;by_cases hlt:i<ah.length
 ·refine .inr ⟨⟨q,hlt⟩,Pv (i+1),fun σ' H' p'=>⟨ah.length-(i+1),by omega,rfl,hlt,p'⟩,λv H' y=>?_⟩;obtain⟨rfl,k,hx⟩:=y;exact hs i k v σ H' hx p
 ·have ei:i=ah.length:=by omega
  subst ei;exact .inl ⟨⟨q,rfl⟩,hd σ H p⟩
def tDSetD(td ty tx:TE):TE:=fun σ H Q=>td σ H λx H1=>∃a,x=.ref a/\IsD H1 a/\ty σ H1 λy H2=>tx σ H2 λz H3=>∃ah k,H3 a=some (.dK ah)/\y=kV k/\ah.length<sizeLine/\(∀v,qR ah k=some v->Q v H3)/\(qR ah k=none->Q z (upd H3 a (.dK (qU ah k z))))
section
variable{X:Cx}{o e f:Expr}{td ty tx:TE}{apos cpos:Pos}
theorem YX{ae:List (Addr×Obj)}{σ:L2.St}{H:Hp}{s:Shared}{a:Addr}{ah:List (Key×V)}{k:Key}{z:V}{u r:Value}{A:Around}{E:Value->Shared->Prop}{Q:Value->Shared->Prop}(I:Inv X ae σ H s)(ea:H a=some (.dK ah))(l:ah.length<sizeLine)(ry:RelV (kV k) u)(rz:RelV z r)
  (h1:∀v w' s',qR ah k=some v->Inv X ae σ H s'->RelV v w'->Q w' s') (h2:qR ah k=none->∀s',Inv X ae σ (upd H a (.dK (qU ah k z))) s'->Q r s'):wpAny #[2] A (call (.builtin "dict.setdefault") [.ref a,u,r]) Q E s:=by
 obtain⟨zl,hd,vs,rel,dd⟩:=YR I.hok ea;have hz:vs.length<=sizeLine:=by rw[<-rel.length];exact zl
 have hl:(qU ah k z).length<=sizeLine:=by have:=yC ah k z;omega
 have rv:=rel.val k;refine call_meetsIn PySem.F.slot_dict_setdefault dd.typeIs PySem.F.entry_dict_setdefault (PySem.F.args_dict_setdefault_3 _ _ _) (kt_meets_setdefault (kC X.prog X.w) a (ER ry) hd r) ⟨vs,dd,hz,λv hv=>?_,λhn h' dd' hs=>?_⟩
 ·cases q:qR ah k with
  | none=>rw[q,hv]at rv;exact absurd rv (λz=>by cases z)
  | some v'=>
   rw[q,hv]at rv;exact h1 v' v _ q (I.tok _) rv
 ·cases q:qR ah k with
  | some v'=>rw[q,hn]at rv;exact absurd rv (λz=>by cases z)
  | none=>
   have he:∃q,h'.get? a=some q:=let ⟨q,_,_,hq,_⟩:=dd';⟨q,hq⟩;exact h2 q _ (AL I (by rw[ea];exact True.intro) hs he (JA hl hd (rel.put k rz) dd'))
theorem VX(ho:PE X o td)(he:PE X e ty)(hf:PE X f tx)(m:M2 X o "setdefault" apos e f cpos):PE X (.Call (.Attribute o "setdefault" apos) [e,f] [] cpos) (tDSetD td ty tx):=by
 intro ae s σ H Q I h;refine wpAny_Call_method m.base m.few m.line PySem.F.plainAttrs_dict PySem.F.slot_dict_setdefault PySem.F.type_dict_setdefault (thn (ho ae s σ H _ I h) λu s1 ⟨x,H1,I1,rx,a,ex,d,q1⟩=>?_);subst ex;obtain rfl:u=Value.ref a:=rx;obtain⟨t1,t2,_⟩:=NB I1 d;refine⟨t1,t2, ?_⟩;rw[m.trees];refine Calls.callWith_builtin rfl (Calls.evalArgs_plain (Calls.spliced_cons (thn (he ae s1 σ H1 _ I1 q1) λiv s2 ⟨y,H2,I2,ry,q2⟩=>
  Calls.spliced_cons (thn (hf ae s2 σ H2 _ I2 q2) λfv s3 ⟨z,H3,I3,rz,ah,k,ea,ey,lz,q3,q4⟩=>Calls.spliced_nil ?_))))
 subst ey;exact YX I3 ea lz ry rz (λv w' s4 l I4 rw'=>⟨v,_,I4,rw',q3 v l⟩) λn s4 I4=>⟨z,_,I4,rz,q4 n⟩
end
open LwD
section
variable{X:Cx}
variable{p pos kpos:Pos}{e e2:Expr}{es:List Expr}{t tk:TA}
end
end Lw
namespace L2
open PySem PySem.Spec PyProof.Rows
section
variable{prog:Program}{w:World}{A:Around}{E:Value->Shared->Prop}{s:Shared}
end
section
variable{X:Cx}{tg:Expr}
end
open Lw
section
variable{X:Cx}{pos:Pos}
theorem wY:∀{xs:List V} {us:List Value},Vals xs us->Vals xs.reverse us.reverse
 | _,_,.nil=>.nil
 | _,_,.cons h t=>by rw[List.reverse_cons,List.reverse_cons];exact(wY t).append (.cons h .nil)
def tBackL(K:tL)(te:TE)(ts:TO):TE:=fun σ H Q=>te σ H λx H1=>ts σ H1 λo H2=>o=some (-1)/\∃a xs,x=.ref a/\SqL K H2 a xs/\New H2 (.lst xs.reverse) Q
theorem WC{e st:Expr}{te:TE}{ts:TO}{p2:Pos}(he:PE X e te)(hs:PO X (some st) ts):PE X (.Subscript e (.Slice none none (some st) p2) pos) (tBackL X.K te ts):=by
 intro ae s σ H Q I h;refine Subscript_ (thn (he ae s σ H _ I h) λv s1 ⟨x,H1,I1,r1,q1⟩=>?_);refine wpAny_Slice ?_;rw[evalPart_none];refine tG (tG (thn (hs ae s1 σ H1 _ I1 q1) λvs s2 ⟨o,H2,I2,po,eo,a,xs,ex,hx,q⟩=>?_));subst eo ex;cases r1;cases po with
 | int i u=>
 have I3:Inv X ae σ H2 { s2 with heap:=s2.heap.push { cls:=.type "slice",data:=.fields #[.none,.none,.int (-1) u] } } :=I2.kept (t':=s2.toks) λb ob q=>gH _ q;obtain⟨its,r,ht,hz⟩:=I3.list hx;have hl:its.toArray.size=xs.length:=by rw[hV];exact r.length.symm
 show wpAny #[2] X.A (subscriptTail e (.Slice none none (some st) p2) (.ref a) (.ref s2.heap.objs.size)) (EP X ae σ Q) X.xe { s2 with heap:=s2.heap.push { cls:=.type "slice",data:=.fields #[.none,.none,.int (-1) u] } };refine tail_any (ops:=[.ref a,.ref s2.heap.objs.size]) ht.isList.typeIs slot_list_getitem.lookup ?_ (by with_unfolding_all rfl);refine wpAny_getItem_list_slice ht.isList (Heap.IsSliceOf.new ..) .none .none (.int (-1) u) #[1] ?_ (by rw[hl];exact hz);rw[PySem.W.krv_pick];have n:=I3.hok.fresh (nX (s2.heap.push { cls:=.type "slice",data:=.fields #[.none,.none,.int (-1) u] }).objs.size);refine⟨.ref _,_,I3.laid (t':=s2.toks) (o:=.lst xs.reverse) (λb ob q=>gH _ q) uU ?_,rfl,q _ _ n (Lw.jY _ n) jE⟩;exact⟨by rw[List.length_reverse];exact hz,_,0,wY r,gT _ rfl⟩
end
section
variable{prog:Program}{w:World}{A:Around}{E:Value->Shared->Prop}{s:Shared}
end
section
variable{X:Cx}{pos:Pos}
end
structure ZL(z TI TO i1 i2 l1 l2:Addr)(k:Nat)(h:Heap):Prop where
 zz:IsZip h z TI TO .none
 ti:IsPair h TI (.ref i1) (.ref i2)
 to:∃a b,IsPair h TO a b
 one:h.IsListIter i1 l1 k
 two:h.IsListIter i2 l2 k
section
variable{X:Cx}
end
end L2
namespace L2
open PySem PySem.Spec PyProof.Rows
section
variable{prog:Program}{w:World}{A:Around}{E:Value->Shared->Prop}{s:Shared}
end
section
variable{X:Cx}{tg:Expr}
end
end L2
namespace Lw
open PySem PySem.Spec PyProof.Rows L2
section
variable{X:Cx}
end
section
variable{prog:Program}{w:World}{A:Around}{E:Value->Shared->Prop}{s:Shared}
end
section
variable{X:Cx}
end
section
variable{prog:Program}{w:World}{A:Around}{R:Result->Shared->Prop}{s:Shared}
theorem wZ{kx vx target iter:Expr}{scope:Scope}{pos:Pos}{it:Value}{D:Addr}{env:Env}(I:Nat->Shared->Prop)
  (turn:∀n s,I n s->wpAny #[4] A (pyNext it) (λr s₁=>match r with
   | none=>R (.ok .next) s₁
   | some v=>wpAny #[4] A (letOwnedTupleGo target it v) (λ_ s₁'=>wpAny #[4] A (assign target env v) (λ_ s₂=>wpAny #[4] A (eval kx env) (λx s₃=>wpAny #[4] A (eval vx env) (λy s₃'=>
     wpAny #[4] A (dictSet D x y) (λ_ s₄=>∃m,m<n/\I m s₄) (notedBy #[4] A env λe s'=>R (.error e) s') s₃') (notedBy #[4] A env λe s'=>R (.error e) s') s₃)
     (notedBy #[4] A env λe s'=>R (.error e) s') s₂) (notedBy #[4] A env λe s'=>R (.error e) s') s₁') (notedBy #[4] A env λe s'=>R (.error e) s') s₁) (notedBy #[4] A env λe s'=>R (.error e) s') s)
  (n:Nat) (h:I n s) :
  codeAny #[4] A (.compLoop (.DictComp kx vx [⟨target,iter,[],0⟩] scope pos) 0 it (.ref D) env) R s:=by
 refine codeAny_loop rfl I (λn s hI=>?_) n h;show wpAny _ _ ((compTurn (.DictComp kx vx [⟨target,iter,[],0⟩] scope pos) 0 it (.ref D) env).onRaise (λx=>do noteFrame x env;theTreesLotGoes x)) _ _ s;refine wpAny_noted ?_;rw[compTurn_dict];refine tF (wpAny_standAt (tF (tH (turn n s hI) (λr s₁ h₁=>?_) λ_ _ h'=>h')));cases r with
 | none=>exact tG h₁
 | some v=>
  refine tF (tH h₁ (λ_ s₁' h₁'=>?_) λ_ _ h'=>h');refine tF (tH h₁' (λ_ s₂ h₂=>?_) λ_ _ h'=>h');refine tF ?_;rw[List.forIn_nil];refine tG ?_;dsimp only;rw[tK rfl];refine tF (tF (tH h₂ (λx s₃ h₃=>tF (wpAny_holding (tH h₃ (λy s₃' h₃'=>tF (wpAny_standAt (wpAny_holding (tH h₃' (λ_ s₄ h₄=>tG ⟨rfl,h₄⟩) λ_ _ h'=>h')))) λ_ _ h'=>h'))) λ_ _ h'=>h'))
end
section
variable{X:Cx}
abbrev BD(X:Cx)(target kx vx:Expr)(env:Env)(a:Addr)(R:Result->Shared->Prop)(v:Value)(K:Shared->Prop)(s:Shared):Prop:=
 wpAny #[2] X.A (assign target env v) (λ_ s₂=>wpAny #[2] X.A (eval kx env) (λx s₃=>wpAny #[2] X.A (eval vx env) (λy s₃'=>
  wpAny #[2] X.A (dictSet a x y) (λ_ s₄=>K s₄) (notedBy #[2] X.A env λe s'=>R (.error e) s') s₃') (notedBy #[2] X.A env λe s'=>R (.error e) s') s₃) (notedBy #[2] X.A env λe s'=>R (.error e) s') s₂) (notedBy #[2] X.A env λe s'=>R (.error e) s') s
end
def DCompGoK(σ0:L2.St)(J:It)(g:TG)(tk tv:TE)(Q:VK)(p:Addr)(H':Hp):Prop:=
 ∃W:Nat->Nat->List (Key×V)->Hp->Prop,(∃m,W 0 m [] H')/\∀i m ys H2,W i m ys H2->H2 p=some (.dK ys)/\ys.length<sizeLine/\
  ((J.stop i H2/\Q (.ref p) H2)∨(J.go i H2/\∀x H3,J.yld i H2 x H3->g x σ0 H3 fun σ4 H4=>Keep σ0 σ4/\tk σ4 H4 λy H5=>tv σ4 H5 λv H6=>∃(k:Key),y=kV k/\H6 p=some (.dK ys)/\∃m',m'<m/\W (i+1) m' (qU ys k v) (upd H6 p (.dK (qU ys k v)))))
def NY(own:Nat)(idx:List Nat)(wi:TI)(g:TG)(tk tv:TE):TE:=fun σ H Q=>wi σ H λJ H1=>∀p H',H1 p=none->Same H1 H'->H' p=some (.dK [])->
 DCompGoK (List.replicate own none++idx.map λj=>(σ[j]?).getD none) J g tk tv Q p H'
section
variable{X:Cx}
theorem d_setK{ae:List (Addr×Obj)}{σ:L2.St}{H:Hp}{s:Shared}{a:Addr}{v:V}{u r:Value}{A:Around}{E:Value->Shared->Prop}{ah:List (Key×V)}{k:Key}{Q:Unit->Shared->Prop}(I:Inv X ae σ H s)(e:H a=some (.dK ah))(l:ah.length<sizeLine)(ry:RelV (kV k) u)(rv:RelV v r)
  (h:∀s',Inv X ae σ (upd H a (.dK (qU ah k v))) s'->Q () s'):wpAny #[2] A (dictSet a u r) Q E s:=by
 obtain⟨z,hd,vs,rel,dd⟩:=YR I.hok e;have hz:vs.length<=sizeLine:=by rw[<-rel.length];exact z
 have hl:(qU ah k v).length<=sizeLine:=by have:=yC ah k v;omega
 refine wpAny_dictSet_pairs (hsz:=hz) (ER ry) dd λh' dd' hs=>h _ ?_;have he:∃q,h'.get? a=some q:=let ⟨q,_,_,hq,_⟩:=dd';⟨q,hq⟩;exact AL I (by rw[e];exact True.intro) hs he (JA hl hd (rel.put k rv) dd')
theorem WU{ae:List (Addr×Obj)}{σ:L2.St}(s2:Shared)(H1:Hp)(h:Heap)(I2:Inv X ae σ H1 s2)(hD:h.get? s2.heap.objs.size=some { cls:=.type "dict",dict:=none,data:=.dict #[] 0 }):ObjOk X.prog X.w (upd H1 s2.heap.objs.size (.dK [])) h s2.heap.objs.size (.dK []):=
 ⟨nY _,beq_eq_false_iff_ne.mpr (Ne.symm (nO I2.big)),[],.nil,_,#[],0,hD,⟨rfl,rfl,rfl⟩,rfl,(λ_ he=>by simp at he),Pairs.nil,mU⟩
theorem cgoK{target kx vx:Expr}{g:TG}{tk tv:TE}{N:List Str}{scope:Scope}{cl:List (Str×Addr)}(hg:∀C fp s2 H2,PG (jN X N scope cl C fp s2 H2) target g)(hkx:∀C fp s2 H2,PE (jN X N scope cl C fp s2 H2) kx tk)(hvx:∀C fp s2 H2,PE (jN X N scope cl C fp s2 H2) vx tv){σ0:L2.St}{Q:VK}(C:Addr)(fp:List Addr)(s2:Shared)(H2:Hp)(J:It)(p:Addr)(H':Hp)(R:Result->Shared->Prop)
  (h:DCompGoK σ0 J g tk tv Q p H'):CGo (jN X N scope cl C fp s2 H2) σ0 J (BD X target kx vx (compEnvC scope cl C X.env) p R) (λH=>Q (.ref p) H) H':=by
 obtain⟨W,⟨m0,w0⟩,turn⟩:=h;refine⟨λi m H=>∃ys,W i m ys H,⟨m0,[],w0⟩, ?_⟩;rintro i m H3 ⟨ys,w⟩;obtain⟨hp3,hz3,hw⟩:=turn i m ys H3 w;refine hw.imp id λ⟨go,step⟩=>⟨go,λx H5 y5 pns u s5 K I5 r5 hK=>?_⟩;refine tH (hg _ _ _ _ _ s5 _ H5 x u _ I5 r5 (step x H5 y5)) (λ_ s6 ⟨σ6,H6,I6,kp6,q6⟩=>?_) λ_ _ z=>z.elim;refine tH (hkx _ _ _ _ _ s6 σ6 H6 _ I6 q6) (λy s7 ⟨yv,H7,I7,r7,q7⟩=>?_) λ_ _ z=>z.elim;refine tH (hvx _ _ _ _ _ s7 σ6 H7 _ I7 q7) (λv' s7' ⟨vv,H7',I7',r7',q7'⟩=>?_) λ_ _ z=>z.elim;obtain⟨k',ey,e7,m',hm',w7⟩:=q7';subst ey;exact d_setK (X:=jN X N scope cl C fp s2 H2) (A:=X.A) I7' e7 hz3 r7 r7' λs8 I8=>hK _ _ _ m' I8 kp6 hm' ⟨_,w7⟩
theorem AV{own:Nat}{idx:List Nat}{N:List Str}{kx vx target iter:Expr}{scope:Scope}{cl:List (Str×Addr)}{pos:Pos}{wi:TI}{g:TG}{tk tv:TE}(hc:X.calm=true)
  (hk:scope.kind=.function) (hclos:closureFor scope X.env=pure cl) (hcell:∀x∈scope.names,x.2≠.cell) (hnames:∀x∈scope.names,x.2=.local->scope.names.lookup x.1=some .local)
  (hsub:∀x c,cl.lookup x=some c->X.env.cells.lookup x=some c) (hhas:∀x,((relabel scope X.env).names.lookup x=some .cell∨(relabel scope X.env).names.lookup x=some .free)->∃c,cl.lookup x=some c)
  (hlen:N.length=own+idx.length)
  (hidx:∀(k j:Nat) (x:Str),idx[k]? = some j->N[own+k]? = some x->X.N[j]? = some x/\X.env.kindOf x=some .cell/\(relabel scope X.env).names.lookup x=some .cell/\X.env.scope.names.lookup x=some .cell)
  (hi:PI X target iter wi) (hg:∀C fp s2 H2,PG (jN X N scope cl C fp s2 H2) target g) (hkx:∀C fp s2 H2,PE (jN X N scope cl C fp s2 H2) kx tk) (hvx:∀C fp s2 H2,PE (jN X N scope cl C fp s2 H2) vx tv)
  (hs:∀x,foldedSetIterable iter X.env x=pure x:=by intro _;rfl):PE X (.DictComp kx vx [⟨target,iter,[],0⟩] scope pos) (NY own idx wi g tk tv):=by
 intro ae s σ H Q I h;rw[arm_eval_DictComp];exact wX ⟨hk,hclos,hcell,hnames,hsub,hhas,hlen,hidx⟩ hc I hi h rfl hs (data:=.dict #[] 0) (nY _) rfl WU (B:=BD X target kx vx) (λV=>wZ V) codeAny_compStart_dict (cgoK hg hkx hvx) XO
end
section
variable{X:Cx}
end
section
variable{X:Cx}
theorem dlen{A:Around}{E:Value->Shared->Prop}{s:Shared}{d:Addr}{es:Array DictEntry}{ep:Nat}{prog:Program}{w:World}{Q:Value->Shared->Prop}(lo:(d==sysModules)=false)(r:LwD.Raw s.heap d es ep)
  (q:Q (.int es.size s.toks) { s with toks:=s.toks+1 }):wpAny #[4] A (call (.builtin "dict.__len__") [.ref d]) Q E s:=by
 obtain⟨o,ho,hc,hdat⟩:=id r;refine wpAny_call_entry PySem.F.slot_dict_len r.ty PySem.F.entry_dict_len ?_ (PySem.F.args_dict_len_1 _);unfold Builtin.«dict.__len__» Builtin.Dict.dictSlotNone Builtin.Dict.pendingCount dictSize;refine tF (tF (wpAny_notOrdered_dict r.ty (show wpAny _ _ (pure (Value.ref d)) _ _ s from tG ?_)));refine tF (show wpAny _ _ (pure d) _ _ s from tG ?_);refine tF (tF (wpAny_dictEntries ho hdat (tG ?_)));rw[tJ (by rw[lo];exact gW)];refine tF (tG ?_);refine tF (wpAny_mkInt (tG ⟨_,rfl, ?_⟩));simpa using q
def rLenT:List V->Hp->VK->Prop:=λxs H Q=>∃a ah,xs=[V.ref a]/\Rd H a (.dT ah)/\Q (.int ah.length) H
theorem UA:CallR X (.builtin "len") rLenT:=by
 intro ae s σ H xs us Q I r h;obtain⟨a,ah,rfl,ha,q⟩:=h;obtain⟨u,rfl,ru⟩:=xU r;cases ru;obtain⟨z,lo,ks,rel,dd⟩:=AK I.hok ha;obtain⟨o,es,ep,hd1,hd2,hd3,he,his,hn⟩:=id dd;have raw:LwD.Raw s.heap a es ep:=⟨o,hd1,hd2,hd3⟩;have l1:es.size=ah.length:=(size_of_entries he).trans (Paired.length rel).symm;rw[sizeLine_eq]at z;refine PyProof.Rows.call_len_slot (n:=es.size) raw.ty PySem.F.slot_dict_len (λQ' h=>dlen lo raw h) #[0] #[0] ⟨.int es.size,H,I.tok _,⟨_,rfl⟩, ?_⟩;rw[l1];exact q
end
section
variable{prog:Program}{w:World}{A:Around}{R:Result->Shared->Prop}{s:Shared}
end
def CompGoFI(σ0:L2.St)(J:It)(g:TG)(tt:TT)(te:TE)(Q:VK)(p:Addr)(H':Hp):Prop:=
 ∃W:Nat->Nat->List V->Hp->Prop,(∃m,W 0 m [] H')/\∀i m ys H2,W i m ys H2->H2 p=some (.lst ys)/\ys.length<sizeLine/\
  ((J.stop i H2/\Q (.ref p) H2)∨(J.go i H2/\∀x H3,J.yld i H2 x H3->g x σ0 H3 fun σ4 H4=>Keep σ0 σ4/\tt σ4 H4 λb H5=>if b=true then te σ4 H5 λy H6=>H6 p=some (.lst ys)/\∃m',m'<m/\W (i+1) m' (ys++[y]) (upd H6 p (.lst (ys++[y])))else ∃m',m'<m/\W (i+1) m' ys H5))
def ZT(own:Nat)(idx:List Nat)(wi:TI)(g:TG)(tt:TT)(te:TE):TE:=fun σ H Q=>wi σ H λJ H1=>∀p H',H1 p=none->Same H1 H'->H' p=some (.lst [])->
 CompGoFI (List.replicate own none++idx.map λj=>(σ[j]?).getD none) J g tt te Q p H'
section
variable{X:Cx}
abbrev BI(X:Cx)(target c elt:Expr)(env:Env)(a:Addr)(R:Result->Shared->Prop)(v:Value)(K:Shared->Prop)(s:Shared):Prop:=
 wpAny #[2] X.A (assign target env v) (λ_ s₂=>wpAny #[2] X.A (isTrue c env (eval c env)) (λb s₂'=>if b=true then wpAny #[2] X.A (eval elt env) (λx s₃=>
  wpAny #[2] X.A (call (.builtin "list.append") [.ref a,x]) (λ_ s₄=>K s₄) (notedBy #[2] X.A env λe s'=>R (.error e) s') s₃) (notedBy #[2] X.A env λe s'=>R (.error e) s') s₂' else K s₂') (notedBy #[2] X.A env λe s'=>R (.error e) s') s₂) (notedBy #[2] X.A env λe s'=>R (.error e) s') s
theorem cgoFI{target c elt:Expr}{g:TG}{tt:TT}{te:TE}{N:List Str}{scope:Scope}{cl:List (Str×Addr)}(hg:∀C fp s2 H2,PG (jN X N scope cl C fp s2 H2) target g)(ht:∀C fp s2 H2,PT (jN X N scope cl C fp s2 H2) c tt)(he:∀C fp s2 H2,PE (jN X N scope cl C fp s2 H2) elt te){σ0:L2.St}{Q:VK}(C:Addr)(fp:List Addr)(s2:Shared)(H2:Hp)(J:It)(p:Addr)(H':Hp)(R:Result->Shared->Prop)
  (h:CompGoFI σ0 J g tt te Q p H'):CGo (jN X N scope cl C fp s2 H2) σ0 J (BI X target c elt (compEnvC scope cl C X.env) p R) (λH=>Q (.ref p) H) H':=by
 obtain⟨W,⟨m0,w0⟩,turn⟩:=h;refine⟨λi m H=>∃ys,W i m ys H,⟨m0,[],w0⟩, ?_⟩;rintro i m H3 ⟨ys,w⟩;obtain⟨hp3,hz3,hw⟩:=turn i m ys H3 w;refine hw.imp id λ⟨go,step⟩=>⟨go,λx H5 y5 pns u s5 K I5 r5 hK=>?_⟩;refine tH (hg _ _ _ _ _ s5 _ H5 x u _ I5 r5 (step x H5 y5)) (λ_ s6 ⟨σ6,H6,I6,kp6,q6⟩=>?_) λ_ _ z=>z.elim;refine tH (ht _ _ _ _ _ s6 σ6 H6 _ I6 q6) (λb s6' ⟨H6',I6',q6'⟩=>?_) λ_ _ z=>z.elim;cases b with
 | false=>
  rw[tJ gW]at q6' ⊢;obtain⟨m',hm',w7⟩:=q6';exact hK _ _ _ m' I6' kp6 hm' ⟨_,w7⟩
 | true=>
  rw[tK rfl]at q6' ⊢;refine tH (he _ _ _ _ _ s6' σ6 H6' _ I6' q6') (λy s7 ⟨yv,H7,I7,r7,e7,m',hm',w7⟩=>?_) λ_ _ z=>z.elim;refine tH (yS (X:=jN X N scope cl C fp s2 H2) _ s7 σ6 H7 (.ref p) [yv] (.ref p) [y] (λ_ H8=>H8=upd H7 p (.lst (ys++[yv]))) I7 rfl (.cons r7 .nil) ⟨_,ys,yv,rfl,rfl,e7,hz3,rfl⟩) (λ_ s8 ⟨_,H8,I8,_,q8⟩=>?_) λ_ _ z=>z.elim;subst q8;exact hK _ _ _ m' I8 kp6 hm' ⟨_,w7⟩
end
end Lw
namespace LwD
open PySem PySem.Spec PyProof.Rows L2
section
variable{prog:Program}{w:World}{A:Around}{E:Value->Shared->Prop}{s:Shared}{d it vw:Addr}{es:Array DictEntry}{ep i:Nat}
end
section
variable{X:Cx}
end
end LwD
namespace Lw
open PySem PySem.Spec PyProof.Rows L2
section
variable{X:Cx}
theorem BE{i:Nat}{y:Str}{py spos:Pos}(hN:X.N.Nodup)(hi:X.N[i]? = some y)(hx:Loc X.env.scope y){own:Nat}{idx:List Nat}{N:List Str}{elt target iter c:Expr}{scope:Scope}{cl:List (Str×Addr)}{pos:Pos}{wi:TI}{g:TG}{tt:TT}{te:TE}(hc:X.calm=true)
  (hk:scope.kind=.function) (hclos:closureFor scope X.env=pure cl) (hcell:∀x∈scope.names,x.2≠.cell) (hnames:∀x∈scope.names,x.2=.local->scope.names.lookup x.1=some .local)
  (hsub:∀x c,cl.lookup x=some c->X.env.cells.lookup x=some c) (hhas:∀x,((relabel scope X.env).names.lookup x=some .cell∨(relabel scope X.env).names.lookup x=some .free)->∃c,cl.lookup x=some c)
  (hlen:N.length=own+idx.length)
  (hidx:∀(k j:Nat) (x:Str),idx[k]? = some j->N[own+k]? = some x->X.N[j]? = some x/\X.env.kindOf x=some .cell/\(relabel scope X.env).names.lookup x=some .cell/\X.env.scope.names.lookup x=some .cell)
  (hit:PI X target iter wi) (hg:∀C fp s2 H2,PG (jN X N scope cl C fp s2 H2) target g) (ht:∀C fp s2 H2,PT (jN X N scope cl C fp s2 H2) c tt) (he:∀C fp s2 H2,PE (jN X N scope cl C fp s2 H2) elt te)
  (hsw:swapsWith (.ListComp elt [⟨target,iter,[c],0⟩] scope pos) (some (.Name y py)) spos.line X.env=pure true:=by rfl)
  (hs:∀x,foldedSetIterable iter X.env x=pure x:=by intro _;rfl) (hfn:X.fn y=true∨X.env.scope.names.lookup y=some .local:=by first | exact .inl rfl | exact .inr rfl | assumption):PS X (.Assign [.Name y py] (.ListComp elt [⟨target,iter,[c],0⟩] scope pos) spos) (yK (ZT own idx wi g tt te) (jT i)):=by
 intro ae s σ H D I h;rw[exec_Assign_Name_used _ _ _ _ hsw];refine tF (wpAny_standAt (tF ?_));show wpAny _ X.A (do let _<-comprehension (.ListComp elt [⟨target,iter,[c],0⟩] scope pos) scope X.env _ (newList []) false (eval iter X.env) (some (assign (.Name y py) X.env))) _ _ s;exact tF (tH (wX ⟨hk,hclos,hcell,hnames,hsub,hhas,hlen,hidx⟩ hc I hit h rfl hs (data:=.seq ([]:List Value).toArray) (nY _) rfl OY (B:=BI X target c elt) (λV=>LL V) codeAny_compStart_list (cgoFI hg ht he) (XN hN hi hx hfn)) (λ_ s' hq=>tG (tG hq)) λ_ _ e=>e)
end
section
variable{X:Cx}{CX:CXT}{k:Nat}{f:Addr}{fd:FuncData}{ps ks:List Str}{sp:Sp}{E:XK}{x:Str}{p pos:Pos}{kws:List Keyword}{tk:TA}{g:List Value->List Value->List Value}{gV:List V->List V->List V}
end
mutual
inductive DecK(K:tL)(H:Hp):V->PyData->Prop where
 | bl (b:Bool):DecK K H (.bl b) (.bool b)
 | int (i:Int):DecK K H (.int i) (.int i)
 | tup {a:Addr} {xs:List V} {ds:List PyData} (e:SqT K H a xs) (h:DecKs K H xs ds):DecK K H (.ref a) (.tuple ds)
inductive DecKs(K:tL)(H:Hp):List V->List PyData->Prop where
 | nil:DecKs K H [] []
 | cons {x:V} {d:PyData} {xs:List V} {ds:List PyData} (h:DecK K H x d) (t:DecKs K H xs ds):DecKs K H (x::xs) (d::ds)
end
section
variable{X:Cx}
mutual
theorem DecK.reads{ae:List (Addr×Obj)}{σ:L2.St}{H:Hp}{s:Shared}(I:Inv X ae σ H s):∀{x:V} {d:PyData} {u:Value},DecK X.K H x d->RelV x u->∃as,Reads s.heap u d as
 | _,_,_,.bl b,r=>by cases r;exact⟨_,.bool b⟩
 | _,_,_,.int i,r=>by obtain⟨t,rfl⟩:=r;exact⟨_,.int i t⟩
 | _,_,_,.tup e h,r=>by
  cases r;obtain⟨its,rv,⟨o,ho,hc,n,hd⟩,_⟩:=I.tuple e;obtain⟨as,ra⟩:=DecKs.reads I h rv;exact⟨_,.tuple ho hc hd (by simpa using ra)⟩
theorem DecKs.reads{ae:List (Addr×Obj)}{σ:L2.St}{H:Hp}{s:Shared}(I:Inv X ae σ H s):∀{xs:List V} {ds:List PyData} {us:List Value},DecKs X.K H xs ds->Vals xs us->∃as,ReadsAll s.heap us ds as
 | _,_,_,.nil,r=>by cases r;exact⟨_,.nil⟩
 | _,_,_,.cons h t,r=>by
  cases r with
  | cons q r=>
   obtain⟨as,ra⟩:=DecK.reads I h q;obtain⟨bs,rb⟩:=DecKs.reads I t r;exact⟨_,.cons ra rb⟩
end
end
section
variable{X:Cx}
theorem IH{i:Nat}{y:Str}{py spos:Pos}(hN:X.N.Nodup)(hi:X.N[i]? = some y)(hx:Loc X.env.scope y){own:Nat}{idx:List Nat}{N:List Str}{kx vx target iter:Expr}{scope:Scope}{cl:List (Str×Addr)}{pos:Pos}{wi:TI}{g:TG}{tk tv:TE}(hc:X.calm=true)
  (hk:scope.kind=.function) (hclos:closureFor scope X.env=pure cl) (hcell:∀x∈scope.names,x.2≠.cell) (hnames:∀x∈scope.names,x.2=.local->scope.names.lookup x.1=some .local)
  (hsub:∀x c,cl.lookup x=some c->X.env.cells.lookup x=some c) (hhas:∀x,((relabel scope X.env).names.lookup x=some .cell∨(relabel scope X.env).names.lookup x=some .free)->∃c,cl.lookup x=some c)
  (hlen:N.length=own+idx.length)
  (hidx:∀(k j:Nat) (x:Str),idx[k]? = some j->N[own+k]? = some x->X.N[j]? = some x/\X.env.kindOf x=some .cell/\(relabel scope X.env).names.lookup x=some .cell/\X.env.scope.names.lookup x=some .cell)
  (hit:PI X target iter wi) (hg:∀C fp s2 H2,PG (jN X N scope cl C fp s2 H2) target g) (hkx:∀C fp s2 H2,PE (jN X N scope cl C fp s2 H2) kx tk) (hvx:∀C fp s2 H2,PE (jN X N scope cl C fp s2 H2) vx tv)
  (hsw:swapsWith (.DictComp kx vx [⟨target,iter,[],0⟩] scope pos) (some (.Name y py)) spos.line X.env=pure true:=by rfl)
  (hs:∀x,foldedSetIterable iter X.env x=pure x:=by intro _;rfl) (hfn:X.fn y=true∨X.env.scope.names.lookup y=some .local:=by first | exact .inl rfl | exact .inr rfl | assumption):PS X (.Assign [.Name y py] (.DictComp kx vx [⟨target,iter,[],0⟩] scope pos) spos) (yK (NY own idx wi g tk tv) (jT i)):=by
 intro ae s σ H D I h;rw[exec_Assign_Name_used _ _ _ _ hsw];refine tF (wpAny_standAt (tF ?_));show wpAny _ X.A (do let _<-comprehension (.DictComp kx vx [⟨target,iter,[],0⟩] scope pos) scope X.env _ newDict false (eval iter X.env) (some (assign (.Name y py) X.env))) _ _ s;exact tF (tH (wX ⟨hk,hclos,hcell,hnames,hsub,hhas,hlen,hidx⟩ hc I hit h rfl hs (data:=.dict #[] 0) (nY _) rfl WU (B:=BD X target kx vx) (λV=>wZ V) codeAny_compStart_dict (cgoK hg hkx hvx) (XN hN hi hx hfn)) (λ_ s' hq=>tG (tG hq)) λ_ _ e=>e)
end
theorem rvT{K:tL}{H:Hp}{p:Addr}{xs:List V}{i:Int}{v:V}{Q:VK}{σ:L2.St}{a:Nat}(e1:σ[a]? = some (some (.ref p)))(h:SqT K H p xs)(e:atI xs i=some v)(q:Q v H):tOp (rIxT K) (kH a) (tC (.int i)) σ H Q:=⟨_,e1,p,xs,i,v,rfl,rfl,h,e,q⟩
theorem rvL{K:tL}{H:Hp}{p:Addr}{xs:List V}{i:Int}{v:V}{Q:VK}{σ:L2.St}{a:Nat}(e1:σ[a]? = some (some (.ref p)))(h:SqL K H p xs)(e:atI xs i=some v)(q:Q v H):tOp (ML K) (kH a) (tC (.int i)) σ H Q:=⟨_,e1,p,xs,i,v,rfl,rfl,h,e,q⟩
theorem gT2{K:tL}{H:Hp}{a:Addr}{x y:V}{i j n:Nat}{σ:L2.St}{Q:L2.St->Hp->Prop}(h:SqT K H a [x,y])(hn:2=n)(q:Q ((σ.set i (some x)).set j (some y)) H):FI K n (vX (jT i) (vX (jT j) gNil)) (.ref a) σ H Q:=⟨a,_,rfl,h,hn,_,_,rfl,_,_,rfl,rfl,q⟩
theorem oVV{C:Int->Int->Prop}{g:Int->Int->V}{σ:L2.St}{a b:Nat}{x y:Int}{H:Hp}{Q:VK}(e1:σ[a]? = some (some (.int x)))(e2:σ[b]? = some (some (.int y)))(c:C x y)(q:Q (g x y) H):tOp (rI C g) (kH a) (kH b) σ H Q:=⟨_,e1,_,e2,_,_,rfl,rfl,c,q⟩
theorem YG{p:Addr}{xs:List V}{i:Int}{j a:Nat}{v:V}{σ:L2.St}{H:Hp}{Q:L2.St->Hp->Prop}(e:σ[a]? = some (some (.ref p)))(h:H p=some (.lst xs))(hj:ixN xs.length i=some j)(q:Q σ (upd H p (.lst (xs.set j v)))):LE (kH a) (tC (.int i)) rSetL v σ H Q:=⟨_,e,p,xs,i,j,rfl,rfl,h,hj,q⟩
def Tape(cl:Addr)(H:Hp)(tp:Addr)(B:Int):Prop:=∃(ns:List Int) (spot rest left:Int),H tp=some (.lst [.ref cl,.int spot,.int rest,.int left])/\H cl=some (.lst (ns.map V.int))/\ns.length<=63/\0<=spot/\spot<=B
theorem Tape.mono{cl:Addr}{H H':Hp}{tp:Addr}{B B':Int}(e:Same H H')(hB:B<=B')(h:Tape cl H tp B):Tape cl H' tp B':=by
 obtain⟨ns,spot,rest,left,h1,h2,h3,h4,h5⟩:=h;exact⟨ns,spot,rest,left,e _ _ h1,e _ _ h2,h3,h4,by omega⟩
def spGcd:Sp:=λvs H Q _=>∃a b:Int,vs=[.int a,.int b]/\0<b/\b.natAbs<2^8000/\Q (.int (Int.gcd a b)) H
def spDraw:Sp:=λvs H Q _=>∃(tp:Addr) (ad B:Int),vs=[.ref tp,.int ad]/\∃cl,Tape cl H tp B/\B<2^40/\0<ad/\ad<2^100/\
 ∀(r:Int) (H':Hp),0<=r->r<ad->Tape cl H' tp (B+1)->But tp H H'->Q (.int r) H'
theorem dDraw{tp:Addr}{ad B:Int}{cl:Addr}{H:Hp}{Q:VK}{σ:L2.St}{a:Nat}(e:σ[a]? = some (some (.ref tp)))(hT:Tape cl H tp B)(h1:B<2^40)(h2:0<ad)(h3:ad<2^100)(k:∀(r:Int) (H':Hp),0<=r->r<ad->Tape cl H' tp (B+1)->But tp H H'->Q (.int r) H'):DE spDraw [] E0 (qO (kH a) (qO (tC (.int ad)) tNil)) σ H Q:=⟨_,e,tp,ad,B,rfl,cl,hT,h1,h2,h3,k⟩
def yG(t b:Int):Int:=(if b<0 then 0-t else t)/(Int.gcd t b:Int)
def yZ(t b:Int):Int:=(if b<0 then 0-b else b)/(Int.gcd t b:Int)
def LowFit(t b:Int):Prop:=b.natAbs<2^8000∨(t.natAbs<2^13400/\b.natAbs<2^13400)
def spLow:Sp:=λvs H Q _=>∃t b:Int,vs=[.int t,.int b]/\b≠0/\LowFit t b/\
 ∀(p:Addr) (H':Hp),H p=none->Same H H'->H' p=some (.tup [.int (yG t b),.int (yZ t b)])->Q (.ref p) H'
def OG(K:tL):Sp:=λvs H Q _=>∃(a:Addr) (ns:List Int),vs=[.ref a]/\SqL K H a (ns.map V.int)/\ns.length<=63/\∀H',Q (.bl true) H'
structure Txt(mg:Str->Option Value):Prop where
 isi:mg "isinstance" = none
 len:mg "len" = none
 int:mg "int" = none
 bool:mg "bool" = none
 tup:mg "tuple" = none
 lst:mg "list" = none
 abs:mg "abs" = none
 rng:mg "range" = none
 lbits:∃t,mg "LONG_BITS" = some (.int 8000 t)
 sum:mg "sum" = none
 zip:mg "zip" = none
 sorted:mg "sorted" = none
 enum:mg "enumerate" = none
 dct:mg "dict" = none
 max:mg "max" = none
 rev:mg "reversed" = none
 verr:mg "ValueError" = none
 degree:∃t,mg "MOST_DEGREE" = some (.int 16 t)
 terms:∃t,mg "MOST_TERMS" = some (.int 500 t)
 pack:∃t,mg "PACK" = some (.int 256 t)
 short:∃t,mg "SHORT_BITS" = some (.int 1500 t)
structure Df(K:tL)(mg:Str->Option Value)(x:Str)(st:Stmt)(ps:List Str)(f:Addr)(fd:FuncData):Prop where
 F:Fun K x x st f fd
 b:Binds K fd ps []
 m:mg x=some (.ref f)
structure DG(P:Program)(w:World)(K:tL)(mg:Str->Option Value)(base:Heap)(n:Nat)(x:Str)(st:Stmt)(ps:List Str)(sp:Sp):Prop where
 ex:∃f fd,Df K mg x st ps f fd/\FnOk P w K mg base CX0 n f fd ps sp
theorem mkD{P:Program}{w:World}{K:tL}{mg:Str->Option Value}{base:Heap}{n:Nat}{x:Str}{st:Stmt}{ps:List Str}{sp:Sp}{f:Addr}{fd:FuncData}(D:Df K mg x st ps f fd)(G:FnOk P w K mg base CX0 n f fd ps sp):DG P w K mg base n x st ps sp:=⟨_,_,D,G⟩
theorem cal{X:Cx}{n:Nat}{x:Str}{st:Stmt}{ps:List Str}{sp:Sp}{e:Expr}{es:List Expr}{t:TA}{p pos:Pos}(G:DG X.prog X.w X.K X.mg X.base n x st ps sp)(hr:Room n X.A)(ha:PA X (e::es) t)(hg:Gl X x:=by exact rfl)(hdb:(x==("__debug__" :Str))=false:=by decide)(he:starEach (e::es) X.env=(false,eval e X.env)::starEach es X.env:=by rfl)(hpl:(backTo pos (starEach es X.env)).any (·.1)=false:=by rfl) :
  PE X (.Call (.Name x p) (e::es) [] pos) (DE sp [] E0 t):=by
 obtain⟨f,fd,D,F⟩:=G.ex;exact kG F hr hg D.m D.F.kp D.b .nil qS ha hdb he hpl
theorem scK{N P:List Str}{sc:Scope}(h:sc.kind=.function/\sc.isCoroutine=false/\sc.isGenerator=false/\N.Nodup/\N.take P.length=P/\(∀x∈P,sc.names.lookup x=some .local∨sc.names.lookup x=some .cell)/\∀y∈sc.names,y.2≠.free):FnScope N P sc:=⟨h.1,h.2.1,h.2.2.1,h.2.2.2.1,h.2.2.2.2.1,h.2.2.2.2.2.1,h.2.2.2.2.2.2⟩
variable{P:Program}{w:World}{K:tL}{mg:Str->Option Value}{base:Heap}{f fd:_}
theorem scGcd:FnScope ["one","other"] ["one","other"] (jK RW):=scK (by decide +kernel)
theorem PF{X:Cx} :MtR X "int.bit_length" (λx xs H Q=>∃i:Int,x=.int i/\xs=[]/\Q (.int (Builtin.Int.intBits i:Nat)) H):=by
 intro ae s σ H x xs v us Q I rx rs q;obtain⟨i,rfl,rfl,q⟩:=q;obtain⟨t,rfl⟩:=rx;cases rs;exact call_int_bit_length ⟨.int (Builtin.Int.intBits i:Nat),H,I.tok _,⟨_,rfl⟩,q⟩
theorem MR(F:Fun K "greatest_divisor" "greatest_divisor" RW f fd)(T:Txt mg):FnOk P w K mg base CX0 1 f fd ["one","other"] spGcd:=by
 obtain⟨tl,hl⟩:=T.lbits;refine F.ok scGcd (λvs H Q E h=>?_) #[3]
 ·obtain⟨a,b,rfl,_⟩:=h
  rfl
 ·obtain⟨a,b,rfl,hb,hs,k⟩:=h;refine⟨_,jD (JZ PassesOwn.never (jS OW (pv 1) jB (jZ _))
    (jF (kT (jS xF (WA PySem.F.plainAttrs_int slot_int_bit_length type_int_bit_length PF (pv 1)) (kF (v:=.int 8000) (by rfl) hl ⟨_,rfl⟩) (jZ _)) FP
     (jF (MM (i:=0) (j:=1) rfl scGcd.nd rfl rfl #[1] rfl rfl (jA (pv 1) (jA (jH vA (pv 0) (pv 1)) jC)) rfl)))))
   (jF (jO (pv 0))), ?_⟩
  try dsimp only[cxK]
  refine JG (fun σ H1=>H1=H/\∃p q:Int,σ=[some (.int p),some (.int q)]/\0<=q/\(0<q∨0<=p)/\q.natAbs<2^8000/\Int.gcd p q=Int.gcd a b)
   (fun σ _=>match σ with | [_,some (.int q)]=>q.toNat | _=>0) ⟨rfl,a,b,rfl,by omega,.inl hb,hs,rfl⟩ ?_ ?_
  ·rintro σ H1 ⟨rfl,p,q,rfl,h0,h1,hq8,h2⟩;refine⟨_,rfl,rfl,_,rfl, ?_⟩;refine wH (λe=>?_) (λe=>?_)
   ·have hq:0<q:=by
     have:q≠0:=λz=>by simp [z]at e
     omega
    have hbits:(Builtin.Int.intBits q)<=8000:=PySem.intBits_le_iff.mpr hq8;refine⟨_,rfl,rfl,_,rfl,rfl,_,_,rfl,rfl,_,rfl,xB (mN #[0]) ?_⟩;refine⟨_,rfl,_,rfl,_,rfl,_,_,rfl,rfl,hq,_,_,rfl, ?_⟩;have m1:=Int.emod_nonneg p (b:=q) #[0];have m2:=Int.emod_lt_of_pos p hq;have m3:(p%q).natAbs<=q.natAbs:=by omega
    refine⟨⟨rfl,q,p%q,rfl,m1,.inr h0,gU m3 hq8,(LwM.LD p q).trans h2⟩, ?_⟩;show(p%q).toNat<q.toNat;omega
   ·have hq:q=0:=by
     by_cases z:q=0
     ·exact z
     ·exact absurd (by simp [z]) e
    subst hq;refine⟨_,rfl, ?_⟩;have:p=((Int.gcd a b:Nat):Int):=by
     rw[<-h2,Int.gcd_zero_right];omega
    rw[this];exact k
  ·rintro σ H1 Q1 Q2 hQ ⟨v,e,hs,k',ek,q⟩;exact⟨v,e,hs,k',ek,hQ _ _ q⟩
theorem scLow:FnScope ["top","bottom","one","other"] ["top","bottom"] (jK RV):=scK (by decide +kernel)
theorem MQ(F:Fun K "_law_low" "_law_low" RV f fd)(T:Txt mg):FnOk P w K mg base CX0 1 f fd ["top","bottom"] spLow:=by
 refine F.ok scLow (λvs H Q E h=>?_) #[3]
 ·obtain⟨t,b,rfl,_⟩:=h
  rfl
 ·obtain⟨t,b,rfl,hb,hs,k⟩:=h;refine⟨_,jD (kT (jS FS (pv 1) jB (jZ _)) (jF (MM (i:=0) (j:=1) rfl scLow.nd rfl rfl #[1] rfl rfl (jA (jH xA jB (pv 0)) (jA (jH xA jB (pv 1)) jC)) rfl)) jV)
   (jD (jL (i:=2) scLow.nd rfl (Or.inl rfl) (kR ZM (by rfl) T.abs boot_abs (jA (pv 0) jC)))
   (jD (jL (i:=3) scLow.nd rfl (Or.inl rfl) (pv 1))
   (jD (JZ PassesOwn.never (jS xF (pv 2) jB (jZ _)) (jF (MM (i:=2) (j:=3) rfl scLow.nd rfl rfl #[1] rfl rfl (jA (jH vA (pv 3) (pv 2)) (jA (pv 2) jC)) rfl)))
   (jF (jO (pe_tup (jA (jH LwD.AB (pv 0) (pv 3)) (jA (jH LwD.AB (pv 1) (pv 3)) jC)))))))), ?_⟩
  try dsimp only[cxK]
  refine⟨_,rfl,_,_,rfl,rfl,_,rfl, ?_⟩;have fin:∀t' b':Int,0<b'->(∀q:Int,0<q->q<=b'->LwD.CDivP t' q/\LwD.CDivP b' q)->t'=(if b<0 then 0-t else t)->b'=(if b<0 then 0-b else b)->Int.gcd t' b'=Int.gcd t b->
    (vZ (yK (tCB (λxs H Q=>∃i,xs=[V.int i]/\Q (.int (if i<0 then -i else i)) H) (qO (kH 0) tNil)) (jT 2)) (vZ (yK (kH 1) (jT 3)) (vZ (LX (NX (tOp (rI0 λi j=>V.bl (decide (j<i))) (kH 2) (tC (.int 0)))) (tPar 2 3 (qO (tOp (rI (λ_ j=>0<j) λi j=>.int (i%j)) (kH 3) (kH 2)) (qO (kH 2) tNil)))) (RN (tTup (qO (tOp (rI LwD.CDivP λi j=>.int (i/j)) (kH 0) (kH 3)) (qO (tOp (rI LwD.CDivP λi j=>.int (i/j)) (kH 1) (kH 3)) tNil))))))) { nx:=λ_ H'=>Q .non H',rt:=Q } [some (.int t'),some (.int b'),none,none] H:=by
   intro t' b' hb' hs' et eb hg;refine⟨_,rfl,_,rfl,_,rfl, ?_⟩;refine JG (fun σ H1=>H1=H/\∃p q:Int,σ=[some (.int t'),some (.int b'),some (.int p),some (.int q)]/\0<=p/\0<q/\Int.gcd q p=Int.gcd t b)
    (fun σ _=>match σ with | [_,_,some (.int p),_]=>p.toNat | _=>0) ⟨rfl,_,b',rfl,by split<;>omega,hb', ?_⟩ ?_ ?_
   ·rw[<-hg,Int.gcd_comm t'];split
    ·exact Int.gcd_neg
    ·rfl
   ·rintro σ H1 ⟨rfl,p,q,rfl,h0,h1,h2⟩;refine⟨_,rfl,_,_,rfl,rfl,_,rfl, ?_⟩;refine wH (λe=>?_) (λe=>?_)
    ·have hp:0<p:=hX e;refine⟨_,rfl,_,rfl,_,_,rfl,rfl,hp,_,rfl,_,_,rfl, ?_⟩;have m1:=Int.emod_nonneg q (b:=p) #[0];have m2:=Int.emod_lt_of_pos q hp;refine⟨⟨rfl,q%p,p,rfl,m1,hp,(LwM.LD q p).trans h2⟩, ?_⟩;show(q%p).toNat<p.toNat;omega
    ·have hp:p=0:=by
      have:¬0<p:=λz=>e (mP z);omega
     subst hp;have hq:q=((Int.gcd t b:Nat):Int):=by
      rw[<-h2,Int.gcd_zero_right];omega
     have gb:q<=b':=by
      rw[hq,<-hg];exact LwM.YD t' b' hb'
     obtain⟨c1,c2⟩:=hs' q h1 gb;refine⟨_,rfl,_,rfl,_,_,rfl,rfl,c1,_,rfl,_,rfl,_,_,rfl,rfl,c2,uX, ?_⟩;refine fresh λp H' n s1 e1=>k p H' n s1 ?_;rw[e1,hq,et,eb]
     rfl
   ·rintro σ H1 Q1 Q2 hQ ⟨v,e,i,j,e1,e2,k',ek,q⟩;exact⟨v,e,i,j,e1,e2,k',ek,hQ _ _ q⟩
  have hs2:∀t' b':Int,t'.natAbs=t.natAbs->b'.natAbs=b.natAbs->0<b'->∀q:Int,0<q->q<=b'->LwD.CDivP t' q/\LwD.CDivP b' q:=λt' b' e1 e2 h0 q h1 h2=>by
   rcases hs with hs | ⟨ha,hb2⟩
   ·have hq:q.natAbs<2^8000:=gU #[0] hs;exact⟨LwD.LN ⟨h1,hq⟩,LwD.LN ⟨h1,hq⟩⟩
   ·exact⟨LwD.zJ h1 uU (by rw[e1];exact ha),LwD.zJ h1 uU (by rw[e2];exact hb2)⟩
  by_cases n:b<0
  ·refine AF (mP n) ?_;refine⟨_,rfl,_,_,rfl,rfl,_,rfl,_,_,rfl,rfl,_,_,rfl, ?_⟩;refine fin (0-t) (0-b) #[0] (hs2 _ _ #[0] #[0] #[0]) (by rw[tK n]) (by rw[tK n]) ?_;rw[Int.zero_sub,Int.zero_sub,Int.neg_gcd,Int.gcd_neg]
  ·refine xB (mN n) ?_;exact fin t b #[0] (hs2 _ _ rfl rfl #[0]) (by rw[tJ n]) (by rw[tJ n]) rfl
theorem PM{t b:Int}(h:0<b):yG t b=t/(Int.gcd t b:Int)/\yZ t b=b/(Int.gcd t b:Int):=by
 unfold yG yZ;rw[tJ #[0],tJ #[0]];exact⟨rfl,rfl⟩
theorem at_ints{ns:List Int}{i:Int}(h0:0<=i)(h1:i<ns.length):∃c:Int,atI (ns.map V.int) i=some (.int c):=by
 obtain⟨j,rfl⟩:=gF h0;have hj:j<ns.length:=by omega
 exact⟨ns[j],AN (by simp [hj])⟩
theorem scDraw:FnScope ["tape","many","spot","cell","some","rest"] ["tape","many"] (jK BC):=scK (by decide +kernel)
theorem IM(F:Fun K "_law_draw" "_law_draw" BC f fd)(T:Txt mg):FnOk P w K mg base CX0 1 f fd ["tape","many"] spDraw:=by
 refine F.ok scDraw (λvs H Q E h=>?_) #[3]
 ·obtain⟨tp,ad,B,rfl,_⟩:=h
  rfl
 ·obtain⟨tp,ad,B,rfl,cl,⟨ns,spot,rest,left,h1,h2,h3,h4,h5⟩,hB,hm,hm2,k⟩:=h;have hne:cl≠tp:=by
   rintro rfl;rw[h1]at h2;injection h2 with h2
   injection h2 with h2
   cases ns with
   | nil=>cases h2
   | cons n r=>injection h2 with z;cases z
  refine⟨_,jD (kT (jS KF (jR kZ (pv 0) jB (λ_ _=>rfl)) jB (jZ _))
    (jD (jL (i:=2) scDraw.nd rfl (Or.inl rfl) (jR kZ (pv 0) jB (λ_ _=>rfl)))
    (jD (vQ (jH kJ (pv 2) jB) (zX (pv 0) jB xE))
    (jD (jL (i:=3) scDraw.nd rfl (Or.inl rfl) jB)
    (jD (kT (jS xF (kR vG (by rfl) T.len PySem.boot_len (jA (jR kZ (pv 0) jB (λ_ _=>rfl)) jC)) jB (jZ _))
     (jF (jL (i:=3) scDraw.nd rfl (Or.inl rfl) (jR kZ (jR kZ (pv 0) jB (λ_ _=>rfl)) (jH vA (pv 2) (kR vG (by rfl) T.len PySem.boot_len (jA (jR kZ (pv 0) jB (λ_ _=>rfl)) jC))) (λ_ _=>rfl)))) jV)
    (jD (kT (PW.pt (JW (jS op_ge (pv 2) (kR vG (by rfl) T.len PySem.boot_len (jA (jR kZ (pv 0) jB (λ_ _=>rfl)) jC)) (jZ _)) (EF (jS FS (pv 3) (jH yF jB jB) (jZ _)))))
     (jD (jL (i:=4) scDraw.nd rfl (Or.inl rfl) (jH kJ (jH kJ (jH vA (jH xP (pv 2) (pv 2)) jB) (jH xP jB (pv 2))) jB))
     (jD (jL (i:=4) scDraw.nd rfl (Or.inl rfl) (jH vA (jH xP (jH kJ (jH vA (pv 3) jB) jB) (pv 4)) jB))
     (jF (jO (jH vA (jH vA (jH kJ (jH op_fdiv (jH vA (jH xP (pv 4) (pv 4)) jB) jB) (jH xP jB (pv 2))) jB) (pv 1)))))) jV)
    (jD (vQ (jH xA (pv 3) (jH yF jB jB)) (zX (pv 0) jB xE))
    (jF (vQ jB (zX (pv 0) jB xE))))))))) jV)
   (jD (vQ (jH xA (jR kZ (pv 0) jB (λ_ _=>rfl)) jB) (zX (pv 0) jB xE))
   (jD (jL (i:=5) scDraw.nd rfl (Or.inl rfl) (jR kZ (pv 0) jB (λ_ _=>rfl)))
   (jD (vQ (jH qQ (pv 5) (pv 1)) (zX (pv 0) jB xE))
   (jF (jO (jH vA (pv 5) (pv 1))))))), ?_⟩
  try dsimp only[cxK]
  have hmd:ad.natAbs<2^8000:=by
   have:ad.natAbs<2^100:=by
    have h:((2^100:Nat):Int)=2^100:=by decide
    omega
   exact gX this (gO #[1] #[1])
  have tail:∀(spot' rest' left':Int) (a b c d:Option V) (H1:Hp),H1 tp=some (.lst [.ref cl,.int spot',.int rest',.int left'])->But tp H H1->0<=spot'->spot'<=B+1->
    (vZ (yK (tOp (rI0 λi j=>V.int (i-j)) (tOp (ML K) (kH 0) (tC (.int 3))) (tC (.int 1))) (LE (kH 0) (tC (.int 3)) rSetL))
     (vZ (yK (tOp (ML K) (kH 0) (tC (.int 2))) (jT 5))
     (vZ (yK (tOp (rI CDivL λi j=>.int (i/j)) (kH 5) (kH 1)) (LE (kH 0) (tC (.int 2)) rSetL))
     (RN (tOp (rI (λ_ j=>0<j) λi j=>.int (i%j)) (kH 5) (kH 1)))))) { nx:=λ_ H'=>Q .non H',rt:=Q } [some (.ref tp),some (.int ad),a,b,c,d] H1:=by
   intro spot' rest' left' a b c d H1 g1 g2 g3 g4;refine(rvL rfl (SqL.of g1) rfl ⟨_,_,rfl,rfl, ?_⟩);refine YG rfl g1 rfl ?_;refine(rvL rfl (SqL.of jE) rfl ?_);refine oVV rfl rfl ⟨hm,hmd⟩ (YG rfl jE rfl ?_);refine⟨_,rfl,_,rfl,_,_,rfl,rfl,hm, ?_⟩;refine k _ _ (Int.emod_nonneg _ #[0]) (Int.emod_lt_of_pos _ hm) ⟨ns,spot',_,_,jE, ?_,h3,g3,g4⟩ ?_
   ·rw[jG hne,jG hne];exact g2 _ _ h2 hne
   ·exact(g2.trans (But.upd _ _ _)).trans (But.upd _ _ _)
  refine(rvL rfl (SqL.of h1) rfl ⟨rfl,_,rfl, ?_⟩);by_cases hl:left=0
  ·subst hl;refine AF #[1] ?_;refine(rvL rfl (SqL.of h1) rfl ?_);refine⟨_,rfl,_,_,rfl,rfl,YG rfl h1 rfl ?_⟩;have T1:∀o,(upd H tp o) cl=some (.lst (ns.map V.int)):=λo=>by
    rw[jG hne];exact h2
   have mid:∀(cell:Int) (b c:Option V),(vZ (RO (tOr (NX (tOp (rI0 λi j=>V.bl (decide (j<=i))) (kH 2) (tCB (λxs H Q=>∃p ys,xs=[V.ref p]/\(SqL K H p ys∨SqT K H p ys)/\Q (.int ys.length) H) (qO (tOp (ML K) (kH 0) (tC (.int 0))) tNil))))
      (NX (tOp (rI0 λi j=>V.bl (decide (i<j))) (kH 3) (tOp (rI CPow λi j=>.int (i^j.toNat)) (tC (.int 10)) (tC (.int 18))))))
     (vZ (yK (tOp (rI0 λi j=>V.int (i+j)) (tOp (rI0 λi j=>V.int (i+j)) (tOp (rI (λ_ j=>0<j) λi j=>.int (i%j)) (tOp (rI CMul λi j=>.int (i*j)) (kH 2) (kH 2)) (tC (.int 10007))) (tOp (rI CMul λi j=>.int (i*j)) (tC (.int 61)) (kH 2))) (tC (.int 7))) (jT 4))
     (vZ (yK (tOp (rI (λ_ j=>0<j) λi j=>.int (i%j)) (tOp (rI CMul λi j=>.int (i*j)) (tOp (rI0 λi j=>V.int (i+j)) (tOp (rI (λ_ j=>0<j) λi j=>.int (i%j)) (kH 3) (tC (.int 999983))) (tC (.int 3))) (kH 4)) (tC (.int 1000003))) (jT 4))
     (RN (tOp (rI (λ_ j=>0<j) λi j=>.int (i%j)) (tOp (rI (λ_ j=>0<j) λi j=>.int (i%j)) (tOp (rI0 λi j=>V.int (i+j)) (tOp (rI CDiv λi j=>.int (i/j)) (tOp (rI (λ_ j=>0<j) λi j=>.int (i%j)) (tOp (rI CMul λi j=>.int (i*j)) (kH 4) (kH 4)) (tC (.int 999979))) (tC (.int 3))) (tOp (rI CMul λi j=>.int (i*j)) (tC (.int 131)) (kH 2))) (tC (.int 99991))) (kH 1)))))
     tNext)
     (vZ (yK (tOp (rI0 λi j=>V.int (i-j)) (kH 3) (tOp (rI CPow λi j=>.int (i^j.toNat)) (tC (.int 10)) (tC (.int 18)))) (LE (kH 0) (tC (.int 2)) rSetL))
     (yK (tC (.int 40)) (LE (kH 0) (tC (.int 3)) rSetL))))
     { nx:=(vZ (yK (tOp (rI0 λi j=>V.int (i-j)) (tOp (ML K) (kH 0) (tC (.int 3))) (tC (.int 1))) (LE (kH 0) (tC (.int 3)) rSetL))
     (vZ (yK (tOp (ML K) (kH 0) (tC (.int 2))) (jT 5))
     (vZ (yK (tOp (rI CDivL λi j=>.int (i/j)) (kH 5) (kH 1)) (LE (kH 0) (tC (.int 2)) rSetL))
     (RN (tOp (rI (λ_ j=>0<j) λi j=>.int (i%j)) (kH 5) (kH 1)))))) { nx:=λ_ H'=>Q .non H',rt:=Q },rt:=Q } [some (.ref tp),some (.int ad),some (.int spot),some (.int cell),b,c] (upd H tp (.lst [.ref cl,.int (spot+1),.int rest,.int 0])):=by
    intro cell b c;have pw:CPow 10 18:=⟨by decide,by decide,by decide⟩;have drawn:(vZ (yK (tOp (rI0 λi j=>V.int (i+j)) (tOp (rI0 λi j=>V.int (i+j)) (tOp (rI (λ_ j=>0<j) λi j=>.int (i%j)) (tOp (rI CMul λi j=>.int (i*j)) (kH 2) (kH 2)) (tC (.int 10007))) (tOp (rI CMul λi j=>.int (i*j)) (tC (.int 61)) (kH 2))) (tC (.int 7))) (jT 4))
     (vZ (yK (tOp (rI (λ_ j=>0<j) λi j=>.int (i%j)) (tOp (rI CMul λi j=>.int (i*j)) (tOp (rI0 λi j=>V.int (i+j)) (tOp (rI (λ_ j=>0<j) λi j=>.int (i%j)) (kH 3) (tC (.int 999983))) (tC (.int 3))) (kH 4)) (tC (.int 1000003))) (jT 4))
     (RN (tOp (rI (λ_ j=>0<j) λi j=>.int (i%j)) (tOp (rI (λ_ j=>0<j) λi j=>.int (i%j)) (tOp (rI0 λi j=>V.int (i+j)) (tOp (rI CDiv λi j=>.int (i/j)) (tOp (rI (λ_ j=>0<j) λi j=>.int (i%j)) (tOp (rI CMul λi j=>.int (i*j)) (kH 4) (kH 4)) (tC (.int 999979))) (tC (.int 3))) (tOp (rI CMul λi j=>.int (i*j)) (tC (.int 131)) (kH 2))) (tC (.int 99991))) (kH 1))))) { nx:=λ_ _=>False,rt:=Q } [some (.ref tp),some (.int ad),some (.int spot),some (.int cell),b,c] (upd H tp (.lst [.ref cl,.int (spot+1),.int rest,.int 0])):=by
     refine⟨_,rfl,_,rfl,_,_,rfl,rfl,.inl ⟨by omega,by omega⟩,_,_,rfl,rfl,(by show(0:Int)<_;decide), ?_⟩;refine⟨_,rfl,_,_,rfl,rfl,.inl ⟨by omega,by omega⟩,_,_,rfl,rfl,_,_,rfl,rfl, ?_⟩;have c1:=Int.emod_nonneg cell (b:=999983) #[1];have c2:=Int.emod_lt_of_pos cell (b:=999983) #[1];refine⟨_,rfl,_,_,rfl,rfl,(by show(0:Int)<_;decide),_,_,rfl,rfl,_,rfl,_,_,rfl,rfl,.inl ⟨by omega,by omega⟩,_,_,rfl,rfl,(by show(0:Int)<_;decide), ?_⟩;generalize hx:((cell%999983+3)*(spot*spot%10007+61*spot+7))=x;have d1:=Int.emod_nonneg x (b:=1000003) #[1];have d2:=Int.emod_lt_of_pos x (b:=1000003) #[1];refine⟨_,rfl,_,rfl,_,_,rfl,rfl,.inl ⟨by omega,by omega⟩,_,_,rfl,rfl,(by show(0:Int)<_;decide),_,_,rfl,rfl,⟨by decide,by decide⟩, ?_⟩;refine⟨_,rfl,_,_,rfl,rfl,.inl ⟨by decide,by decide⟩,_,_,rfl,rfl,_,_,rfl,rfl,(by show(0:Int)<_;decide),_,rfl,_,_,rfl,rfl,hm, ?_⟩;exact k _ _ (Int.emod_nonneg _ #[0]) (Int.emod_lt_of_pos _ hm) ⟨ns,spot+1,_,_,jE,T1 _,h3,by omega,by omega⟩ (But.upd _ _ _)
    refine⟨_,rfl,rvL rfl (SqL.of jE) rfl ⟨cl,_,rfl,.inl (SqL.of (T1 _)),_,_,rfl,rfl,_,rfl, ?_⟩⟩;by_cases z1:((ns.map V.int).length:Int)<=spot
    ·refine AF (mP z1) (iteT ?_);exact drawn
    ·refine xB (mN z1) ?_;refine⟨_,rfl,_,_,rfl,rfl,pw,_,_,rfl,rfl,_,rfl, ?_⟩;by_cases z2:cell<(10:Int)^(18:Int).toNat
     ·refine AF (mP z2) ?_;exact drawn
     ·refine xB (mN z2) ?_;refine⟨_,rfl,_,_,rfl,rfl,pw,_,_,rfl,rfl,YG rfl jE rfl ?_⟩;refine YG rfl jE rfl ?_;exact tail (spot+1) _ 40 _ _ _ _ _ jE (((But.upd _ _ _).trans (But.upd _ _ _)).trans (But.upd _ _ _)) #[0] #[0]
   refine(rvL rfl (SqL.of jE) rfl ⟨cl,_,rfl,.inl (SqL.of (T1 _)),_,_,rfl,rfl,_,rfl, ?_⟩);by_cases hn:(0:Int)<((ns.map V.int).length:Int)
   ·refine AF (mP hn) ?_;obtain⟨c,hc⟩:=at_ints (ns:=ns) (i:=spot%((ns.map V.int).length:Int)) (Int.emod_nonneg _ #[0]) (by have:=Int.emod_lt_of_pos spot hn;rw[mL]at this ⊢;exact this);refine(rvL rfl (SqL.of jE) rfl ⟨_,rfl,rvL rfl (SqL.of jE) rfl ⟨cl,_,rfl,.inl (SqL.of (T1 _)),_,_,rfl,rfl,hn,cl,_,_,_,rfl,rfl,SqL.of (T1 _),hc, ?_⟩⟩);exact mid c _ _
   ·refine xB (mN hn) ?_;exact mid 0 _ _
  ·refine xB (mN (by intro z;injection z with z;exact hl z)) ?_;exact tail spot rest left _ _ _ _ H h1 (But.refl _ _) h4 #[0]
end Lw
namespace LwV
abbrev Pl:=List (List Int×Rat)
def cf:Pl->List Int->Rat
 | [],_=>0
 | x::P,m=>(if x.1=m then x.2 else 0)+cf P m
theorem xD(x:List Int×Rat)(P:Pl)(m:List Int):cf (x::P) m=(if x.1=m then x.2 else 0)+cf P m:=rfl
theorem qE:∀(P Q:Pl) (m:List Int),cf (P++Q) m=cf P m+cf Q m
 | [],Q,m=>by show cf Q m=0+cf Q m;grind
 | x::P,Q,m=>by rw[List.cons_append,xD,xD,qE P Q m];grind
theorem zI{P Q:Pl}(h:P.Perm Q)(m:List Int):cf P m=cf Q m:=by
 induction h with
 | nil=>rfl
 | cons x _ ih=>rw[xD,xD,ih]
 | swap x y l=>simp only[xD];grind
 | trans _ _ h1 h2=>exact h1.trans h2
theorem NL{P:Pl}{m:List Int}(h:∀x∈P,x.1≠m):cf P m=0:=by
 induction P with
 | nil=>rfl
 | cons x P ih=>
  rw[xD,tJ (h x (by simp)),ih λy hy=>h y (by simp [hy])]
  grind
theorem RD{P:Pl}{m:List Int}(h:cf P m≠0):m∈P.map (·.1):=by
 refine gA λn=>h (NL λx hx e=>n ?_);exact nP.mpr ⟨x,hx,e⟩
theorem FB{P:Pl}(nd:(P.map (·.1)).Nodup){x:List Int×Rat}(hx:x∈P):cf P x.1=x.2:=by
 induction P with
 | nil=>cases hx
 | cons y P ih=>
  rw[mW,List.nodup_cons]at nd;rw[xD];rcases mX.mp hx with rfl | h
  ·rw[tK rfl,NL λz hz e=>nd.1 (nP.mpr ⟨z,hz,e⟩)]
   grind
  ·rw[tJ λe=>nd.1 (nP.mpr ⟨x,h,e.symm⟩),ih nd.2 h]
   grind
def kW(a b:List Int):List Int:=List.zipWith (· + ·) a b
def row(x:List Int×Rat)(Q:Pl):Pl:=Q.map λy=>(kW x.1 y.1,x.2*y.2)
def mul:Pl->Pl->Pl
 | [],_=>[]
 | x::P,Q=>row x Q++mul P Q
theorem IP:∀(P P' Q:Pl),mul (P++P') Q=mul P Q++mul P' Q
 | [],_,_=>rfl
 | x::P,P',Q=>by show row x Q++mul (P++P') Q=_;rw[IP P P' Q,<-List.append_assoc];rfl
end LwV
namespace LwQ
theorem MK{t b o u t' b':Int}{R1 R2:Nat}(hb:0<b)(hu:0<u)(h:t'*(b*u)=(t*u+o*b)*b')(h1:t.natAbs<=R1*b.natAbs)(h2:o.natAbs<=R2*u.natAbs):t'.natAbs<=(R1+R2)*b'.natAbs:=by
 have e:=congrArg Int.natAbs h;rw[mQ,mQ,mQ]at e;have k:(t*u+o*b).natAbs<=(R1+R2)*(b.natAbs*u.natAbs):=by
  refine nN (Int.natAbs_add_le _ _) ?_;rw[mQ,mQ,Nat.add_mul];refine Nat.add_le_add ?_ ?_
  ·calc t.natAbs*u.natAbs<=R1*b.natAbs*u.natAbs:=gQ _ h1
    _=R1*(b.natAbs*u.natAbs):=Nat.mul_assoc ..
  ·calc o.natAbs*b.natAbs<=R2*u.natAbs*b.natAbs:=gQ _ h2
    _=R2*(b.natAbs*u.natAbs):=by rw[Nat.mul_assoc,Nat.mul_comm u.natAbs]
 have p:0<b.natAbs*u.natAbs:=Nat.mul_pos #[0] #[0];refine Nat.le_of_mul_le_mul_right ?_ p;rw[e]
 calc (t*u+o*b).natAbs*b'.natAbs<=(R1+R2)*(b.natAbs*u.natAbs)*b'.natAbs:=gQ _ k
  _=(R1+R2)*b'.natAbs*(b.natAbs*u.natAbs):=by grind
end LwQ
namespace Lw
open PySem PySem.Spec PyProof.Rows L2
structure FrOk(n:Nat)(t b:Int):Prop where
 pos:0<b
 low:Int.gcd t b=1
 st:t.natAbs<2^n
 sb:b.natAbs<2^n
def At2(H:Hp)(p:Addr)(t b:Int):Prop:=H p=some (.tup [.int t,.int b])
theorem AO{a b:Int}{m n:Nat}(ha:a.natAbs<2^m)(hb:b.natAbs<2^n):(a*b).natAbs<2^(m+n):=by
 rw[mQ,Nat.pow_add];exact Nat.mul_lt_mul'' ha hb
theorem abs_add{a b:Int}{n:Nat}(ha:a.natAbs<2^n)(hb:b.natAbs<2^n):(a+b).natAbs<2^(n+1):=by
 rw[Nat.pow_succ];omega
theorem jP{a:Int}{m n:Nat}(ha:a.natAbs<2^m)(h:m<=n):a.natAbs<2^n:=gX ha (gO #[1] h)
theorem qY{a g:Int}{n:Nat}(ha:a.natAbs<2^n)(hg:1<=g):(a/g).natAbs<2^n:=gU (LwM.AI a g hg) ha
theorem CM{a b:Int}{n:Nat}(hb:0<b)(hs:b.natAbs<2^n):((Int.gcd a b:Nat):Int).natAbs<2^n:=by
 have:=LwM.YD a b hb;have:=LwM.vE a b hb;omega
theorem vJ{t b:Int}(h:0<b):yG t b=t/(Int.gcd t b:Int):=(PM h).1
theorem xQ{t b:Int}(h:0<b):yZ t b=b/(Int.gcd t b:Int):=(PM h).2
def spTwo(K:tL)(nt nb:Int->Int->Int->Int->Int):Sp:=λvs H Q _=>∃(p q:Addr) (t b o u:Int),vs=[.ref p,.ref q]/\SqT K H p [.int t,.int b]/\SqT K H q [.int o,.int u]/\FrOk 7900 t b/\FrOk 7900 o u/\
 ∀(r:Addr) (H':Hp),H r=none->Same H H'->At2 H' r (yG (nt t b o u) (nb t b o u)) (yZ (nt t b o u) (nb t b o u))->Q (.ref r) H'
abbrev OF(K:tL):Sp:=spTwo K (λt _ o _=>t*o) (λ_ b _ u=>b*u)
theorem yM{K:tL}{H H':Hp}{a:Addr}{xs:List V}(s:Same H H')(h:SqT K H a xs):SqT K H' a xs:=by
 rcases h with(h | ⟨o,h⟩) | h
 ·exact .inl (.inl (s _ _ h))
 ·exact .inl (.inr ⟨o,s _ _ h⟩)
 ·exact .inr h
variable{P:Program}{w:World}{K:tL}{mg:Str->Option Value}{base:Heap}{f fd:_}
theorem scMul:FnScope ["one","other","top","bottom","over","under","first","second"] ["one","other"] (jK RU):=scK (by decide +kernel)
theorem WP{fG:Addr}{fdG:FuncData}(F:Fun K "multiplied" "multiplied" RU f fd)(T:Txt mg)(DG:Df K mg "greatest_divisor" RW ["one","other"] fG fdG):FnOk P w K mg base CX0 2 f fd ["one","other"] (OF K):=by
 have GG:FnOk P w K mg base CX0 1 fG fdG ["one","other"] spGcd:=MR DG.F T;refine F.ok scMul (λvs H Q E h=>?_) #[3]
 ·obtain⟨p,q,t,b,o,u,rfl,_⟩:=h
  rfl
 ·obtain⟨p,q,t,b,o,u,rfl,hp,hq,f1,f2,k⟩:=h;refine⟨_,jD (vQ (pv 0) (qD rfl (jM (jJ (i:=2) scMul.nd rfl (Or.inl rfl)) (jM (jJ (i:=3) scMul.nd rfl (Or.inl rfl)) kP))))
   (jD (vQ (pv 1) (qD rfl (jM (jJ (i:=4) scMul.nd rfl (Or.inl rfl)) (jM (jJ (i:=5) scMul.nd rfl (Or.inl rfl)) kP))))
   (jD (jL (i:=6) scMul.nd rfl (Or.inl rfl) (kG GG hr rfl DG.m DG.F.kp DG.b .nil qS (jA (pv 2) (jA (pv 5) jC))))
   (jD (jL (i:=7) scMul.nd rfl (Or.inl rfl) (kG GG hr rfl DG.m DG.F.kp DG.b .nil qS (jA (pv 4) (jA (pv 3) jC))))
   (jF (jO (jW (jA (jH qI (jH qQ (pv 2) (pv 6)) (jH qQ (pv 4) (pv 7))) (jA (jH qI (jH qQ (pv 3) (pv 7)) (jH qQ (pv 5) (pv 6))) jC)))))))), ?_⟩
  try dsimp only[cxK]
  refine⟨_,rfl,p,_,rfl,hp,rfl,_,_,rfl,_,_,rfl,rfl, ?_⟩;refine⟨_,rfl,q,_,rfl,hq,rfl,_,_,rfl,_,_,rfl,rfl, ?_⟩;refine⟨_,rfl,_,rfl,t,u,rfl,f2.pos,jP f2.sb #[1], ?_⟩;refine⟨_,rfl,_,rfl,o,b,rfl,f1.pos,jP f1.sb #[1], ?_⟩;have a1:=LwM.vE t u f2.pos;have a2:=LwM.vE o b f1.pos;have d1:CDivL t (Int.gcd t u:Int):=⟨by omega,jP (CM f2.pos f2.sb) #[1]⟩;have d2:CDivL t (Int.gcd o b:Int):=⟨by omega,jP (CM f1.pos f1.sb) #[1]⟩;have m:=LwM.mul_low f1.pos f2.pos f1.low f2.low;refine⟨_,rfl,_,rfl,_,_,rfl,rfl,d1,_,rfl,_,rfl,_,_,rfl,rfl,d2,_,_,rfl,rfl,⟨jP (qY f1.st a1) #[1],jP (qY f2.st a2) #[1]⟩, ?_⟩;refine⟨_,rfl,_,rfl,_,_,rfl,rfl,d2,_,rfl,_,rfl,_,_,rfl,rfl,d1,_,_,rfl,rfl,⟨jP (qY f1.sb a2) #[1],jP (qY f2.sb a1) #[1]⟩,uX,λr H' n s e=>?_⟩;refine k r H' n s ?_;have bu:=nZ f1.pos f2.pos;show H' r=_;rw[e,vJ bu,xQ bu];dsimp only;rw[m.1,m.2]
def MA(K:tL):Sp:=λvs H Q _=>∃(p q:Addr) (t b o u:Int),vs=[.ref p,.ref q]/\SqT K H p [.int t,.int b]/\SqT K H q [.int o,.int u]/\FrOk 7900 t b/\FrOk 7900 o u/\o≠0/\
 ∀(r:Addr) (H':Hp),H r=none->Same H H'->At2 H' r (yG (t*u) (b*o)) (yZ (t*u) (b*o))->Q (.ref r) H'
theorem CH{t b:Int}(h:b<0):yG (-t) (-b)=yG t b/\yZ (-t) (-b)=yZ t b:=by
 unfold yG yZ;simp only[tJ (show ¬(-b<0) by omega),tK h,Int.neg_gcd,Int.gcd_neg,Int.zero_sub];exact⟨trivial,trivial⟩
theorem scDiv:FnScope ["one","other","over","under"] ["one","other"] (jK VI):=scK (by decide +kernel)
theorem ok_divN{fM fG:Addr}{fdM fdG:FuncData}(F:Fun K "divided" "divided" VI f fd)(T:Txt mg)(DM:Df K mg "multiplied" RU ["one","other"] fM fdM)(DG:Df K mg "greatest_divisor" RW ["one","other"] fG fdG):FnOk P w K mg base CX0 3 f fd ["one","other"] (MA K):=by
 have GM:FnOk P w K mg base CX0 2 fM fdM ["one","other"] (OF K):=WP DM.F T DG;refine F.ok scDiv (λvs H Q E h=>?_) #[3]
 ·obtain⟨p,q,t,b,o,u,rfl,_⟩:=h
  rfl
 ·obtain⟨p,q,t,b,o,u,rfl,hp,hq,f1,f2,ho,k⟩:=h;refine⟨_,jD (vQ (pv 1) (qD rfl (jM (jJ (i:=2) scDiv.nd rfl (Or.inl rfl)) (jM (jJ (i:=3) scDiv.nd rfl (Or.inl rfl)) kP))))
   (jD (kT (jS KF (pv 2) jB (jZ _)) (jF zU) jV)
   (jD (kT (jS FS (pv 2) jB (jZ _)) (jF (jO (kG GM hr rfl DM.m DM.F.kp DM.b .nil qS (jA (pv 0) (jA (jW (jA (FR AQ (pv 3)) (jA (FR AQ (pv 2)) jC))) jC))))) jV)
   (jF (jO (kG GM hr rfl DM.m DM.F.kp DM.b .nil qS (jA (pv 0) (jA (jW (jA (pv 3) (jA (pv 2) jC))) jC))))))), ?_⟩
  try dsimp only[cxK]
  refine⟨_,rfl,q,_,rfl,hq,rfl,_,_,rfl,_,_,rfl,rfl, ?_⟩;refine⟨_,rfl,rfl,_,rfl,xB (mN (by intro z;injection z with z;exact ho z)) ?_⟩;refine⟨_,rfl,_,_,rfl,rfl,_,rfl, ?_⟩;have gc:Int.gcd u o=1:=by rw[Int.gcd_comm];exact f2.low
  by_cases hn:o<0
  ·refine AF (mP hn) ?_;refine⟨_,rfl,_,rfl,_,rfl,_,rfl,_,rfl,uX,λz H1 n1 s1 e1=>?_⟩;refine⟨p,z,t,b,-u,-o,rfl,yM s1 hp,SqT.of e1,f1,⟨by omega,by rw[Int.neg_gcd,Int.gcd_neg];exact gc,by rw[mT];exact f2.sb,by rw[mT];exact f2.st⟩,λr H' n s e=>?_⟩;refine k r H' (s1.free n) (s1.trans s) ?_;dsimp only at e;rw[Int.mul_neg,Int.mul_neg,(CH (Int.mul_neg_of_pos_of_neg f1.pos hn)).1,(CH (Int.mul_neg_of_pos_of_neg f1.pos hn)).2]at e;exact e
  ·refine xB (mN hn) ?_;refine⟨_,rfl,_,rfl,_,rfl,uX,λz H1 n1 s1 e1=>?_⟩;refine⟨p,z,t,b,u,o,rfl,yM s1 hp,SqT.of e1,f1,⟨by omega,gc,f2.sb,f2.st⟩,λr H' n s e=>?_⟩;exact k r H' (s1.free n) (s1.trans s) e
abbrev MB(K:tL):Sp:=spTwo K (λt b o u=>t*u+o*b) (λ_ b _ u=>b*u)
theorem scAddF:FnScope ["one","other","top","bottom","over","under","shared","total","left"] ["one","other"] (jK JT):=scK (by decide +kernel)
theorem ok_addF{fG:Addr}{fdG:FuncData}(F:Fun K "added" "added" JT f fd)(T:Txt mg)(DG:Df K mg "greatest_divisor" RW ["one","other"] fG fdG):FnOk P w K mg base CX0 2 f fd ["one","other"] (MB K):=by
 have GG:FnOk P w K mg base CX0 1 fG fdG ["one","other"] spGcd:=MR DG.F T;refine F.ok scAddF (λvs H Q E h=>?_) #[3]
 ·obtain⟨p,q,t,b,o,u,rfl,_⟩:=h
  rfl
 ·obtain⟨p,q,t,b,o,u,rfl,hp,hq,f1,f2,k⟩:=h;refine⟨_,jD (vQ (pv 0) (qD rfl (jM (jJ (i:=2) scAddF.nd rfl (Or.inl rfl)) (jM (jJ (i:=3) scAddF.nd rfl (Or.inl rfl)) kP))))
   (jD (vQ (pv 1) (qD rfl (jM (jJ (i:=4) scAddF.nd rfl (Or.inl rfl)) (jM (jJ (i:=5) scAddF.nd rfl (Or.inl rfl)) kP))))
   (jD (jL (i:=6) scAddF.nd rfl (Or.inl rfl) (kG GG hr rfl DG.m DG.F.kp DG.b .nil qS (jA (pv 3) (jA (pv 5) jC))))
   (jD (jL (i:=7) scAddF.nd rfl (Or.inl rfl) (jH kJ (jH qI (pv 2) (jH qQ (pv 5) (pv 6))) (jH qI (pv 4) (jH qQ (pv 3) (pv 6)))))
   (jD (jL (i:=8) scAddF.nd rfl (Or.inl rfl) (kG GG hr rfl DG.m DG.F.kp DG.b .nil qS (jA (pv 7) (jA (pv 6) jC))))
   (jF (jO (jW (jA (jH qQ (pv 7) (pv 8)) (jA (jH qI (jH qQ (pv 3) (pv 6)) (jH qQ (pv 5) (pv 8))) jC))))))))), ?_⟩
  refine⟨_,rfl,p,_,rfl,hp,rfl,_,_,rfl,_,_,rfl,rfl, ?_⟩;refine⟨_,rfl,q,_,rfl,hq,rfl,_,_,rfl,_,_,rfl,rfl, ?_⟩;have s1:=LwM.vE b u f2.pos;have sA:((Int.gcd b u:Nat):Int).natAbs<2^7900:=CM f2.pos f2.sb;have sD:CDivL u (Int.gcd b u:Int):=⟨by omega,jP sA #[1]⟩;refine⟨_,rfl,_,rfl,b,u,rfl,f2.pos,jP f2.sb #[1], ?_⟩;refine⟨_,rfl,_,rfl,_,rfl,_,_,rfl,rfl,sD,_,_,rfl,rfl,⟨jP f1.st #[1],jP (qY f2.sb s1) #[1]⟩, ?_⟩;refine⟨_,rfl,_,rfl,_,rfl,_,_,rfl,rfl,sD,_,_,rfl,rfl,⟨jP f2.st #[1],jP (qY f1.sb s1) #[1]⟩,_,_,rfl,rfl, ?_⟩;have tA:(t*(u/(Int.gcd b u:Int))+o*(b/(Int.gcd b u:Int))).natAbs<2^15801:=abs_add (n:=15800) (AO (m:=7900) (n:=7900) f1.st (qY f2.sb s1)) (AO (m:=7900) (n:=7900) f2.st (qY f1.sb s1));refine⟨_,rfl,_,rfl,_,_,rfl,by omega,jP sA #[1], ?_⟩;have m:=LwM.add_low f1.pos f2.pos f1.low f2.low;have l1:=LwM.vE (t*(u/(Int.gcd b u:Int))+o*(b/(Int.gcd b u:Int))) (Int.gcd b u:Int) #[0];have lA:((Int.gcd (t*(u/(Int.gcd b u:Int))+o*(b/(Int.gcd b u:Int))) (Int.gcd b u:Int):Nat):Int).natAbs<2^7900:=CM #[0] sA;generalize hT:t*(u/(Int.gcd b u:Int))+o*(b/(Int.gcd b u:Int))=T at *;generalize hl:(Int.gcd T (Int.gcd b u:Int):Int)=l at *;have lD:CDivL u l:=⟨by omega,jP lA #[1]⟩;refine⟨_,rfl,_,rfl,_,_,rfl,rfl,lD,_,rfl,_,rfl,_,_,rfl,rfl,sD,_,rfl,_,rfl,_,_,rfl,rfl,lD,_,_,rfl,rfl,⟨jP (qY f1.sb s1) #[1],jP (qY f2.sb #[0]) #[1]⟩,uX,λr H' n s e=>?_⟩
  refine k r H' n s ?_;have bu:=nZ f1.pos f2.pos;show H' r=_;rw[e,vJ bu,xQ bu];dsimp only;rw[hT,m.1,m.2]
open LwQ LwV
end Lw
namespace LwQ
def fv(t b:Int):Rat:=(t:Rat)/(b:Rat)
theorem cne{b:Int}(h:0<b):(b:Rat)≠0:=by
 intro z;have:b=0:=Rat.intCast_inj.mp (by rw[z];rfl);omega
theorem fv_eq{t b o u:Int}(hb:0<b)(hu:0<u)(h:t*u=o*b):fv t b=fv o u:=by
 have h1:=cne hb;have h2:=cne hu;have h3:(t:Rat)*(u:Rat)=(o:Rat)*(b:Rat):=by rw[<-Rat.intCast_mul,<-Rat.intCast_mul,h]
 unfold fv
 grind
theorem YH{t b o u:Int}(hb:0<b)(hu:0<u)(h:fv t b=fv o u):t*u=o*b:=by
 have h1:=cne hb;have h2:=cne hu;unfold fv at h;have h3:(t:Rat)*(u:Rat)=(o:Rat)*(b:Rat):=by grind
 rw[<-Rat.intCast_mul,<-Rat.intCast_mul]at h3;exact Rat.intCast_inj.mp h3
theorem fv_add{t b o u:Int}(hb:0<b)(hu:0<u):fv (t*u+o*b) (b*u)=fv t b+fv o u:=by
 have h1:=cne hb;have h2:=cne hu;unfold fv;rw[Rat.intCast_add,Rat.intCast_mul,Rat.intCast_mul,Rat.intCast_mul]
 grind
theorem fv_mul{t b o u:Int}(hb:0<b)(hu:0<u):fv (t*o) (b*u)=fv t b*fv o u:=by
 have h1:=cne hb;have h2:=cne hu;unfold fv;rw[Rat.intCast_mul,Rat.intCast_mul]
 grind
theorem CS{b t u:Int}(g:Int.gcd t b=1)(h:b∣t*u):b∣u:=by
 have h:=Int.natAbs_dvd_natAbs.mpr h;rw[mQ]at h;have c:Nat.Coprime b.natAbs t.natAbs:=by
  have:Nat.gcd t.natAbs b.natAbs=1:=g;rw[Nat.gcd_comm]at this;exact this
 exact Int.natAbs_dvd_natAbs.mp (c.dvd_of_dvd_mul_left h)
theorem XG{t b o u:Int}(hb:0<b)(hu:0<u)(g1:Int.gcd t b=1)(g2:Int.gcd o u=1)(h:t*u=o*b):t=o/\b=u:=by
 have d1:b∣u:=by
  have:b∣t*u:=⟨o,by rw[h,nW]⟩;exact CS g1 this
 have d2:u∣b:=by
  have:u∣o*b:=⟨t,by rw[<-h,nW]⟩;exact CS g2 this
 have e:b=u:=Int.dvd_antisymm #[0] #[0] d1 d2;subst e;exact⟨Int.eq_of_mul_eq_mul_right #[0] h,rfl⟩
theorem xT(x:Rat):fv x.num x.den=x:=by
 unfold fv;have:=Rat.num_divInt_den x;rw[Rat.divInt_eq_div]at this;exact this
theorem qJ(x:Rat):0<(x.den:Int)/\Int.gcd x.num x.den=1:=⟨by have:=x.den_pos;omega,x.reduced⟩
theorem WR{t b:Int}(hb:0<b)(g:Int.gcd t b=1):(fv t b).num=t/\((fv t b).den:Int)=b:=by
 have n:=qJ (fv t b);have e:=YH n.1 hb (xT (fv t b));exact XG n.1 hb n.2 g e
def Wh(D:Int)(x:Rat):Prop:=∃z:Int,x*(D:Rat)=(z:Rat)
theorem Wh.dvd{D t b:Int}(hb:0<b)(g:Int.gcd t b=1)(h:Wh D (fv t b)):b∣D:=by
 obtain⟨z,hz⟩:=h;have h1:=cne hb;have e:(t:Rat)*(D:Rat)=(z:Rat)*(b:Rat):=by unfold fv at hz;grind
 rw[<-Rat.intCast_mul,<-Rat.intCast_mul]at e;have e:=Rat.intCast_inj.mp e;have:b∣t*D:=⟨z,by rw[e,nW]⟩;exact CS g this
theorem Wh.of{t b:Int}(hb:0<b):Wh b (fv t b):=⟨t,by have h1:=cne hb;unfold fv;grind⟩
end LwQ
namespace Lw
open PySem PySem.Spec PyProof.Rows L2 LwQ
theorem SR{n d:Int}(hd:0<d):yG n d*d=n*yZ n d:=by
 rw[vJ hd,xQ hd];obtain⟨a,ha⟩:=mJ (a:=n) (b:=d);obtain⟨b,hb⟩:=mC (a:=n) (b:=d);have g1:=LwM.vE n d hd;generalize (Int.gcd n d:Int)=g at ha hb g1;subst ha hb;rw[Int.mul_ediv_cancel_left _ #[0],Int.mul_ediv_cancel_left _ #[0]]
 grind
theorem KQ{n d:Int}(hd:0<d):0<yZ n d:=by
 have g1:=LwM.vE n d hd;rw[xQ hd];exact Int.ediv_pos_of_pos_of_dvd hd #[0] (mC ..)
theorem PU{n d:Int}(hd:0<d):Int.gcd (yG n d) (yZ n d)=1:=by
 have g1:=LwM.vE n d hd;rw[vJ hd,xQ hd];exact Int.gcd_ediv_gcd_ediv_gcd #[0]
theorem lowT_le{n d:Int}(hd:0<d):(yG n d).natAbs<=n.natAbs:=by
 rw[vJ hd];exact LwM.AI _ _ (LwM.vE n d hd)
theorem fv_low{n d:Int}(hd:0<d):fv (yG n d) (yZ n d)=fv n d:=fv_eq (KQ hd) hd (SR hd)
theorem cross{x:Rat}{t b:Int}(hb:0<b)(h:x=fv t b):x.num*b=t*x.den:=by
 have n:=qJ x;exact YH n.1 hb (by rw[xT,h])
def SzR(n:Nat)(x:Rat):Prop:=x.num.natAbs<2^n/\x.den<2^n
theorem SzR.fr{n:Nat}{x:Rat}(h:SzR n x)(k:n<=7900):FrOk 7900 x.num x.den:=
 ⟨(qJ x).1,(qJ x).2,jP h.1 k,jP (by rw[Int.natAbs_natCast];exact h.2) k⟩
theorem FC{H:Hp}{r:Addr}{N D:Int}{z:Rat}(h:At2 H r (yG N D) (yZ N D))(hD:0<D)(e:fv N D=z):At2 H r z.num z.den:=by
 have nm:=WR (KQ (n:=N) hD) (PU hD);rw[fv_low hD,e]at nm;unfold At2;rw[nm.1,nm.2];exact h
theorem at_lowN{H:Hp}{r:Addr}{N D:Int}{z:Rat}(h:At2 H r (yG N D) (yZ N D))(hD:D≠0)(e:fv N D=z):At2 H r z.num z.den:=by
 by_cases p:0<D
 ·exact FC h p e
 ·have q:D<0:=by omega
  rw[<-(CH q).1,<-(CH q).2]at h;refine FC h #[0] ?_;rw[<-e];unfold fv;rw[Rat.intCast_neg,Rat.intCast_neg];have:(D:Rat)≠0:=λz=>hD (Rat.intCast_inj.mp (by rw[z];rfl))
  grind
theorem QR{x:Rat}{t b:Int}(hb:0<b)(h:x=fv t b):(x.den:Int)∣b/\x.num.natAbs<=t.natAbs:=by
 have n:=qJ x;have d:(x.den:Int)∣b:=Wh.dvd n.1 n.2 (by rw[xT,h];exact Wh.of hb);refine⟨d, ?_⟩;obtain⟨k,hk⟩:=d;have c:=cross hb h;have k0:k≠0:=λz=>by rw[z,Int.mul_zero]at hk;omega
 have:x.num*k=t:=by
  have e:x.den*(x.num*k)=x.den*t:=by rw[hk]at c;grind
  exact Int.eq_of_mul_eq_mul_left #[0] e
 rw[<-this,mQ];exact Nat.le_mul_of_pos_right _ #[0]
structure Ov(D:Int)(n:Nat)(x:Rat):Prop where
 ex:∃z:Int,x=fv z D/\z.natAbs<=2^n
theorem Ov.sz{D:Int}{n d k:Nat}{x:Rat}(h:Ov D n x)(hD:0<D)(hd:D.natAbs<=2^d)(h1:n<k)(h2:d<k):SzR k x:=by
 obtain⟨z,e,hz⟩:=h.ex;have q:=QR hD e;have l:x.den<=D.natAbs:=by
  have:=Int.natAbs_dvd_natAbs.mpr q.1;rw[Int.natAbs_natCast]at this;exact Nat.le_of_dvd #[0] this
 exact⟨gU (nN q.2 hz) (gP #[1] h1),gU (nN l hd) (gP #[1] h2)⟩
theorem Ov.div{D c:Int}{n:Nat}{x:Rat}(h:Ov D n x)(hD:0<D)(hc:c≠0):Ov (D*(c.natAbs:Int)) n (x/((c:Int):Rat)):=by
 obtain⟨z,e,hz⟩:=h.ex;have h1:=cne hD;have h2:(c:Rat)≠0:=λy=>hc (Rat.intCast_inj.mp (by rw[y];rfl));by_cases p:0<c
 ·refine⟨z, ?_,hz⟩;rw[show(c.natAbs:Int)=c by omega,e];unfold fv;rw[Rat.intCast_mul]
  grind
 ·refine⟨-z, ?_,by rw[mT];exact hz⟩;rw[show(c.natAbs:Int) = -c by omega,e];unfold fv;rw[Rat.intCast_mul,Rat.intCast_neg,Rat.intCast_neg]
  grind
theorem IV(i:Int):((i:Int):Rat).num=i/\(((i:Int):Rat).den:Int)=1:=⟨Rat.num_intCast i,by rw[Rat.den_intCast];rfl⟩
theorem NC{i:Int}{n:Nat}(h:i.natAbs<2^n)(hn:0<n):SzR n ((i:Int):Rat):=⟨by rw[(IV i).1];exact h,by rw[Rat.den_intCast];exact Nat.one_lt_two_pow #[0]⟩
def NumK(K:tL)(H:Hp)(v:V)(x:Rat):Prop:=∃p,v=.ref p/\SqT K H p [.int x.num,.int x.den]
theorem NumK.same{K:tL}{H H':Hp}{v:V}{x:Rat}(h:NumK K H v x)(s:Same H H'):NumK K H' v x:=let ⟨p,e,q⟩:=h;⟨p,e,yM s q⟩
theorem HU{K:tL}{H:Hp}{p:Addr}{i:Int}(h:SqT K H p [.int i,.int 1]):SqT K H p [.int ((i:Int):Rat).num,.int ((i:Int):Rat).den]:=by rw[(IV i).1,(IV i).2];exact h
theorem addAt{H:Hp}{r:Addr}{x y:Rat}(e:At2 H r (yG (x.num*y.den+y.num*x.den) (x.den*y.den)) (yZ (x.num*y.den+y.num*x.den) (x.den*y.den))):At2 H r (x+y).num (x+y).den:=
 FC e (nZ (qJ x).1 (qJ y).1) (by rw[fv_add (qJ x).1 (qJ y).1,xT,xT])
theorem mulAt{H:Hp}{r:Addr}{x y:Rat}(e:At2 H r (yG (x.num*y.num) (x.den*y.den)) (yZ (x.num*y.num) (x.den*y.den))):At2 H r (x*y).num (x*y).den:=
 FC e (nZ (qJ x).1 (qJ y).1) (by rw[fv_mul (qJ x).1 (qJ y).1,xT,xT])
theorem WS{y:Rat}(ny:y≠0):y.num≠0:=λz=>ny (by rw[<-xT y,z];unfold fv;rw[show((0:Int):Rat)=0 from rfl,Rat.div_def,Rat.zero_mul])
theorem divAt{H:Hp}{r:Addr}{x y:Rat}(ny:y≠0)(e:At2 H r (yG (x.num*y.den) (x.den*y.num)) (yZ (x.num*y.den) (x.den*y.num))):At2 H r (x/y).num (x/y).den:=by
 have yn:=WS ny;refine at_lowN e (Int.mul_ne_zero (by have:=(qJ x).1;omega) yn) ?_;have h1:=cne (qJ x).1;have h2:=cne (qJ y).1;have h3:((y.num:Int):Rat)≠0:=λz=>yn (Rat.intCast_inj.mp (by rw[z];rfl))
 conv=>rhs;rw[<-xT x,<-xT y]
 unfold fv;rw[Rat.intCast_mul,Rat.intCast_mul]
 grind
end Lw
namespace Lw
open PySem PySem.Spec PyProof.Rows L2
theorem kD{H H':Hp}{l:Addr}{o:HO}(s:Same H H')(n:H l=none):Same H (upd H' l o):=λc u h=>by
 rw[jG (jQ h n)];exact s c u h
open LwS
theorem Paired.to{α β:Type}{F G:α->β->Prop}(f:∀a b,F a b->G a b):∀{l₁:List α} {l₂:List β},Paired F l₁ l₂->Paired G l₁ l₂
 | _,_,.nil=>.nil
 | _,_,.cons h t=>.cons (f _ _ h) (Paired.to f t)
theorem Paired.at{α β:Type}{F:α->β->Prop} :∀{l₁:List α} {l₂:List β} {i:Nat} {x:α},Paired F l₁ l₂->l₁[i]? = some x->∃y,l₂[i]? = some y/\F x y
 | _,_,_,_,.nil,h=>by simp at h
 | _,_,0,_,.cons h t,e=>by
  cases (Option.some.inj e);exact⟨_,rfl,h⟩
 | _,_,i+1,_,.cons h t,e=>Paired.at t (i:=i) e
structure CmI(F:Nat->List V)(q:Addr)(H1:Hp)(i:Nat)(ys:List V)(H2:Hp):Prop where
 s:Same H1 H2
 e:H2 q=some (.lst ys)
 y:ys=F i
structure TAt(H:Hp)(b c:Addr)(x:Trm):Prop where
 pw:H b=some (.tup (x.ns.map V.int))
 nb:At2 H c x.t x.b
theorem TAt.map{H H':Hp}{b c:Addr}{x:Trm}(h:TAt H b c x)(k:∀a xs,H a=some (.tup xs)->H' a=some (.tup xs)):TAt H' b c x:=⟨k _ _ h.pw,k _ _ h.nb⟩
structure TrmV(H:Hp)(v:V)(x:Trm):Prop where
 ex:∃r b c:Addr,v=.ref r/\H r=some (.tup [.ref b,.ref c])/\TAt H b c x
theorem TrmV.map{H H':Hp}{v:V}{x:Trm}(h:TrmV H v x)(k:∀a xs,H a=some (.tup xs)->H' a=some (.tup xs)):TrmV H' v x:=by
 obtain⟨r,b,c,e1,e2,e3⟩:=h.ex;exact⟨r,b,c,e1,k _ _ e2,e3.map k⟩
structure Poly(H:Hp)(p:Addr)(ad:Nat)(ts:List Trm):Prop where
 ex:∃(q:Addr) (xs:List V),H p=some (.tup [.int ad,.ref q])/\H q=some (.tup xs)/\Paired (TrmV H) xs ts
theorem Poly.map{H H':Hp}{p:Addr}{ad:Nat}{ts:List Trm}(h:Poly H p ad ts)(k:∀a xs,H a=some (.tup xs)->H' a=some (.tup xs)):Poly H' p ad ts:=by
 obtain⟨q,xs,e1,e2,e3⟩:=h.ex;exact⟨q,xs,k _ _ e1,k _ _ e2,Paired.to (λ_ _ h=>h.map k) e3⟩
theorem Poly.same{H H':Hp}{p:Addr}{ad:Nat}{ts:List Trm}(h:Poly H p ad ts)(s:Same H H'):Poly H' p ad ts:=h.map λ_ _ e=>s _ _ e
end Lw
namespace Lw
open PySem PySem.Spec PyProof.Rows L2 LwQ LwV
def pk(ns:List Int):Int:=ns.foldl (λk n=>k*256+n) 0
theorem yA(ns:List Int)(n:Int):pk (ns++[n])=pk ns*256+n:=by
 unfold pk;rw[List.foldl_append]
 rfl
theorem pk_take{ns:List Int}{i:Nat}{n:Int}(h:ns[i]? = some n):pk (ns.take (i+1))=pk (ns.take i)*256+n:=by
 rw[hW,h];exact yA ..
def Byt(ns:List Int):Prop:=∀n∈ns,0<=n/\n<256
theorem Byt.take{ns:List Int}(h:Byt ns)(i:Nat):Byt (ns.take i):=λn hn=>h n (gR hn)
theorem VT:∀{ns:List Int},Byt ns->0<=pk ns:=fun {ns} =>by
 have key:∀(k:Int) (l:List Int),0<=k->(∀n∈l,0<=n/\n<256)->0<=l.foldl (λk n=>k*256+n) k:=λk l=>by
  induction l generalizing k with
  | nil=>exact λh _=>h
  | cons a l ih=>
   intro h0 h1;refine ih _ ?_ λn hn=>h1 n (gN _ hn);have:=h1 a (gZ ..);show 0<=k*256+a;omega
 exact key 0 ns (tD _)
theorem CB{ns:List Int}{n:Int}(h:0<=n/\n<256):pk (ns++[n])%256=n/\pk (ns++[n])/256=pk ns:=by
 rw[yA];omega
theorem xX{α:Type}{l:List α}{n:Nat}(h:l.length=n+1):∃m y,l=m++[y]/\m.length=n:=by
 rcases List.eq_nil_or_concat l with z | ⟨m,y,z⟩
 ·rw[z]at h;cases h
 ·rw[List.concat_eq_append]at z;exact⟨m,y,z,by rw[z,List.length_append]at h;simpa using h⟩
theorem AM{l:List Int}{a:Int}(h:Byt (l++[a])):Byt l/\0<=a/\a<256:=⟨λn hn=>h n (List.mem_append_left _ hn),h a (gJ _ (gY.mpr rfl))⟩
theorem VU:∀(n:Nat) {ns:List Int},ns.length=n->Byt ns->pk ns<256^n
 | 0,ns,hl,_=>by rw[List.length_eq_zero_iff.mp hl];decide
 | n+1,ns,hl,h=>by
  obtain⟨m,y,rfl,hm⟩:=xX hl;obtain⟨h1,h2⟩:=AM h;have:=VU n hm h1;rw[yA,Int.pow_succ];omega
theorem uA:∀(n:Nat) {a b:List Int},a.length=n->b.length=n->Byt a->Byt b->pk a=pk b->a=b
 | 0,a,b,h1,h2,_,_,_=>by rw[List.length_eq_zero_iff.mp h1,List.length_eq_zero_iff.mp h2]
 | n+1,a,b,h1,h2,ha,hb,e=>by
  obtain⟨m,y,rfl,hm⟩:=xX h1;obtain⟨m',y',rfl,hm'⟩:=xX h2;obtain⟨k1,k2⟩:=AM ha;obtain⟨k3,k4⟩:=AM hb;have p1:=CB (ns:=m) k2;have p2:=CB (ns:=m') k4;rw[e]at p1;rw[p1.1.symm.trans p2.1,uA n hm hm' k1 k3 (p1.2.symm.trans p2.2)]
theorem zW{ns:List Int}(h:Byt ns)(l:ns.length<=4):(pk ns).natAbs<2^32:=by
 have h0:=VT h;have h1:=VU _ rfl h;have:(256:Int)^ns.length<=256^4:=by
  obtain h | h | h | h | h:ns.length=0∨ns.length=1∨ns.length=2∨ns.length=3∨ns.length=4:=by omega
  all_goals rw[h];decide
 have:(256:Int)^4=2^32:=by decide
 omega
def DR(K:tL):Sp:=λvs H Q _=>∃(b:Addr) (ns:List Int),vs=[.ref b]/\SqT K H b (ns.map V.int)/\Byt ns/\ns.length<=4/\Q (.int (pk ns)) H
inductive PkI(H:Hp)(b:Addr)(ns:List Int)(i:Nat):L2.St->Hp->Prop where
 | mk {u:Option V} :PkI H b ns i [some (.ref b),some (.int (pk (ns.take i))),u] H
def spUnpk:Sp:=λvs H Q _=>∃(ns:List Int),vs=[.int (pk ns),.int ns.length]/\Byt ns/\ns.length<=4/\∀(r:Addr) (H':Hp),H r=none->Same H H'->H' r=some (.tup (ns.map V.int))->Q (.ref r) H'
inductive UpI(H:Hp)(l:Addr)(ns:List Int)(i:Nat):L2.St->Hp->Prop where
 | mk {u:Option V} {H':Hp} (s:Same H H') (e:H' l=some (.lst (((ns.reverse).take i).map V.int))):UpI H l ns i [some (.int (pk (ns.take (ns.length-i)))),some (.int ns.length),some (.ref l),u] H'
variable{P:Program}{w:World}{K:tL}{mg:Str->Option Value}{base:Heap}{f fd:_}
theorem scPk:FnScope ["powers","key","power"] ["powers"] (jK uO):=scK (by decide +kernel)
theorem SL(F:Fun K "packed" "packed" uO f fd)(T:Txt mg):FnOk P w K mg base CX0 1 f fd ["powers"] (DR K):=by
 obtain⟨tp,hp⟩:=T.pack;refine F.ok scPk (λvs H Q E h=>?_) #[3]
 ·obtain⟨b,ns,rfl,_⟩:=h
  rfl
 ·obtain⟨b,ns,rfl,hb,hB,l4,go⟩:=h;refine⟨_,jD (jL (i:=1) scPk.nd rfl (Or.inl rfl) jB) (jD (kU PassesOwn.never rfl (AU (pv 0)) (jJ (i:=2) scPk.nd rfl (Or.inl rfl)) (jF (jL (i:=1) scPk.nd rfl (Or.inl rfl) (jH kJ (jH qI (pv 1) (kF (v:=.int 256) (by rfl) hp ⟨_,rfl⟩)) (pv 2))))) (jF (jO (pv 1)))), ?_⟩;try dsimp only[cxK]
  refine⟨_,rfl,b,rfl,⟨_,hb⟩,CO (K:=K) (a:=b) (xs:=ns.map V.int) (PkI H b ns) .mk (λi σ H1 _ h=>?_) (λi x σ H1 hx h=>?_) (fun σ H1 h=>?_)⟩
  ·obtain⟨⟩:=h;exact hb
  ·obtain⟨⟩:=h;rw[hU]at hx;obtain⟨n,hn,rfl⟩:=Option.map_eq_some_iff.mp hx;have sm:=zW (hB.take i) (by rw[mD];omega);refine⟨_,rfl,_,_,rfl,rfl,⟨jP sm #[1],jP (m:=9) #[1] #[1]⟩,_,rfl,_,_,rfl,rfl, ?_⟩;have e:=pk_take hn;dsimp only[jT];rw[<-e];exact .mk
  ·obtain⟨⟩:=h;rw[mL,mG];exact⟨_,rfl,go⟩
theorem scUp:FnScope ["key","many","powers","letter"] ["key","many"] (jK OI):=scK (by decide +kernel)
theorem ok_unpk(F:Fun K "unpacked" "unpacked" OI f fd)(T:Txt mg):FnOk P w K mg base CX0 1 f fd ["key","many"] spUnpk:=by
 obtain⟨tp,hp⟩:=T.pack;refine F.ok scUp (λvs H Q E h=>?_) #[3]
 ·obtain⟨ns,rfl,_⟩:=h
  rfl
 ·obtain⟨ns,rfl,hB,l4,go⟩:=h;refine⟨_,jD (jL (i:=2) scUp.nd rfl (Or.inl rfl) (vL jC)) (jD (kU PassesOwn.never rfl (qV (by rfl) T.rng (jA (pv 1) jC)) (jJ (i:=3) scUp.nd rfl (Or.inl rfl)) (jD (xY (WB PySem.F.plainAttrs_list PySem.F.slot_list_append PySem.F.type_list_append yS (pv 2) (jA (jH vA (pv 0) (kF (v:=.int 256) (by rfl) hp ⟨_,rfl⟩)) jC))) (jF (jL (i:=0) scUp.nd rfl (Or.inl rfl) (jH LwD.AB (pv 0) (kF (v:=.int 256) (by rfl) hp ⟨_,rfl⟩)))))) (jF (jO (qF qX (by rfl) T.tup boot_tuple (jA (WC (pv 2) (vR (FR AQ jB))) jC))))), ?_⟩;try dsimp only[cxK]
  refine⟨uV,λl H1 n1 s1 e1=>?_⟩;refine⟨_,rfl,_,rfl,by omega,by omega,qW (n:=ns.length) (UpI H l ns) ?_ (λi σ H2 hi h=>?_) (fun σ H2 h=>?_)⟩
  ·have z:UpI H l ns 0 [some (.int (pk (ns.take (ns.length-0)))),some (.int ns.length),some (.ref l),none] H1:=.mk s1 (by rw[List.take_zero];exact e1);rw[Nat.sub_zero,mG]at z;exact z
  ·obtain⟨s2,e2⟩:=h;obtain⟨m,y,em,hm⟩:=xX (l:=ns.take (ns.length-i)) (n:=ns.length-(i+1)) (by rw[mD];omega);have hBm:=hB.take (ns.length-i);rw[em]at hBm;obtain⟨b1,b2⟩:=AM hBm;have p1:=CB (ns:=m) b2;have em':m=ns.take (ns.length-(i+1)):=by
    have:=congrArg (List.take (ns.length-(i+1))) em;rw[List.take_take,Nat.min_eq_left #[0],<-hm,List.take_left' rfl]at this;rw[<-this,hm]
   have sm:=zW (hB.take (ns.length-i)) (by rw[mD];omega);rw[em]at sm ⊢;have lt:=mD (i:=i) (l:=ns.reverse);rw[List.length_reverse]at lt;refine⟨_,rfl,.inl ⟨rfl,_,SqL.of e2⟩,_,rfl,_,_,rfl,rfl,(by show(0:Int)<256;decide),l,_,_,rfl,rfl,e2,by rw[mL,lt,sizeLine_eq];omega, ?_⟩;refine⟨_,rfl,_,_,rfl,rfl,LwD.zJ (m:=32) #[1] #[1] sm, ?_⟩;dsimp only[jT];rw[p1.1,p1.2,em'];refine .mk (kD s2 n1) ?_;have g:ns.reverse[i]? = some y:=by
    rw[List.getElem?_reverse #[0]];have g2:(ns.take (ns.length-i))[ns.length-1-i]? = some y:=by
     rw[em,uZ #[0]];have:ns.length-1-i-m.length=0:=by omega
     rw[this]
     rfl
    rw[gE #[0]]at g2;exact g2
   rw[jE,hW,g,mM]
   rfl
  ·obtain⟨s2,e2⟩:=h;rw[gI (by rw[List.length_reverse];exact nX _)]at e2;refine⟨_,rfl,_,rfl,_,rfl,rfl,l,_,rfl,SqL.of e2,λl2 H3 n3 s3 e3=>⟨l2,_,rfl,.inl ⟨SqL.of e3,λr nr=>?_⟩⟩⟩;have e:((ns.reverse).map V.int).reverse=ns.map V.int:=by rw[List.map_reverse,List.reverse_reverse]
   rw[e];exact go r _ ((s2.trans s3).free nr) ((s2.trans s3).trans (jY _ nr)) jE
theorem Paired.app{α β:Type}{F:α->β->Prop} :∀{a b:List α} {c d:List β},Paired F a c->Paired F b d->Paired F (a++b) (c++d)
 | _,_,_,_,.nil,h=>h
 | _,_,_,_,.cons h t,k=>.cons h (Paired.app t k)
abbrev Tb:=List (Int×Rat)
def tv(T:Tb)(k:Int):Rat:=((T.find? λe=>decide (e.1=k)).map (·.2)).getD 0
def xM(T:Tb)(k:Int)(x:Rat):Tb:=if (T.any λe=>decide (e.1=k))=true then T.map (λe=>if e.1=k then(e.1,x)else e)else T++[(k,x)]
theorem kX(e:Int×Rat)(T:Tb)(k:Int):tv (e::T) k=if e.1=k then e.2 else tv T k:=by
 unfold tv;rw[List.find?_cons];by_cases h:e.1=k
 ·rw[tK h];simp [h]
 ·rw[tJ h];simp [h]
theorem xL:∀{T:Tb} {k:Int},k∉T.map (·.1)->tv T k=0
 | [],_,_=>rfl
 | e::T,k,h=>by
  rw[kX,tJ (λz=>h (by simp [z])),xL (λz=>h (by simp at z ⊢;exact .inr z))]
theorem LT:∀(T:Tb) (k:Int) (x:Rat) (j:Int),k∉T.map (·.1)->tv (T++[(k,x)]) j=if j=k then x else tv T j
 | [],k,x,j,_=>by
  show tv [(k,x)] j=_;rw[kX];by_cases h:k=j
  ·rw[tK h,tK h.symm]
  ·rw[tJ h,tJ (Ne.symm h)]
 | e::T,k,x,j,hk=>by
  have ih:=LT T k x j (λz=>hk (by simp at z ⊢;exact .inr z));show tv (e::(T++[(k,x)])) j=_;rw[kX,kX,ih];by_cases h:e.1=j
  ·rw[tK h,tK h,tJ (λz=>hk (by simp [h,z]))]
  ·rw[tJ h,tJ h]
theorem LR:∀(T:Tb) (k:Int) (x:Rat) (j:Int),k∈T.map (·.1)->tv (T.map (λe=>if e.1=k then(e.1,x)else e)) j=if j=k then x else tv T j
 | [],k,x,j,h=>nomatch h
 | e::T,k,x,j,hk=>by
  rw[mW,kX,kX];by_cases h:e.1=k
  ·rw[tK h];by_cases q:e.1=j
   ·rw[tK q,tK (q.symm.trans h)]
   ·rw[tJ q,tJ (λz=>q (h.trans z.symm)),tJ q];by_cases r:k∈T.map (·.1)
    ·rw[LR T k x j r,tJ (λz=>q (h.trans z.symm))]
    ·have:T.map (λe=>if e.1=k then(e.1,x)else e)=T:=by
      conv=>rhs;rw[<-List.map_id T]
      refine List.map_congr_left λa ha=>?_;rw[tJ (λz=>r (by rw[<-z];exact List.mem_map_of_mem ha))]
      rfl
     rw[this]
  ·rw[tJ h];have r:k∈T.map (·.1):=by
    rcases nP.mp hk with⟨a,ha,e1⟩
    rcases mX.mp ha with rfl | ha
    ·exact absurd e1 h
    ·exact e1▸List.mem_map_of_mem ha
   rw[LR T k x j r];by_cases q:e.1=j
   ·rw[tK q,tJ (λz=>h (q.trans z)),tK q]
   ·rw[tJ q,tJ q]
theorem any_key{T:Tb}{k:Int} :(T.any λe=>decide (e.1=k))=true↔k∈T.map (·.1):=by
 rw[List.any_eq_true,nP];constructor
 ·rintro⟨e,he,h⟩;exact⟨e,he,hX h⟩
 ·rintro⟨e,he,h⟩;exact⟨e,he,mP h⟩
theorem LQ(T:Tb)(k:Int)(x:Rat)(j:Int):tv (xM T k x) j=if j=k then x else tv T j:=by
 unfold xM;by_cases h:(T.any λe=>decide (e.1=k))=true
 ·rw[tK h,LR T k x j (any_key.mp h)]
 ·rw[tJ h,LT T k x j (λz=>h (any_key.mpr z))]
theorem wE(T:Tb)(k:Int)(x:Rat):(xM T k x).map (·.1)=if k∈T.map (·.1)then T.map (·.1)else T.map (·.1)++[k]:=by
 unfold xM;by_cases h:(T.any λe=>decide (e.1=k))=true
 ·rw[tK h,tK (any_key.mp h),nT];refine List.map_congr_left λa _=>?_;show(if a.1=k then(a.1,x)else a).1=a.1;split<;>rfl
 ·rw[tJ h,tJ (λz=>h (any_key.mpr z)),mM]
  rfl
theorem yQ{T:Tb}{k:Int}{x:Rat}(h:(T.map (·.1)).Nodup):((xM T k x).map (·.1)).Nodup:=by
 rw[wE];split
 ·exact h
 ·rename_i n;rw[mB];exact⟨h,by simp,λa ha b hb=>by rw[gY]at hb;rintro rfl;rw[hb]at ha;exact n ha⟩
def NumH(H:Hp)(v:V)(x:Rat):Prop:=∃p,v=.ref p/\At2 H p x.num x.den
theorem NumH.k{K:tL}{H:Hp}{v:V}{x:Rat}(h:NumH H v x):NumK K H v x:=let ⟨p,e,q⟩:=h;⟨p,e,SqT.of q⟩
theorem NumH.same{H H':Hp}{v:V}{x:Rat}(h:NumH H v x)(s:Same H H'):NumH H' v x:=let ⟨p,e,q⟩:=h;⟨p,e,s _ _ q⟩
theorem NumH.of{H:Hp}{p:Addr}{x:Rat}(h:At2 H p x.num x.den):NumH H (.ref p) x:=⟨p,rfl,h⟩
theorem at_updK{H:Hp}{p a:Addr}{ah:List (Key×V)}{xs:List V}{o:HO}(e:H p=some (.dK ah))(h:H a=some (.tup xs)):(upd H p o) a=some (.tup xs):=by rw[jG λz=>by rw[z,e]at h;cases h];exact h
def EntQ(K:tL)(H:Hp)(kv:Key×V)(e:Int×Rat):Prop:=kv.1=.inl e.1/\NumH H kv.2 e.2
theorem EntQ.same{K:tL}{H H':Hp}{kv:Key×V}{e:Int×Rat}(h:EntQ K H kv e)(s:Same H H'):EntQ K H' kv e:=⟨h.1,h.2.same s⟩
theorem QO{K:tL}{H:Hp}{k:Int} :∀{ah:List (Key×V)} {T:Tb},Paired (EntQ K H) ah T->(ah.any λkv=>decide (kv.1=(.inl k:Key)))=(T.any λe=>decide (e.1=k))
 | _,_,.nil=>rfl
 | _,_,.cons (a:=kv) (b:=e) h t=>by
  rw[List.any_cons,List.any_cons,QO t,h.1]
  congr 1
  by_cases q:e.1=k
  ·rw[mP q,mP (by rw[q])]
  ·rw[mN q,mN (λz=>q (Sum.inl.inj z))]
theorem AH{K:tL}{H:Hp}{k:Int}{v:V}{x:Rat}{ah:List (Key×V)}{T:Tb}(h:Paired (EntQ K H) ah T)(n:NumH H v x):Paired (EntQ K H) (qU ah (.inl k) v) (xM T k x):=by
 have key:∀{ah:List (Key×V)} {T:Tb},Paired (EntQ K H) ah T->Paired (EntQ K H) (ah.map λkv=>if kv.1=(.inl k:Key)then(kv.1,v)else kv) (T.map λe=>if e.1=k then(e.1,x)else e):=by
  intro ah T h;induction h with
  | nil=>exact .nil
  | @cons kv e _ _ h _ ih=>
   refine .cons ?_ ih;dsimp only;by_cases q:e.1=k
   ·rw[tK (by rw[h.1,q]),tK q];exact⟨h.1,n⟩
   ·rw[tJ (λz=>q (by rw[h.1]at z;exact Sum.inl.inj z)),tJ q];exact h
 unfold qU xM;rw[QO h];split
 ·exact key h
 ·exact Paired.app h (.cons ⟨rfl,n⟩ .nil)
theorem CP{K:tL}{H:Hp}{k:Int} :∀{ah:List (Key×V)} {T:Tb},Paired (EntQ K H) ah T->(∃v,qR ah (.inl k:Key)=some v/\NumH H v (tv T k)/\k∈T.map (·.1))∨(qR ah (.inl k:Key)=none/\tv T k=0/\k∉T.map (·.1))
 | _,_,.nil=>.inr ⟨rfl,rfl,by simp⟩
 | kv::ah,e::T,.cons h t=>by
  rw[kX];by_cases q:e.1=k
  ·rw[tK q,yJ (by rw[h.1,q])];exact .inl ⟨_,rfl,h.2,by simp [q]⟩
  ·have n:kv.1≠(.inl k:Key):=λz=>q (by rw[h.1]at z;exact Sum.inl.inj z);have e1:qR (kv::ah) (.inl k:Key)=qR ah (.inl k:Key):=by unfold qR;rw[List.find?_cons,mN n]
   rw[tJ q,e1];rcases CP t with⟨v,h1,h2,h3⟩ | ⟨h1,h2,h3⟩
   ·exact .inl ⟨v,h1,h2,gN _ h3⟩
   ·exact .inr ⟨h1,h2,λz=>by rcases mX.mp z with z | z;exact q z.symm;exact h3 z⟩
structure TabQ(K:tL)(H:Hp)(d:Addr)(ah:List (Key×V))(T:Tb):Prop where
 rd:Rd H d (.dK ah)
 pr:Paired (EntQ K H) ah T
section
variable{X:Cx}
def rDictK:List V->Hp->VK->Prop:=λxs H Q=>∃(a:Addr) (ah:List (Key×V)),xs=[.ref a]/\Rd H a (.dK ah)/\New H (.dK ah) Q
theorem NO:CallR X (.type "dict") rDictK:=by
 intro ae s σ H xs us Q I r h;obtain⟨a,ah,rfl,ha,q⟩:=h;obtain⟨u,rfl,ru⟩:=xU r;cases ru;exact YY I ha λp s' n I'=>⟨.ref p,_,I',rfl,q.at n⟩
end
def DW{α:Type}(xs:List α)(Pv:Nat->List (Key×V)->Hp->Prop)(i m:Nat)(ys:List (Key×V))(H:Hp):Prop:=m=xs.length-i/\i<=xs.length/\Pv i ys H
theorem CQ{α:Type}{xs:List α}{Pv:Nat->List (Key×V)->Hp->Prop}{i m:Nat}{ys:List (Key×V)}{H:Hp}{x:α}(h:xs[i]? = some x)(hm:m=xs.length-i)(q:Pv (i+1) ys H):∃m',m'<m/\DW xs Pv (i+1) m' ys H:=by
 have:=(gB.mp h).1;exact⟨_,by omega,rfl,this,q⟩
theorem NH{K:tL}{a:Addr}{xs:List V}{σ0:L2.St}{g:TG}{tk tx:TE}{Q:VK}{p:Addr}{H':Hp}(Pv:Nat->List (Key×V)->Hp->Prop)(hz:xs.length<sizeLine)(h0:Pv 0 [] H')(hl:∀i ys H2,Pv i ys H2->SqT K H2 a xs/\H2 p=some (.dK ys)/\ys.length<=i)
  (hs:∀i m ys x H2,xs[i]? = some x->m=xs.length-i->Pv i ys H2->g x σ0 H2 fun σ4 H4=>Keep σ0 σ4/\tk σ4 H4 λy H5=>tx σ4 H5 λv H6=>∃k,y=kV k/\H6 p=some (.dK ys)/\∃m',m'<m/\DW xs Pv (i+1) m' (qU ys k v) (upd H6 p (.dK (qU ys k v))))
  (hd:∀ys H2,Pv xs.length ys H2->Q (.ref p) H2):DCompGoK σ0 (Itt K a) g tk tx Q p H':=by
 refine⟨DW xs Pv,⟨_,rfl,nY _,h0⟩, ?_⟩;rintro i m ys H2 ⟨hm,hi,hp⟩;obtain⟨q,e,ly⟩:=hl i ys H2 hp;refine⟨e,by omega, ?_⟩;by_cases hlt:i<xs.length
 ·refine .inr ⟨⟨xs,xs[i],q,by simp [hlt]⟩, ?_⟩;rintro x H3 ⟨rfl,y⟩;exact hs i m ys x _ (y xs q) hm hp
 ·obtain rfl:i=xs.length:=by omega
  exact .inl ⟨⟨xs,q,nX _⟩,hd ys H2 hp⟩
theorem zF{d:Addr}{o:Obj}{ah:List (Key×V)}{σ0:L2.St}{g:TG}{tk tx:TE}{Q:VK}{p:Addr}{H':Hp}(Pv:Nat->List (Key×V)->Hp->Prop)(hz:ah.length<sizeLine)(h0:Pv 0 [] H')(hl:∀i ys H2,Pv i ys H2->H2 d=some (.frz o (.dK ah))/\H2 p=some (.dK ys)/\ys.length<=i)
  (hs:∀i m ys k x c H2,ah[i]? = some (k,x)->m=ah.length-i->Pv i ys H2->H2 c=none->g (.ref c) σ0 (upd H2 c (.tup [kV k,x])) fun σ4 H4=>Keep σ0 σ4/\tk σ4 H4 λy H5=>tx σ4 H5 λv H6=>∃k,y=kV k/\H6 p=some (.dK ys)/\∃m',m'<m/\DW ah Pv (i+1) m' (qU ys k v) (upd H6 p (.dK (qU ys k v))))
  (hd:∀ys H2,Pv ah.length ys H2->Q (.ref p) H2):DCompGoK σ0 (Iti d o ah) g tk tx Q p H':=by
 refine⟨DW ah Pv,⟨_,rfl,nY _,h0⟩, ?_⟩;rintro i m ys H2 ⟨hm,hi,hp⟩;obtain⟨q,e,ly⟩:=hl i ys H2 hp;refine⟨e,by omega, ?_⟩;by_cases hlt:i<ah.length
 ·refine .inr ⟨⟨q,hlt⟩, ?_⟩;rintro v H3 ⟨c,k,x,hc,rfl,hx,rfl⟩;exact hs i m ys k x c _ hx hm hp hc
 ·obtain rfl:i=ah.length:=by omega
  exact .inl ⟨⟨q,rfl⟩,hd ys H2 hp⟩
def TmQ(K:tL)(H:Hp)(v:V)(x:List Int×Rat):Prop:=∃r b c:Addr,v=.ref r/\H r=some (.tup [.ref b,.ref c])/\H b=some (.tup (x.1.map V.int))/\NumH H (.ref c) x.2
theorem TmQ.same{K:tL}{H H':Hp}{v:V}{x:List Int×Rat}(h:TmQ K H v x)(s:Same H H'):TmQ K H' v x:=let ⟨r,b,c,e1,e2,e3,e4⟩:=h;⟨r,b,c,e1,s _ _ e2,s _ _ e3,e4.same s⟩
def Ngt(K:tL)(mg:Str->Option Value):Prop:=∃a,mg "NOUGHT" = some (.ref a)/\∀H,SqT K H a (([0,1]:List Int).map V.int)
structure SumQ(K:tL)(H:Hp)(p:Addr)(ad:Nat)(P:Pl):Prop where
 ex:∃(q:Addr) (xs:List V),H p=some (.tup [.int ad,.ref q])/\H q=some (.tup xs)/\Paired (TmQ K H) xs P
theorem SumQ.same{K:tL}{H H':Hp}{p:Addr}{ad:Nat}{P:Pl}(h:SumQ K H p ad P)(s:Same H H'):SumQ K H' p ad P:=by
 obtain⟨q,xs,e1,e2,e3⟩:=h.ex;exact⟨q,xs,s _ _ e1,s _ _ e2,Paired.to (λ_ _ h=>h.same s) e3⟩
structure PlOk(ad:Nat)(P:Pl):Prop where
 len:∀x∈P,x.1.length=ad
 nn:∀x∈P,∀n∈x.1,0<=n
 deg:∀x∈P,x.1.sum<=16
 ord:(P.map λx=>pk x.1).Pairwise (· < ·)
 nz:∀x∈P,x.2≠0
 few:P.length<=500
 m1:1<=ad
 m4:ad<=4
theorem vD:∀{ns:List Int} {n:Int},(∀x∈ns,0<=x)->n∈ns->n<=ns.sum/\0<=ns.sum
 | [],_,_,h=>nomatch h
 | a::l,n,h,hn=>by
  rw[mZ];have ha:=h a (gZ ..);have hl:0<=l.sum:=by
   match l with
   | []=>exact tD _
   | b::l'=>exact(vD (ns:=b::l') (n:=b) (λx hx=>h x (gN _ hx)) (gZ ..)).2
  rcases mX.mp hn with rfl | hn
  ·omega
  ·have:=(vD (λx hx=>h x (gN _ hx)) hn).1;omega
theorem PlOk.byt{ad:Nat}{P:Pl}(h:PlOk ad P){x:List Int×Rat}(hx:x∈P):Byt x.1:=λn hn=>by
 have h1:=h.nn x hx;have h2:=(vD h1 hn).1;have h3:=h.deg x hx;have h4:=h1 n hn;omega
def jI(P:Pl):Tb:=P.map λx=>(pk x.1,x.2)
theorem qT(P:Pl):(jI P).map (·.1)=P.map λx=>pk x.1:=by unfold jI;rw[nT];rfl
theorem PlOk.nd{ad:Nat}{P:Pl}(h:PlOk ad P):((jI P).map (·.1)).Nodup:=by
 rw[qT];exact h.ord.imp λh=>Int.ne_of_lt h
theorem zT{T:Tb}{k:Int}{x:Rat}(h:k∉T.map (·.1)):xM T k x=T++[(k,x)]:=by
 unfold xM;rw[tJ (λz=>h (any_key.mp z))]
theorem UT{P:Pl}{i:Nat}{x:List Int×Rat}(h:P[i]? = some x)(nd:((jI P).map (·.1)).Nodup):xM (jI (P.take i)) (pk x.1) x.2=jI (P.take (i+1)):=by
 rw[zT,hW,h]
 ·unfold jI;rw[mM]
  rfl
 ·intro z;rw[qT]at z nd;rw[nA]at z;obtain⟨j,hj⟩:=gL.mp z;have hj':j<i:=by
   have:=(gB.mp hj).1;rw[mD]at this;omega
  rw[gE hj']at hj;have hi:(P.map λx=>pk x.1)[i]? = some (pk x.1):=by rw[hU,h];rfl
  have:=(List.getElem?_inj (gB.mp hj).1 nd).mp (hj.trans hi.symm);omega
theorem CZ{ad:Nat} :∀{P:Pl},(∀x∈P,x.1.length=ad/\Byt x.1)->(P.map (·.1)).Nodup->∀{ns:List Int},ns.length=ad->Byt ns->tv (jI P) (pk ns)=cf P ns
 | [],_,_,_,_,_=>rfl
 | x::P,h,nd,ns,hl,hb=>by
  have hx:=h x (gZ ..);rw[mW,List.nodup_cons]at nd;have ih:=CZ (P:=P) (λy hy=>h y (gN _ hy)) nd.2 hl hb;show tv ((pk x.1,x.2)::jI P) (pk ns)=_;rw[kX,xD];by_cases e:x.1=ns
  ·rw[tK (by rw[e]),tK e,NL (λy hy z=>nd.1 (by rw[e,<-z];exact List.mem_map_of_mem hy)),nQ]
  ·rw[tJ (λz=>e (uA _ hx.1 hl hx.2 hb z)),tJ e,Rat.zero_add,ih]
theorem PlOk.ndn{ad:Nat}{P:Pl}(h:PlOk ad P):(P.map (·.1)).Nodup:=by
 have:=h.ord;rw[List.pairwise_map]at this;rw[List.Nodup,List.pairwise_map];exact this.imp λz e=>by rw[e]at z;exact Int.lt_irrefl _ z
theorem PlOk.tv{ad:Nat}{P:Pl}(h:PlOk ad P){ns:List Int}(hl:ns.length=ad)(hb:Byt ns):Lw.tv (jI P) (pk ns)=cf P ns:=CZ (λx hx=>⟨h.len x hx,h.byt hx⟩) h.ndn hl hb
def wO(K:tL):Sp:=λvs H Q _=>∃(p:Addr) (ad:Nat) (P:Pl),vs=[.ref p]/\SumQ K H p ad P/\PlOk ad P/\∀(d:Addr) (ah:List (Key×V)) (H':Hp),H d=none->Same H H'->H' d=some (.dK ah)->Paired (EntQ K H') ah (jI P)->Q (.ref d) H'
theorem EntQ.upd{K:tL}{H:Hp}{p:Addr}{ah:List (Key×V)}{o:HO}(e:H p=some (.dK ah)){kv:Key×V}{x:Int×Rat}(h:EntQ K H kv x):EntQ K (upd H p o) kv x:=let ⟨z1,pz,z2,z3⟩:=h;⟨z1,pz,z2,at_updK e z3⟩
structure TbI(K:tL)(H1:Hp)(d:Addr)(P:Pl)(i:Nat)(ys:List (Key×V))(H2:Hp):Prop where
 s:Same H1 H2
 e:H2 d=some (.dK ys)
 pr:Paired (EntQ K H2) ys (jI (P.take i))
theorem scTab:FnScope ["one"] ["one"] (jK zP):=scK (by decide +kernel)
theorem WI(F:Fun K "table_of" "table_of" zP f fd)(GP:DG P w K mg base 1 "packed" uO ["powers"] (DR K)):FnOk P w K mg base CX0 2 f fd ["one"] (wO K):=by
 refine F.ok scTab (λvs H Q E h=>?_) #[3]
 ·obtain⟨p,ad,PP,rfl,_⟩:=h
  rfl
 ·obtain⟨p,ad,PP,rfl,hS,ok,go⟩:=h;refine⟨_,jF (jO (AV (own:=2) (idx:=[]) (N:=["powers","fraction"]) rfl rfl rfl (by decide +kernel) (by decide +kernel) (λ_ _ h=>nomatch h) (yI rfl) rfl (λ_ _ _ h=>nomatch h) (AU (jR jU (pv 0) jB (λ_ _=>rfl))) (λC fp s2 H2=>show PG (jN _ ["powers","fraction"] _ _ C fp s2 H2) _ (FI K 2 (vX (jT 0) (vX (jT 1) gNil)))from qD (X:=jN _ ["powers","fraction"] _ _ C fp s2 H2) rfl (jM (jJ (i:=0) (show List.Nodup (["powers","fraction"]:List Str) by decide +kernel) rfl (Or.inl rfl) (Or.inr rfl)) (jM (jJ (i:=1) (show List.Nodup (["powers","fraction"]:List Str) by decide +kernel) rfl (Or.inl rfl) (Or.inr rfl)) kP))) (λC fp s2 H2=>cal GP hr (jA (pv 0) jC)) (λC fp s2 H2=>pv 1))), ?_⟩;try dsimp only[cxK]
  obtain⟨q,xs,e1,e2,pr⟩:=hS.ex;have lx:xs.length=PP.length:=Paired.length pr;refine⟨_,rfl,p,_,_,_,rfl,rfl,SqT.of e1,rfl,q,rfl,⟨_,SqT.of e2⟩,λd H1 n1 s1 e3=>?_⟩;refine NH (K:=K) (a:=q) (xs:=xs) (TbI K H d PP) (by rw[lx];exact gU ok.few #[1]) ⟨s1,e3,.nil⟩ (λi ys H2 h=>⟨SqT.of (h.s _ _ e2),h.e, ?_⟩) ?_ ?_
  ·have:=Paired.length h.pr;unfold jI at this;rw[this,mL,mD];omega
  ·intro i m ys x H2 hx hm h;obtain⟨y,hy,r,b,c,rfl,r1,r2,r3⟩:=Paired.at pr hx;have hm':=gM hy;refine⟨r,_,rfl,SqT.of (h.s _ _ r1),rfl,_,_,rfl,_,_,rfl,rfl,KY,_,rfl,b,y.1,rfl,SqT.of (h.s _ _ r2),ok.byt hm',by rw[ok.len y hm'];exact ok.m4,_,rfl,.inl (pk y.1),rfl,h.e,CQ hx hm ⟨kD h.s n1,jE, ?_⟩⟩;have k:=AH (k:=pk y.1) h.pr (r3.same h.s);rw[UT hy ok.nd]at k;exact Paired.to (λkv e z=>z.upd h.e) k
  ·intro ys H2 h;have pr2:=h.pr;rw[lx,mG]at pr2;exact go d ys H2 n1 h.s h.e pr2
theorem scTa:FnScope ["one","other","table","key","fraction"] ["one","other"] (jK uN):=scK (by decide +kernel)
theorem JF{K:tL}{H:Hp}{p:Addr}(h:SqT K H p (([0,1]:List Int).map V.int)):NumK K H (.ref p) 0:=⟨p,rfl,h⟩
structure AddT(T1 T2 T:Tb):Prop where
 nd:(T.map (·.1)).Nodup
 ks:∀k∈T.map (·.1),k∈T1.map (·.1)∨k∈T2.map (·.1)
 ln:T.length<=T1.length+T2.length
 vl:∀k,tv T k=tv T1 k+tv T2 k
theorem wB{T:Tb}{i:Nat}{e:Int×Rat}(h:T[i]? = some e)(nd:(T.map (·.1)).Nodup):e.1∉(T.take i).map (·.1):=λz=>by
 rw[nA]at z;obtain⟨j,hj⟩:=gL.mp z;have hj':j<i:=by
  have:=(gB.mp hj).1;rw[mD]at this;omega
 rw[gE hj']at hj;have hi:(T.map (·.1))[i]? = some e.1:=by rw[hU,h];rfl
 have:=(List.getElem?_inj (gB.mp hj).1 nd).mp (hj.trans hi.symm);omega
theorem AddT.step{T1 T2 T:Tb}{i:Nat}{e:Int×Rat}(A:AddT T1 (T2.take i) T)(h:T2[i]? = some e)(nd:(T2.map (·.1)).Nodup):AddT T1 (T2.take (i+1)) (xM T e.1 (tv T e.1+e.2)):=by
 have nt:=wB h nd;have tk:T2.take (i+1)=T2.take i++[(e.1,e.2)]:=by rw[hW,h];rfl
 refine⟨yQ A.nd,λk hk=>?_, ?_,λk=>?_⟩
 ·rw[wE]at hk;rw[tk,mM];split at hk
  ·rcases A.ks k hk with z | z
   ·exact .inl z
   ·exact .inr (List.mem_append_left _ z)
  ·rcases mO.mp hk with hk | hk
   ·rcases A.ks k hk with z | z
    ·exact .inl z
    ·exact .inr (List.mem_append_left _ z)
   ·exact .inr (gJ _ hk)
 ·have l1:=congrArg List.length (wE T e.1 (tv T e.1+e.2));rw[mL]at l1;have l2:=A.ln;rw[tk,List.length_append,l1];split
  ·rw[mL];omega
  ·rw[List.length_append,mL];show T.length+1<=T1.length+((T2.take i).length+1);omega
 ·rw[LQ,tk,LT _ _ _ _ nt];by_cases q:k=e.1
  ·rw[tK q,tK q,q,A.vl,xL nt,nQ]
  ·rw[tJ q,tJ q,A.vl]
def LP(A:Tb)(e:Int×Rat):Tb:=xM A e.1 (tv A e.1+e.2)
def addT(T1 T2:Tb):Tb:=T2.foldl LP T1
def DO(K:tL):Sp:=λvs H Q _=>∃(a b:Addr) (k1 k2:List (Key×V)) (T1 T2:Tb),vs=[.ref a,.ref b]/\Rd H a (.dK k1)/\H b=some (.dK k2)/\Paired (EntQ K H) k1 T1/\Paired (EntQ K H) k2 T2/\(T1.map (·.1)).Nodup/\(T2.map (·.1)).Nodup/\T1.length+T2.length<=1000/\(∀k,SzR 7900 (tv T1 k))/\(∀e∈T2,SzR 7900 e.2)/\
 ∀(d:Addr) (ah:List (Key×V)) (T:Tb) (H':Hp),H d=none->But b H H'->H' d=some (.dK ah)->Paired (EntQ K H') ah T->AddT T1 T2 T->T=addT T1 T2->Q (.ref d) H'
inductive TaI(K:tL)(H:Hp)(a b d:Addr)(o:Obj)(k2:List (Key×V))(T1 T2:Tb)(i:Nat):L2.St->Hp->Prop where
 | mk {u v:Option V} {H':Hp} {ah:List (Key×V)} {T:Tb} (s:But b H H') (eb:H' b=some (.frz o (.dK k2))) (ed:H' d=some (.dK ah)) (p1:Paired (EntQ K H') ah T) (p2:Paired (EntQ K H') k2 T2) (A:AddT T1 (T2.take i) T) (ft:T=(T2.take i).foldl LP T1):TaI K H a b d o k2 T1 T2 i [some (.ref a),some (.ref b),some (.ref d),u,v] H'
theorem SH(F:Fun K "tables_added" "tables_added" uN f fd)(T:Txt mg)(N:Ngt K mg)(GA:DG P w K mg base 2 "added" JT ["one","other"] (MB K)):FnOk P w K mg base CX0 3 f fd ["one","other"] (DO K):=by
 obtain⟨na,hN,hna⟩:=N;refine F.ok scTa (λvs H Q E h=>?_) #[3]
 ·obtain⟨a,b,k1,k2,T1,T2,rfl,_⟩:=h
  rfl
 ·obtain⟨a,b,k1,k2,T1,T2,rfl,ra,rb,p1,p2,nd1,nd2,ln,s1,s2,go⟩:=h;have hu:_+1<cLine:=gU (Nat.add_le_add_left (by decide:1<=64) _) hr.units;refine⟨_,jD (jL (i:=2) scTa.nd rfl (Or.inl rfl) (qF NO (by rfl) T.dct boot_dict (jA (pv 0) jC))) (jD (kU PassesOwn.never rfl (xO (IL (pv 1))) (qD rfl (jM (jJ (i:=3) scTa.nd rfl (Or.inl rfl)) (jM (jJ (i:=4) scTa.nd rfl (Or.inl rfl)) kP))) (jF (yV hu (pv 2) (pv 3) (cal GA hr (jA (EH hu (pv 2) (pv 3) (kF (v:=.ref na) (by rfl) hN rfl) ⟨rfl,rfl,rfl,rfl⟩) (jA (pv 4) jC))) rfl))) (jF (jO (pv 2)))), ?_⟩;try dsimp only[cxK]
  refine⟨_,rfl,a,k1,rfl,ra,λd H1 n1 e1 ed=>?_⟩;have eb1:=e1 _ _ rb;have db:d≠b:=λz=>by rw[z,rb]at n1;cases n1
  refine⟨_,rfl,b,k2,rfl,eb1,λo=>⟨b,o,k2,rfl,jE, ?_⟩⟩;have up:∀{kv:Key×V} {x:Int×Rat},EntQ K H kv x->EntQ K (upd H1 b (.frz o (.dK k2))) kv x:=λh=>(h.same e1).upd eb1;have b0:But b H (upd H1 b (.frz o (.dK k2))):=λc u h n=>by rw[jG n];exact e1 _ _ h
  refine wU (TaI K H a b d o k2 T1 T2) (.mk (T:=T1) b0 jE (by rw[jG db];exact ed) (Paired.to (λ_ _ h=>up h) p1) (Paired.to (λ_ _ h=>up h) p2) ⟨nd1,λk hk=>.inl hk,Nat.le_add_right ..,λk=>(nQ _).symm⟩ rfl) (λi σ H2 _ h=>?_) (λi k x p σ H2 hx hp h=>?_) (fun σ H2 h=>?_)
  ·obtain⟨_,eb,_⟩:=h;exact eb
  ·obtain⟨s2',eb,ed2,q1,q2,A,ft⟩:=h;rename_i ah TT;obtain⟨e,he,hk,hn⟩:=Paired.at q2 hx;have hk:k=.inl e.1:=hk;subst hk;have s3:Same H2 (upd H2 p (.tup [kV (.inl e.1),x])):=jY _ hp;have e3:(upd H2 p (.tup [kV (.inl e.1),x])) p=some (.tup [kV (.inl e.1),x]):=jE;generalize upd H2 p (.tup [kV (.inl e.1),x])=H3 at s3 e3;refine gT2 (SqT.of e3) rfl ?_;obtain⟨wv,ew,hw⟩:∃wv,(qR ah (.inl e.1:Key)).getD (.ref na)=wv/\NumK K H3 wv (tv TT e.1):=by
    rcases CP (k:=e.1) q1 with⟨v,h1,h2,_⟩ | ⟨h1,h2,_⟩
    ·exact⟨v,by rw[h1];rfl,(h2.same s3).k⟩
    ·exact⟨.ref na,by rw[h1];rfl,by rw[h2];exact JF (hna H3)⟩
   refine⟨_,rfl,d,rfl,.inl ⟨_,.inl (s3 _ _ ed2)⟩,_,rfl,_,DGet.k (k:=.inl e.1) (s3 _ _ ed2),_,rfl, ?_⟩;rw[ew];obtain⟨pw,rfl,hw⟩:=hw;obtain⟨px,rfl,hx2⟩:=hn.same s3;have nt:=wB he nd2;have sz1:SzR 7900 (tv TT e.1):=by rw[A.vl,xL nt,nQ];exact s1 _
   refine⟨pw,px,_,_,_,_,rfl,hw,SqT.of hx2,sz1.fr uU,(s2 e (gM he)).fr uU,λr H4 n4 s4 e4=>?_⟩;have e4:=addAt e4;have ed4:=(s3.trans s4) _ _ ed2;have lk:ah.length=TT.length:=Paired.length q1;have lA:=A.ln;rw[mD]at lA;refine⟨_,rfl,_,rfl,d,_,rfl,DPut.k (k:=.inl e.1) ed4 (by rw[lk,sizeLine_eq];omega), ?_⟩;have u4:∀{kv:Key×V} {x:Int×Rat},EntQ K H2 kv x->EntQ K (upd H4 d (.dK (qU ah (.inl e.1) (.ref r)))) kv x:=λh=>(h.same (s3.trans s4)).upd ed4;refine .mk (T:=xM TT e.1 (tv TT e.1+e.2)) (λc u h n=>?_) ?_ jE ?_ (Paired.to (λ_ _ h=>u4 h) q2) (A.step he nd2) (by rw[hW,he,List.foldl_append,<-ft];rfl)
   ·rw[jG (jQ h n1)];exact(s3.trans s4) _ _ (s2' _ _ h n)
   ·rw[jG (Ne.symm db)];exact(s3.trans s4) _ _ eb
   ·exact Paired.to (λ_ _ h=>h.upd ed4) (AH (Paired.to (λ_ _ h=>h.same (s3.trans s4)) q1) (NumH.of e4))
  ·obtain⟨s2',eb,ed2,q1,q2,A,ft⟩:=h;rw[show k2.length=T2.length from Paired.length p2,mG]at A ft;exact⟨_,rfl,go d _ _ H2 n1 s2' ed2 q1 A ft⟩
theorem DI{cl cells:List (Str×Addr)}(h:∀y∈cl,cells.lookup y.1=some y.2):∀x c,cl.lookup x=some c->cells.lookup x=some c:=λx c e=>h (x,c) (PySem.mem_of_lookup e)
theorem ZQ{X:Cx}{scope:Scope}{own j0 j1:Nat}{N:List Str}{x0 x1:Str}(h0:N[own]? = some x0)(h1:N[own+1]? = some x1)(a:X.N[j0]? = some x0/\X.env.kindOf x0=some .cell/\(relabel scope X.env).names.lookup x0=some .cell/\X.env.scope.names.lookup x0=some .cell)
  (b:X.N[j1]? = some x1/\X.env.kindOf x1=some .cell/\(relabel scope X.env).names.lookup x1=some .cell/\X.env.scope.names.lookup x1=some .cell) :
  ∀(k j:Nat) (x:Str),[j0,j1][k]? = some j->N[own+k]? = some x->X.N[j]? = some x/\X.env.kindOf x=some .cell/\(relabel scope X.env).names.lookup x=some .cell/\X.env.scope.names.lookup x=some .cell:=by
 intro k j x e1 e2
 match k,e1,e2 with
 | 0,e1,e2=>
  cases e1;rw[nV,h0]at e2;cases e2;exact a
 | 1,e1,e2=>
  cases e1;rw[h1]at e2;cases e2;exact b
 | k+2,e1,_=>cases e1
def CW{α:Type}(xs:List α)(Pv:Nat->List V->Hp->Prop)(i m:Nat)(ys:List V)(H:Hp):Prop:=m=xs.length-i/\i<=xs.length/\Pv i ys H
theorem CT{α:Type}{xs:List α}{Pv:Nat->List V->Hp->Prop}{i m:Nat}{ys:List V}{H:Hp}{x:α}(h:xs[i]? = some x)(hm:m=xs.length-i)(q:Pv (i+1) ys H):∃m',m'<m/\CW xs Pv (i+1) m' ys H:=by
 have:=(gB.mp h).1;exact⟨_,by omega,rfl,this,q⟩
theorem BL{K:tL}{a:Addr}{xs:List V}{σ0:L2.St}{g:TG}{tt:TT}{te:TE}{Q:VK}{p:Addr}{H':Hp}(Pv:Nat->List V->Hp->Prop)(hz:xs.length<sizeLine)(h0:Pv 0 [] H')
  (hl:∀i ys H2,Pv i ys H2->SqL K H2 a xs/\H2 p=some (.lst ys)/\ys.length<=i)
  (hs:∀i m ys x H2,xs[i]? = some x->m=xs.length-i->Pv i ys H2->g x σ0 H2 fun σ4 H4=>Keep σ0 σ4/\tt σ4 H4 λb H5=>if b=true then te σ4 H5 λy H6=>H6 p=some (.lst ys)/\∃m',m'<m/\CW xs Pv (i+1) m' (ys++[y]) (upd H6 p (.lst (ys++[y])))else ∃m',m'<m/\CW xs Pv (i+1) m' ys H5)
  (hd:∀ys H2,Pv xs.length ys H2->Q (.ref p) H2):CompGoFI σ0 (Itl K a) g tt te Q p H':=by
 refine⟨CW xs Pv,⟨_,rfl,nY _,h0⟩, ?_⟩;rintro i m ys H2 ⟨hm,hi,hp⟩;obtain⟨q,e,hy⟩:=hl i ys H2 hp;refine⟨e,by omega, ?_⟩;by_cases hlt:i<xs.length
 ·refine .inr ⟨⟨xs,xs[i],q,by simp [hlt]⟩, ?_⟩;rintro x H3 ⟨rfl,y⟩;exact hs i m ys x _ (y xs q) hm hp
 ·obtain rfl:i=xs.length:=by omega
  exact .inl ⟨⟨xs,q,nX _⟩,hd ys H2 hp⟩
def vH(P:Pl):Int:=(P.map λx=>x.1.sum).foldr max 0
theorem AW:∀{l:List Int} {m:Int},(∀x∈l,x<=m)->0<=m->l.foldr max 0<=m
 | [],_,_,h=>h
 | a::l,m,h,h0=>by
  show max a (l.foldr max 0)<=m;have:=AW (l:=l) (λx hx=>h x (gN _ hx)) h0;have:=h a (gZ ..);omega
theorem wD:∀{l:List Int} {x:Int},x∈l->x<=l.foldr max 0
 | a::l,x,h=>by
  show x<=max a (l.foldr max 0);rcases mX.mp h with rfl | h
  ·omega
  ·have:=wD h;omega
theorem YU{P:Pl}{m:Int}(h1:m∈P.map λx=>x.1.sum)(h2:∀y∈P.map (λx=>x.1.sum),y<=m)(h0:0<=m):m=vH P:=Int.le_antisymm (wD h1) (AW h2 h0)
theorem AX{P:Pl}{D:Int}(h:∀x∈P,x.1.sum<=D)(h0:0<=D):vH P<=D:=AW (λy hy=>by obtain⟨x,hx,rfl⟩:=nP.mp hy;exact h x hx) h0
structure PlD(ad D:Nat)(P:Pl):Prop where
 len:∀x∈P,x.1.length=ad
 nn:∀x∈P,∀n∈x.1,0<=n
 deg:∀x∈P,x.1.sum<=D
theorem PlOk.pd{ad:Nat}{P:Pl}(h:PlOk ad P):PlD ad 16 P:=⟨h.len,h.nn,h.deg⟩
def HX(K:tL):Sp:=λvs H Q _=>∃(p:Addr) (ad D:Nat) (P:Pl),vs=[.ref p]/\SumQ K H p ad P/\PlD ad D P/\ad<=4/\D<=1000/\P.length<=1000/\∀H',Same H H'->Q (.int (vH P)) H'
theorem VG:FnScope ["one"] ["one"] (jK wP):=scK (by decide +kernel)
theorem SM(F:Fun K "degree" "degree" wP f fd)(T:Txt mg):FnOk P w K mg base CX0 1 f fd ["one"] (HX K):=by
 refine F.ok VG (λvs H Q E h=>?_) #[3]
 ·obtain⟨p,ad,D,PP,rfl,_⟩:=h
  rfl
 ·obtain⟨p,ad,D,PP,rfl,hP,ok,m4,hD,lP,go⟩:=h;refine⟨_,jF (jO (LwMx.pe_maxD rfl (by rfl) T.max (jA (uR (own:=2) (idx:=[]) (N:=["powers","fraction"]) rfl rfl rfl (by decide +kernel) (by decide +kernel) (λ_ _ h=>nomatch h) (yI rfl) rfl (λ_ _ _ h=>nomatch h) (AU (jR jU (pv 0) jB (λ_ _=>rfl))) (λC fp s2 H2=>show PG (jN _ ["powers","fraction"] _ _ C fp s2 H2) _ (FI K 2 (vX (jT 0) (vX (jT 1) gNil)))from qD (X:=jN _ ["powers","fraction"] _ _ C fp s2 H2) rfl (jM (jJ (i:=0) (show List.Nodup (["powers","fraction"]:List Str) by decide +kernel) rfl (Or.inl rfl) (Or.inr rfl)) (jM (jJ (i:=1) (show List.Nodup (["powers","fraction"]:List Str) by decide +kernel) rfl (Or.inl rfl) (Or.inr rfl)) kP))) (λC fp s2 H2=>kR (show CallR (jN _ ["powers","fraction"] _ _ C fp s2 H2) (.builtin "sum") (VP K)from GJ rfl) (by rfl) T.sum boot_sum (jA (pv 0) jC))) jC) (uP jB pk_nil))), ?_⟩;obtain⟨q,xs,e1,e2,pr⟩:=hP.ex;have lx:xs.length=PP.length:=Paired.length pr;refine⟨_,rfl,p,_,_,_,rfl,rfl,SqT.of e1,rfl,q,rfl,⟨xs,SqT.of e2⟩,λl H1 n1 s1 e3=>?_⟩;refine TR (K:=K) (a:=q) (xs:=xs) (CmI (λk=>(PP.take k).map λx=>V.int x.1.sum) l H) (by rw[lx];exact gU lP #[1]) ⟨s1,e3,rfl⟩ (λi ys H2 h=>⟨SqT.of (h.s _ _ e2),h.e⟩) ?_ ?_
  ·rintro i m ys x H2 hx hm hy ⟨s2,e4,ey⟩;obtain⟨x',hx',r,b,c,rfl,r1,r2,r3⟩:=Paired.at pr hx;have xm:=gM hx';refine⟨r,_,rfl,SqT.of (s2 _ _ r1),rfl,_,_,rfl,_,_,rfl,rfl,KY, ?_⟩;refine⟨_,rfl,b,x'.1,rfl,SqT.of (s2 _ _ r2),λn hn=>⟨ok.nn x' xm n hn, ?_⟩,by rw[ok.len x' xm];omega, ?_⟩
   ·have:=(vD (ok.nn x' xm) hn).1;have:=ok.deg x' xm;omega
   ·refine wW hx hm hy e4 ⟨kD s2 n1,jE, ?_⟩;rw[ey,hW,hx',mM]
    rfl
  ·rintro ys H2 hl ⟨s2,e4,ey⟩;rw[lx,mG]at ey;have hm:ys=(PP.map λx=>x.1.sum).map V.int:=by rw[ey,nT];rfl
   refine⟨0,rfl,l,PP.map (λx=>x.1.sum),rfl,by rw[<-hm];exact e4,λz=>?_,λm h1 h2=>?_⟩
   ·have:PP=[]:=List.map_eq_nil_iff.mp z;have:=go H2 s2;rw[‹PP=[]›]at this;exact this
   ·have h0:0<=m:=by
     obtain⟨x,hx,rfl⟩:=nP.mp h1
     match hh:x.1 with
     | []=>exact tD _
     | n::r=>rw[<-hh];exact(vD (n:=n) (ok.nn x hx) (by rw[hh];exact gZ ..)).2
    rw[YU h1 h2 h0];exact go H2 s2
def unp:Nat->Int->List Int
 | 0,_=>[]
 | n+1,k=>unp n (k/256)++[k%256]
theorem UJ:∀(n:Nat) {ns:List Int},ns.length=n->Byt ns->unp n (pk ns)=ns
 | 0,ns,hl,_=>(List.length_eq_zero_iff.mp hl).symm
 | n+1,ns,hl,h=>by
  obtain⟨m,y,rfl,hm⟩:=xX hl;obtain⟨h1,h2⟩:=AM h;have p:=CB (ns:=m) h2;show unp n (pk (m++[y])/256)++[pk (m++[y])%256]=_;rw[p.1,p.2,UJ n hm h1]
def KyP(ad:Nat)(k:Int):Prop:=∃ns:List Int,ns.length=ad/\(∀n∈ns,0<=n)/\ns.sum<=16/\k=pk ns
theorem wN{ns:List Int}(h:∀n∈ns,0<=n)(h2:ns.sum<=16):Byt ns:=λn hn=>by
 have h3:=(vD h hn).1;have h4:=h n hn;omega
structure SumT(ad:Nat)(T:Tb)(P:Pl):Prop where
 ok:PlOk ad P
 vl:∀ns:List Int,ns.length=ad->Byt ns->cf P ns=tv T (pk ns)
 at':∀x∈P,x.2=tv T (pk x.1)
def nzb(T:Tb)(k:Int):Bool:=decide (tv T k≠0)
def AY(T:Tb):Nat:=((T.map (·.1)).filter (nzb T)).length
theorem ZE(T:Tb):AY T<=T.length:=by
 have:=List.length_filter_le (nzb T) (T.map (·.1))
 rwa [mL]at this
theorem ZF{T S:Tb}(h1:(T.map (·.1)).Nodup)(h2:(S.map (·.1)).Nodup)(h:∀k,tv T k=tv S k):AY T=AY S:=by
 have e:nzb T=nzb S:=by funext k;unfold nzb;rw[h]
 have mem:∀(A:Tb) k,k∈(A.map (·.1)).filter (nzb A)↔tv A k≠0:=λA k=>by
  rw[List.mem_filter];refine⟨λz=>hX z.2,λz=>⟨gA λy=>z (xL y),mP z⟩⟩
 refine((List.perm_ext_iff_of_nodup (h1.filter _) (h2.filter _)).mpr λk=>?_).length_eq;rw[mem,mem,h]
def Few(f:Int->Rat):Prop:=∀T:Tb,(T.map (·.1)).Nodup->(∀k,tv T k=f k)->AY T<=500
def Many(f:Int->Rat):Prop:=∀T:Tb,(T.map (·.1)).Nodup->(∀k,tv T k=f k)->500<AY T
theorem Few.of{f:Int->Rat}{S:Tb}(nd:(S.map (·.1)).Nodup)(h:∀k,tv S k=f k)(l:AY S<=500):Few f:=λT n1 h1=>by rw[ZF n1 nd λk=>by rw[h,h1]];exact l
theorem Many.of{f:Int->Rat}{S:Tb}(nd:(S.map (·.1)).Nodup)(h:∀k,tv S k=f k)(l:500<AY S):Many f:=λT n1 h1=>by rw[ZF n1 nd λk=>by rw[h,h1]];exact l
theorem UM(f:Int->Rat):∀(ks:List Int) (j:Int),tv (ks.map λk=>(k,f k)) j=if j∈ks then f j else 0
 | [],j=>by rw[tJ (by simp)];rfl
 | k::ks,j=>by
  rw[mW,kX,UM f ks j];by_cases h:k=j
  ·rw[tK h,tK (by simp [h]),h]
  ·rw[tJ h];by_cases q:j∈ks
   ·rw[tK q,tK (gN _ q)]
   ·rw[tJ q,tJ (λz=>by rcases mX.mp z with z | z;exact h z.symm;exact q z)]
def uJ(ad:Nat)(T:Tb)(ns:List Int):Pl:=(ns.filter (nzb T)).map λk=>(unp ad k,tv T k)
theorem KyP.unp{ad:Nat}{k:Int}(h:KyP ad k):(Lw.unp ad k).length=ad/\(∀n∈Lw.unp ad k,0<=n)/\(Lw.unp ad k).sum<=16/\pk (Lw.unp ad k)=k:=by
 obtain⟨ns,h1,h2,h3,rfl⟩:=h;rw[UJ ad h1 (wN h2 h3)];exact⟨h1,h2,h3,rfl⟩
theorem ZU{ad:Nat}{T:Tb}{ns:List Int}(cn:AY T<=500)(ky:∀k∈T.map (·.1),KyP ad k)(m1:1<=ad)(m4:ad<=4)(pm:ns.Perm (T.map (·.1)))(lt:ns.Pairwise (· < ·)):SumT ad T (uJ ad T ns):=by
 have kk:∀k∈ns.filter (nzb T),KyP ad k/\tv T k≠0:=λk hk=>by
  rw[List.mem_filter]at hk;exact⟨ky k (pm.mem_iff.mp hk.1),hX hk.2⟩
 have mm:∀x∈uJ ad T ns,∃k∈ns.filter (nzb T),x=(Lw.unp ad k,tv T k):=λx hx=>by
  obtain⟨k,hk,e⟩:=nP.mp hx;exact⟨k,hk,e.symm⟩
 have pks:((uJ ad T ns).map λx=>pk x.1)=ns.filter (nzb T):=by
  unfold uJ;rw[nT]
  conv=>rhs;rw[<-List.map_id (ns.filter (nzb T))]
  exact List.map_congr_left λk hk=>(kk k hk).1.unp.2.2.2
 have ok:PlOk ad (uJ ad T ns):=by
  refine⟨λx hx=>?_,λx hx=>?_,λx hx=>?_, ?_,λx hx=>?_, ?_,m1,m4⟩
  ·obtain⟨k,hk,rfl⟩:=mm x hx;exact(kk k hk).1.unp.1
  ·obtain⟨k,hk,rfl⟩:=mm x hx;exact(kk k hk).1.unp.2.1
  ·obtain⟨k,hk,rfl⟩:=mm x hx;exact(kk k hk).1.unp.2.2.1
  ·rw[pks];exact lt.filter _
  ·obtain⟨k,hk,rfl⟩:=mm x hx;exact(kk k hk).2
  ·unfold uJ;rw[mL,(pm.filter (nzb T)).length_eq];exact cn
 refine⟨ok,λms hl hb=>?_,λx hx=>?_⟩
 ·rw[<-ok.tv hl hb];have e:jI (uJ ad T ns)=(ns.filter (nzb T)).map λk=>(k,tv T k):=by
   unfold jI uJ;rw[nT];refine List.map_congr_left λk hk=>?_;show(pk (Lw.unp ad k),tv T k)=(k,tv T k);rw[(kk k hk).1.unp.2.2.2]
  rw[e,UM];by_cases q:pk ms∈ns.filter (nzb T)
  ·rw[tK q]
  ·rw[tJ q];by_cases r:pk ms∈T.map (·.1)
   ·refine gA λz=>q (List.mem_filter.mpr ⟨pm.mem_iff.mpr r,mP λy=>z y.symm⟩)
   ·exact(xL r).symm
 ·obtain⟨k,hk,rfl⟩:=mm x hx;show tv T k=tv T (pk (Lw.unp ad k));rw[(kk k hk).1.unp.2.2.2]
theorem EZ{K:tL}{H:Hp} :∀{ah:List (Key×V)} {T:Tb},Paired (EntQ K H) ah T->jX ah=T.map (·.1)/\∀p∈ah,∃i:Int,p.1=.inl i
 | _,_,.nil=>⟨rfl,λ_ h=>nomatch h⟩
 | kv::ah,e::T,.cons h t=>by
  obtain⟨h1,h2⟩:=EZ t;refine⟨?_,λp hp=>?_⟩
  ·show(match kv.1 with | .inl i=>i | .inr _=>0)::jX ah=e.1::T.map (·.1);rw[h1,h.1]
  ·rcases mX.mp hp with rfl | hp
   ·exact⟨_,h.1⟩
   ·exact h2 p hp
theorem IF{H H':Hp}{d:Addr}{o:HO}(h:Rd H d o)(s:Same H H'):Rd H' d o:=by
 rcases h with h | ⟨u,h⟩
 ·exact .inl (s _ _ h)
 ·exact .inr ⟨u,s _ _ h⟩
theorem FT(x:Rat):LwT.lexNe [x.num,(x.den:Int)] [0,1]=decide (x≠0):=by
 rw[show LwT.lexNe [x.num,(x.den:Int)] [0,1] = !decide ([x.num,(x.den:Int)]=[0,1])from LwT.lexNe_eq _ _];by_cases h:x=0
 ·subst h
  decide
 ·rw[mP h,mN (λz=>h ?_)]
  ·rfl
  ·have z1:x.num=0:=by injection z
   exact Rat.num_eq_zero.mp z1
structure KyI(H1:Hp)(q:Addr)(T:Tb)(ns:List Int)(i:Nat)(ys:List V)(H2:Hp):Prop where
 s:Same H1 H2
 e:H2 q=some (.lst ys)
 y:ys=((ns.take i).filter (nzb T)).map V.int
structure TuI(K:tL)(H1:Hp)(q:Addr)(P:Pl)(i:Nat)(ys:List V)(H2:Hp):Prop where
 s:Same H1 H2
 e:H2 q=some (.lst ys)
 pr:Paired (TmQ K H2) ys (P.take i)
theorem TmQ.updL{K:tL}{H:Hp}{p:Addr}{xs ys:List V}(e:H p=some (.lst xs)){v:V}{x:List Int×Rat}(h:TmQ K H v x):TmQ K (upd H p (.lst ys)) v x:=by
 obtain⟨r,b,c,e1,e2,e3,pc,e4,e5⟩:=h;have nu:∀{a:Addr} {zs:List V},H a=some (.tup zs)->(upd H p (.lst ys)) a=some (.tup zs):=fun {a zs} h=>by
  rw[jG λz=>by rw[z,e]at h;cases h];exact h
 exact⟨r,b,c,e1,nu e2,nu e3,pc,e4,nu e5⟩
def uK(K:tL):Sp:=λvs H Q _=>∃(d:Addr) (ad:Nat) (ah:List (Key×V)) (T:Tb),vs=[.int ad,.ref d]/\Rd H d (.dK ah)/\Paired (EntQ K H) ah T/\(T.map (·.1)).Nodup/\T.length<=3000/\AY T<=500/\(∀k∈T.map (·.1),KyP ad k)/\1<=ad/\ad<=4/\
 ∀(p:Addr) (P:Pl) (H':Hp),H p=none->Same H H'->SumQ K H' p ad P->SumT ad T P->Q (.ref p) H'
theorem scSo:FnScope ["many","table","keys","one"] ["many","table"] (jK yE):=scK (by decide +kernel)
theorem WL(F:Fun K "sum_of" "sum_of" yE f fd)(T:Txt mg)(N:Ngt K mg)(GU:DG P w K mg base 1 "unpacked" OI ["key","many"] spUnpk)(GD:DG P w K mg base 1 "degree" wP ["one"] (HX K)):FnOk P w K mg base CX0 2 f fd ["many","table"] (uK K):=by
 obtain⟨na,hN,hna⟩:=N;obtain⟨tt,ht⟩:=T.terms;obtain⟨td,hd⟩:=T.degree;refine F.ok scSo (λvs H Q E h=>?_) #[3]
 ·obtain⟨d,ad,ah,TT,rfl,_⟩:=h
  rfl
 ·obtain⟨d,ad,ah,TT,rfl,rd,pr,nd,lT,cn,ky,m1,m4,go⟩:=h;have hr1:Room 1 _:=hr.mono #[1];have hu0:=hr.units0;have hu1:_+1<cLine:=gU (Nat.add_le_add_left (by decide:1<=64) _) hr.units;refine⟨_,jD (BE (i:=2) scSo.nd rfl (Or.inl rfl) (own:=1) (idx:=[1]) (N:=["key","table"]) rfl rfl rfl (by decide +kernel) (by decide +kernel) (DI (by intro y hy;simp only[mX,mF,or_false]at hy;rcases hy with rfl;rfl)) (yI rfl) rfl (CD rfl ⟨rfl,rfl,rfl,rfl⟩) (uQ (kR (BM rfl) (by rfl) T.sorted boot_sorted (jA (pv 1) jC))) (λC fp s2 H2=>(jJ (i:=0) (show List.Nodup (["key","table"]:List Str) by decide +kernel) rfl (Or.inl rfl) (Or.inr rfl))) (λC fp s2 H2=>jS (show OpR (jN _ ["key","table"] _ _ C fp s2 H2) _ (LwT.rOrdT K LwT.lexNe)from LwT.op_neT hu0) (vT hu1 (pv 1) (pv 0) (λ_ _=>rfl)) (kF (v:=.ref na) (by rfl) hN rfl) (jZ _)) (λC fp s2 H2=>pv 0)) (jD (kT (jS xF (kR vG (by rfl) T.len PySem.boot_len (jA (pv 2) jC)) (kF (v:=.int 500) (by rfl) ht ⟨_,rfl⟩) (jZ _)) (jF (zU)) jV) (jD (jL (i:=3) scSo.nd rfl (Or.inl rfl) (jW (jA (pv 0) (jA (qF qX (by rfl) T.tup boot_tuple (jA (uR (own:=1) (idx:=[0,1]) (N:=["key","many","table"]) rfl rfl rfl (by decide +kernel) (by decide +kernel) (DI (by intro y hy;simp only[mX,mF,or_false]at hy;rcases hy with rfl | rfl<;>rfl)) (yI rfl) rfl (ZQ rfl rfl ⟨rfl,rfl,rfl,rfl⟩ ⟨rfl,rfl,rfl,rfl⟩) (uQ (pv 2)) (λC fp s2 H2=>(jJ (i:=0) (show List.Nodup (["key","many","table"]:List Str) by decide +kernel) rfl (Or.inl rfl) (Or.inr rfl))) (λC fp s2 H2=>jW (jA (cal GU hr1 (jA (pv 0) (jA (pv 1) jC))) (jA (vT hu1 (pv 2) (pv 0) (λ_ _=>rfl)) jC)))) jC)) jC)))) (jD (kT (jS xF (cal GD hr1 (jA (pv 3) jC)) (kF (v:=.int 16) (by rfl) hd ⟨_,rfl⟩) (jZ _)) (jF (zU)) jV) (jF (jO (pv 3)))))), ?_⟩
  try dsimp only[cxK]
  obtain⟨ek,ei⟩:=EZ pr;have lk:ah.length=TT.length:=Paired.length pr;refine⟨_,rfl,d,ah,rfl,rd,ei,λns pm srt sl H1 n1 s1 e1=>⟨sl,rfl,⟨_,SqL.of e1⟩,λq H2 n2 s2 e2=>?_⟩⟩;rw[ek]at pm;have ndn:ns.Nodup:=pm.nodup_iff.mpr nd;have lt:ns.Pairwise (· < ·):=srt;have cn':(ns.filter (nzb TT)).length<=500:=by rw[(pm.filter (nzb TT)).length_eq];exact cn
  have ln:ns.length=TT.length:=by rw[pm.length_eq,mL]
  have get:∀{n:Int} {H':Hp},n∈ns->Same H H'->∃v,DGet H' d (.int n) (some v)/\NumH H' v (tv TT n):=fun {n H'} hn sm=>by
   rcases CP (k:=n) pr with⟨v,h1,h2,_⟩ | ⟨_,_,h3⟩
   ·exact⟨v,.inl ⟨ah,.inl n,IF rd sm,rfl,h1.symm⟩,h2.same sm⟩
   ·exact absurd (pm.mem_iff.mp hn) h3
  refine BL (K:=K) (a:=sl) (xs:=ns.map V.int) (KyI H1 q TT ns) (by rw[mL,ln,sizeLine_eq];omega) ⟨s2,e2,rfl⟩ (λi ys H3 h=>⟨SqL.of (h.s _ _ e1),h.e, ?_⟩) ?_ ?_
  ·rw[h.y,mL];have:=List.length_filter_le (nzb TT) (ns.take i);rw[mD]at this;omega
  ·intro i m ys x H3 hx hm h;have hx':=hx;rw[hU]at hx';obtain⟨n,hn,rfl⟩:=Option.map_eq_some_iff.mp hx';obtain⟨v,g1,pv',rfl,g2⟩:=get (gM hn) (s1.trans h.s);have tk:(ns.take (i+1)).filter (nzb TT)=(ns.take i).filter (nzb TT)++(if nzb TT n=true then [n]else []):=by
    rw[hW,hn,List.filter_append]
    congr 1
    show [n].filter _=_;rw[mK]
    rfl
   refine⟨QD,_,rfl,_,rfl,d,_,rfl,g1,pv',na,[(tv TT n).num,((tv TT n).den:Int)],[0,1],rfl,rfl,SqT.of g2,hna H3,_,rfl, ?_⟩;rw[FT];refine wH (λc=>⟨_,rfl,h.e,CT hx hm ⟨kD h.s n2,jE, ?_⟩⟩) (λc=>CT hx hm ⟨h.s,h.e, ?_⟩)
   ·rw[tk,tK (show nzb TT n=true from c),mM,h.y]
    rfl
   ·rw[tk,tJ (show ¬nzb TT n=true from c),List.append_nil,h.y]
  ·rintro ys H3 ⟨s3,e3,ey⟩;rw[mL,mG]at ey;subst ey;dsimp only[jT];have lf:=List.length_filter_le (nzb TT) ns;refine⟨_,rfl,q,_,rfl,.inl (SqL.of e3),_,_,rfl,rfl,_,rfl,xB (mN (by rw[mL];omega)) ?_⟩;refine⟨_,rfl,_,rfl,q,rfl,⟨_,SqL.of e3⟩,λl2 H4 n4 s4 e4=>?_⟩;have ST:=ZU cn ky m1 m4 pm lt;have s03:=s1.trans s3;refine NJ (K:=K) (a:=q) (xs:=(ns.filter (nzb TT)).map V.int) (TuI K H3 l2 (uJ ad TT ns)) (by rw[mL,sizeLine_eq];omega) ⟨s4,e4,.nil⟩ (λi ys H5 h=>⟨SqL.of (h.s _ _ e3),h.e⟩) ?_ ?_
   ·intro i m ys x H5 hx hm hy h;have hx':=hx;rw[hU]at hx';obtain⟨n,hn,rfl⟩:=Option.map_eq_some_iff.mp hx';have nm:=gM hn;have nn:=(List.mem_filter.mp nm).1;have ku:=(ky n (pm.mem_iff.mp nn)).unp;have hP:(uJ ad TT ns)[i]? = some (unp ad n,tv TT n):=by unfold uJ;rw[hU,hn];rfl
    refine⟨QD,_,rfl,_,rfl,unp ad n,by rw[ku.1,ku.2.2.2];rfl,wN ku.2.1 ku.2.2.1,by rw[ku.1];exact m4,λr H6 n6 s6 e6=>?_⟩;obtain⟨v,g1,pv',rfl,g2⟩:=get nn (s03.trans (h.s.trans s6));refine⟨_,rfl,_,rfl,d,_,rfl,g1,uX,λtt H7 n7 s7 e7=>?_⟩;have eq7:=(s6.trans s7) _ _ h.e;refine wW hx hm hy eq7 ⟨kD (h.s.trans (s6.trans s7)) n4,jE, ?_⟩;rw[hW,hP];exact Paired.app (Paired.to (λ_ _ k=>(k.same (s6.trans s7)).updL eq7) h.pr) (.cons (TmQ.updL eq7 ⟨tt,r,pv',rfl,e7,s7 _ _ e6,pv',rfl,s7 _ _ g2⟩) .nil)
   ·rintro ys H5 hy ⟨s5,e5,pr5⟩;have lS:(uJ ad TT ns).length=(ns.filter (nzb TT)).length:=by unfold uJ;rw[mL]
    rw[mL,<-lS,mG]at pr5;refine⟨l2,_,rfl,.inl ⟨SqL.of e5,λr nr=>⟨uX,λp H7 n7 s7 e7=>?_⟩⟩⟩;have s6:Same H5 (upd H5 r (.tup ys)):=jY _ nr;have e6:(upd H5 r (.tup ys)) r=some (.tup ys):=jE;generalize upd H5 r (.tup ys)=H6 at s6 e6 n7 s7;have SQ:SumQ K H7 p ad (uJ ad TT ns):=⟨r,ys,e7,s7 _ _ e6,Paired.to (λ_ _ k=>k.same (s6.trans s7)) pr5⟩;have s07:=s03.trans (s5.trans (s6.trans s7));have n7':H p=none:=(s03.trans (s5.trans s6)).free n7;dsimp only[jT];refine⟨_,rfl,p,ad,16,_,rfl,SQ,ST.ok.pd,m4,by decide,nN ST.ok.few #[1],λH8 s8=>⟨_,_,rfl,rfl,_,rfl,xB (mN ?_) ⟨_,rfl,go p _ H8 n7' (s07.trans s8) (SQ.same s8) ST⟩⟩⟩;have:=AX ST.ok.deg #[1];omega
theorem BR{e:Int×Rat}{T:Tb} :tv (e::T) e.1=e.2:=by rw[kX,tK rfl]
theorem UN{T:Tb}{k:Int}(h:∀e∈T,k<e.1):tv T k=0:=xL λz=>by
 obtain⟨e,he,rfl⟩:=nP.mp z;exact Int.lt_irrefl _ (h e he)
theorem NW:∀{T S:Tb},(T.map (·.1)).Pairwise (· < ·)->(S.map (·.1)).Pairwise (· < ·)->(∀e∈T,e.2≠0)->(∀e∈S,e.2≠0)->(∀k,k∈T.map (·.1)∨k∈S.map (·.1)->tv T k=tv S k)->T=S
 | [],[],_,_,_,_,_=>rfl
 | [],e::S,_,_,_,hs,h=>by
  have:=h e.1 (.inr (by simp));rw[BR]at this;exact absurd this.symm (hs e (gZ ..))
 | e::T,[],_,_,ht,_,h=>by
  have:=h e.1 (.inl (by simp));rw[BR]at this;exact absurd this (ht e (gZ ..))
 | e::T,c::S,h1,h2,ht,hs,h=>by
  rw[mW,List.pairwise_cons]at h1 h2;have lt1:∀x∈T,e.1<x.1:=λx hx=>h1.1 _ (List.mem_map_of_mem hx);have lt2:∀x∈S,c.1<x.1:=λx hx=>h2.1 _ (List.mem_map_of_mem hx);have he:=h e.1 (.inl (by simp));have hc:=h c.1 (.inr (by simp));rw[BR]at he hc;have ec:e.1=c.1:=by
   refine gA λn=>?_;rcases Int.lt_or_lt_of_ne n with l | l
   ·rw[kX,tJ (Ne.symm n),UN (λx hx=>Int.lt_trans l (lt2 x hx))]at he;exact ht e (gZ ..) he
   ·rw[kX,tJ n,UN (λx hx=>Int.lt_trans l (lt1 x hx))]at hc;exact hs c (gZ ..) hc.symm
  have e2:e.2=c.2:=by rw[he,ec,BR]
  have tl:T=S:=by
   refine NW h1.2 h2.2 (λx hx=>ht x (gN _ hx)) (λx hx=>hs x (gN _ hx)) λk hk=>?_;have nk:e.1≠k:=λz=>by
    rcases hk with hk | hk
    ·obtain⟨x,hx,rfl⟩:=nP.mp hk;exact absurd (lt1 x hx) #[0]
    ·obtain⟨x,hx,rfl⟩:=nP.mp hk;have:=lt2 x hx;omega
   have:=h k (hk.elim (λz=>.inl (gN _ z)) (λz=>.inr (gN _ z)));rw[kX,tJ nk,kX,tJ (by rw[<-ec];exact nk)]at this;exact this
  rw[tl,show e=c from Prod.ext ec e2]
theorem CA{ad:Nat}{P S:Pl}(h1:PlOk ad P)(h2:PlOk ad S)(h:∀ns:List Int,ns.length=ad->Byt ns->cf P ns=cf S ns):P=S:=by
 have t:jI P=jI S:=by
  refine NW (by rw[qT];exact h1.ord) (by rw[qT];exact h2.ord) (λe he=>?_) (λe he=>?_) λk hk=>?_
  ·obtain⟨x,hx,rfl⟩:=nP.mp he;exact h1.nz x hx
  ·obtain⟨x,hx,rfl⟩:=nP.mp he;exact h2.nz x hx
  ·rw[qT,qT]at hk;rcases hk with hk | hk
   ·obtain⟨x,hx,rfl⟩:=nP.mp hk;rw[h1.tv (h1.len x hx) (h1.byt hx),h2.tv (h1.len x hx) (h1.byt hx),h _ (h1.len x hx) (h1.byt hx)]
   ·obtain⟨x,hx,rfl⟩:=nP.mp hk;rw[h1.tv (h2.len x hx) (h2.byt hx),h2.tv (h2.len x hx) (h2.byt hx),h _ (h2.len x hx) (h2.byt hx)]
 have l:P.length=S.length:=by have:=congrArg List.length t;unfold jI at this;rwa [mL,mL]at this
 refine List.ext_getElem? λi=>?_;have g:(jI P)[i]? = (jI S)[i]? :=by rw[t]
 unfold jI at g;rw[hU,hU]at g;cases a:P[i]? with
 | none=>rw[a]at g;cases b:S[i]? with | none=>rfl | some y=>rw[b]at g;cases g
 | some x=>
  rw[a]at g;cases b:S[i]? with
  | none=>rw[b]at g;cases g
  | some y=>
   rw[b]at g;have g:(pk x.1,x.2)=(pk y.1,y.2):=Option.some.inj g;have g1:pk x.1=pk y.1:=(Prod.mk.inj g).1;have g2:x.2=y.2:=(Prod.mk.inj g).2;have xm:=gM a;have ym:=gM b;rw[show x=y from Prod.ext (uA ad (h1.len x xm) (h2.len y ym) (h1.byt xm) (h2.byt ym) g1) g2]
theorem PlOk.ky{ad:Nat}{P:Pl}(h:PlOk ad P):∀k∈(jI P).map (·.1),KyP ad k:=λk hk=>by
 rw[qT]at hk;obtain⟨x,hx,rfl⟩:=nP.mp hk;exact⟨x.1,h.len x hx,h.nn x hx,h.deg x hx,rfl⟩
theorem kO(P:Pl):(jI P).length=P.length:=by unfold jI;rw[mL]
theorem NZ(n:Nat):SzR (n+1) 0:=⟨Nat.two_pow_pos _,by show 1<2^(n+1);exact Nat.one_lt_two_pow #[0]⟩
theorem tv_in:∀{T:Tb} {k:Int},tv T k=0∨∃e∈T,e.2=tv T k
 | [],_=>.inl rfl
 | e::T,k=>by
  rw[kX];by_cases h:e.1=k
  ·rw[tK h];exact .inr ⟨e,gZ ..,rfl⟩
  ·rw[tJ h];rcases tv_in (T:=T) (k:=k)with z | ⟨c,hc,z⟩
   ·exact .inl z
   ·exact .inr ⟨c,gN _ hc,z⟩
theorem UW{P:Pl}(h:∀x∈P,SzR 7900 x.2)(k:Int):SzR 7900 (tv (jI P) k):=by
 rcases tv_in (T:=jI P) (k:=k)with z | ⟨e,he,z⟩
 ·rw[z];exact NZ 7899
 ·rw[<-z];obtain⟨x,hx,rfl⟩:=nP.mp he;exact h x hx
theorem HR{P:Pl}(h:∀x∈P,SzR 7900 x.2):∀e∈jI P,SzR 7900 e.2:=λe he=>by
 obtain⟨x,hx,rfl⟩:=nP.mp he;exact h x hx
def OE(K:tL):Sp:=λvs H Q _=>∃(p1 p2:Addr) (ad:Nat) (P1 P2:Pl),vs=[.ref p1,.ref p2]/\SumQ K H p1 ad P1/\SumQ K H p2 ad P2/\PlOk ad P1/\PlOk ad P2/\Few (λk=>tv (jI P1) k+tv (jI P2) k)/\(∀x∈P1,SzR 7900 x.2)/\(∀x∈P2,SzR 7900 x.2)/\
 ∀(p:Addr) (P:Pl) (H':Hp),H p=none->Same H H'->SumQ K H' p ad P->PlOk ad P->(∀ns:List Int,ns.length=ad->Byt ns->cf P ns=cf P1 ns+cf P2 ns)->Q (.ref p) H'
theorem scPl:FnScope ["one","other"] ["one","other"] (jK DZ):=scK (by decide +kernel)
theorem WO(F:Fun K "plus" "plus" DZ f fd)(GT:DG P w K mg base 2 "table_of" zP ["one"] (wO K))(GA:DG P w K mg base 3 "tables_added" uN ["one","other"] (DO K))(GS:DG P w K mg base 2 "sum_of" yE ["many","table"] (uK K)):FnOk P w K mg base CX0 4 f fd ["one","other"] (OE K):=by
 refine F.ok scPl (λvs H Q E h=>?_) #[3]
 ·obtain⟨p1,p2,ad,P1,P2,rfl,_⟩:=h
  rfl
 ·obtain⟨p1,p2,ad,P1,P2,rfl,q1,q2,o1,o2,ln,z1,z2,go⟩:=h;have hr2:Room 2 _:=hr.mono #[1];refine⟨_,jF (jO (cal GS hr2 (jA (jR jU (pv 0) jB (λ_ _=>rfl)) (jA (cal GA hr (jA (cal GT hr2 (jA (pv 0) jC)) (jA (cal GT hr2 (jA (pv 1) jC)) jC))) jC)))), ?_⟩;try dsimp only[cxK]
  obtain⟨qq,xs,e1,_⟩:=q1.ex;refine⟨_,rfl,p1,_,_,_,rfl,rfl,SqT.of e1,rfl,_,rfl,p1,ad,P1,rfl,q1,o1,λda k1 H1 n1 s1 ea pa=>?_⟩;refine⟨_,rfl,p2,ad,P2,rfl,q2.same s1,o2,λdb k2 H2 n2 s2 eb pb=>?_⟩;refine⟨da,db,k1,k2,jI P1,jI P2,rfl,.inl (s2 _ _ ea),eb,Paired.to (λ_ _ h=>h.same s2) pa,pb,o1.nd,o2.nd,by rw[kO,kO];have:=o1.few;have:=o2.few;omega,UW z1,HR z2,λd ah T H3 n3 b3 e3 p3 A _=>?_⟩;have s03:Same H H3:=λc u h=>b3 _ _ ((s1.trans s2) _ _ h) (jQ (s1 _ _ h) n2);have nd3:H d=none:=(s1.trans s2).free n3;refine⟨d,ad,ah,T,rfl,.inl e3,p3,A.nd,by have:=A.ln;rw[kO,kO]at this;have:=o1.few;have:=o2.few;omega,ln T A.nd A.vl,λk hk=>(A.ks k hk).elim (o1.ky k) (o2.ky k),o1.m1,o1.m4,λp PP H4 n4 s4 SQ ST=>?_⟩;refine go p PP H4 (s03.free n4) (s03.trans s4) SQ ST.ok λns hl hb=>?_;rw[ST.vl ns hl hb,A.vl,o1.tv hl hb,o2.tv hl hb]
def spScaled(K:tL):Sp:=λvs H Q _=>∃(p1:Addr) (v:V) (ad:Nat) (P1:Pl) (y:Rat),vs=[.ref p1,v]/\SumQ K H p1 ad P1/\PlOk ad P1/\NumK K H v y/\(∀x∈P1,SzR 7900 x.2)/\SzR 7900 y/\
 ∀(p:Addr) (P:Pl) (H':Hp),H p=none->Same H H'->SumQ K H' p ad P->PlOk ad P->(∀ns:List Int,ns.length=ad->Byt ns->cf P ns=cf P1 ns*y)->Q (.ref p) H'
structure ScI(K:tL)(H1:Hp)(d0 d:Addr)(o:Obj)(k1:List (Key×V))(T:Tb)(y:Rat)(i:Nat)(ys:List (Key×V))(H2:Hp):Prop where
 s:Same H1 H2
 e:H2 d=some (.dK ys)
 pr:Paired (EntQ K H2) ys ((T.take i).map λe=>(e.1,e.2*y))
theorem JK(y:Rat):∀(T:Tb) (k:Int),tv (T.map λe=>(e.1,e.2*y)) k=tv T k*y
 | [],k=>by show(0:Rat)=0*y;rw[Rat.zero_mul]
 | e::T,k=>by
  rw[mW,kX,kX,JK y T k];by_cases h:e.1=k
  ·rw[tK h,tK h]
  ·rw[tJ h,tJ h]
theorem scSc:FnScope ["one","number","table"] ["one","number"] (jK BX):=scK (by decide +kernel)
theorem SK(F:Fun K "scaled" "scaled" BX f fd)(GT:DG P w K mg base 2 "table_of" zP ["one"] (wO K))(GM:DG P w K mg base 2 "multiplied" RU ["one","other"] (OF K))(GS:DG P w K mg base 2 "sum_of" yE ["many","table"] (uK K)):FnOk P w K mg base CX0 3 f fd ["one","number"] (spScaled K):=by
 refine F.ok scSc (λvs H Q E h=>?_) #[3]
 ·obtain⟨p1,v,ad,P1,y,rfl,_⟩:=h
  rfl
 ·obtain⟨p1,v,ad,P1,y,rfl,q1,o1,ny,z1,zy,go⟩:=h;refine⟨_,jD (IH (i:=2) scSc.nd rfl (Or.inl rfl) (own:=2) (idx:=[1]) (N:=["key","fraction","number"]) rfl rfl rfl (by decide +kernel) (by decide +kernel) (DI (by intro y hy;simp only[mX,mF,or_false]at hy;rcases hy with rfl;rfl)) (yI rfl) rfl (CD rfl ⟨rfl,rfl,rfl,rfl⟩) (xO (IL (cal GT hr (jA (pv 0) jC)))) (λC fp s2 H2=>show PG (jN _ ["key","fraction","number"] _ _ C fp s2 H2) _ (FI K 2 (vX (jT 0) (vX (jT 1) gNil)))from qD (X:=jN _ ["key","fraction","number"] _ _ C fp s2 H2) rfl (jM (jJ (i:=0) (show List.Nodup (["key","fraction","number"]:List Str) by decide +kernel) rfl (Or.inl rfl) (Or.inr rfl)) (jM (jJ (i:=1) (show List.Nodup (["key","fraction","number"]:List Str) by decide +kernel) rfl (Or.inl rfl) (Or.inr rfl)) kP))) (λC fp s2 H2=>pv 0) (λC fp s2 H2=>cal GM hr (jA (pv 1) (jA (pv 2) jC)))) (jF (jO (cal GS hr (jA (jR jU (pv 0) jB (λ_ _=>rfl)) (jA (pv 2) jC))))), ?_⟩;try dsimp only[cxK]
  refine⟨_,rfl,p1,ad,P1,rfl,q1,o1,λda k1 H1 n1 s1 ea pa=>?_⟩;refine⟨da,k1,rfl,ea,λo=>⟨da,o,k1,rfl,jE,λd H3 n3 s3 e3=>?_⟩⟩;have k2:Paired (EntQ K (upd H1 da (.frz o (.dK k1)))) k1 (jI P1):=Paired.to (λ_ _ h=>h.upd ea) pa;have s2:Same H (upd H1 da (.frz o (.dK k1))):=kD s1 n1;have ef:(upd H1 da (.frz o (.dK k1))) da=some (.frz o (.dK k1)):=jE;generalize upd H1 da (.frz o (.dK k1))=H2 at k2 s2 ef n3 s3;have l1:k1.length=P1.length:=by rw[Paired.length k2,kO]
  refine zF (ScI K H2 da d o k1 (jI P1) y) (by rw[l1];exact gU o1.few #[1]) ⟨s3,e3,.nil⟩ (λi ys H4 h=>⟨h.s _ _ ef,h.e, ?_⟩) ?_ ?_
  ·have:=Paired.length h.pr;rw[this,mL,mD];omega
  ·intro i m ys k x c H4 hx hm h hc;obtain⟨e,he,hk,hn⟩:=Paired.at k2 hx;have hk:k=.inl e.1:=hk;subst hk;have s5:Same H4 (upd H4 c (.tup [kV (.inl e.1),x])):=jY _ hc;have e5:(upd H4 c (.tup [kV (.inl e.1),x])) c=some (.tup [kV (.inl e.1),x]):=jE;generalize upd H4 c (.tup [kV (.inl e.1),x])=H5 at s5 e5;have em:=gM he;obtain⟨px,rfl,hx2⟩:=hn.same (h.s.trans s5);obtain⟨py,rfl,hy2⟩:=ny.same (s2.trans (h.s.trans s5));refine⟨c,_,rfl,SqT.of e5,rfl,_,_,rfl,_,_,rfl,rfl,KY,_,rfl,_,rfl,_,rfl,px,py,_,_,_,_,rfl,SqT.of hx2,hy2,(HR z1 e em).fr uU,zy.fr uU,λr H6 n6 s6 e6=>?_⟩;have e6:=mulAt e6;have ed6:=(s5.trans s6) _ _ h.e;refine⟨.inl e.1,rfl,ed6,CQ hx hm ⟨kD (h.s.trans (s5.trans s6)) n3,jE, ?_⟩⟩;have k:=AH (k:=e.1) (Paired.to (λ_ _ h=>h.same (s5.trans s6)) h.pr) (NumH.of e6);have eq:xM ((List.take i (jI P1)).map λe=>(e.1,e.2*y)) e.1 (e.2*y)=(List.take (i+1) (jI P1)).map λe=>(e.1,e.2*y):=by
    rw[zT,hW,he,mM]
    ·rfl
    ·have:=wB he o1.nd;rw[nT];exact this
   rw[eq]at k;exact Paired.to (λ_ _ h=>h.upd ed6) k
  ·intro ys H4 h;have pr2:=h.pr;rw[show k1.length=(jI P1).length from Paired.length k2,mG]at pr2;dsimp only[jT];obtain⟨qq,xs,e1,_⟩:=(q1.same (s2.trans h.s)).ex;have ks:((jI P1).map λe=>(e.1,e.2*y)).map (·.1)=(jI P1).map (·.1):=by rw[nT];rfl
   refine⟨_,rfl,p1,_,_,_,rfl,rfl,SqT.of e1,rfl,_,rfl,d,ad,ys,_,rfl,.inl h.e,pr2,by rw[ks];exact o1.nd,by rw[mL,kO];exact nN o1.few #[1],nN (ZE _) (by rw[mL,kO];exact o1.few),by rw[ks];exact o1.ky,o1.m1,o1.m4,λp PP H5 n5 s5 SQ ST=>?_⟩;have s04:=s2.trans h.s;refine go p PP H5 (s04.free n5) (s04.trans s5) SQ ST.ok λns hl hb=>?_;rw[ST.vl ns hl hb,JK,o1.tv hl hb]
end Lw
namespace Lw
open PySem PySem.Spec PyProof.Rows L2 LwQ
def lvS(b:Int)(r:Rat):Int:=b*yG (r.den:Int) b
def lvD(rs:List Rat):Int:=rs.foldl lvS 1
theorem PL{b:Int}(hb:0<b)(r:Rat):0<lvS b r:=by
 unfold lvS;rw[vJ hb];have g:=LwM.vE (r.den:Int) b hb;have d:=r.den_pos;have:0<(r.den:Int)/(Int.gcd (r.den:Int) b:Int):=by
  have h1:(Int.gcd (r.den:Int) b:Int)∣(r.den:Int):=mJ ..;obtain⟨k,hk⟩:=h1;generalize (Int.gcd (r.den:Int) b:Int)=G at *;rw[hk,Int.mul_ediv_cancel_left _ #[0]];by_cases z:0<k
  ·exact z
  ·have:G*k<=0:=Int.mul_nonpos_of_nonneg_of_nonpos #[0] #[0];omega
 exact nZ hb this
theorem lvS_dvd{b:Int}(hb:0<b)(r:Rat):b∣lvS b r/\(r.den:Int)∣lvS b r:=by
 unfold lvS;refine⟨Int.dvd_mul_right .., ?_⟩;rw[vJ hb];have g:=LwM.vE (r.den:Int) b hb;obtain⟨k,hk⟩:(Int.gcd (r.den:Int) b:Int)∣(r.den:Int):=mJ ..;obtain⟨m,hm⟩:(Int.gcd (r.den:Int) b:Int)∣b:=mC ..;generalize (Int.gcd (r.den:Int) b:Int)=G at *;refine⟨m, ?_⟩;have:(r.den:Int)/G=k:=by rw[hk,Int.mul_ediv_cancel_left _ #[0]]
 rw[this,hk]
 conv=>lhs;rw[hm]
 grind
theorem lvF:∀(rs:List Rat) (b:Int),0<b->0<rs.foldl lvS b/\b∣rs.foldl lvS b/\∀r∈rs,(r.den:Int)∣rs.foldl lvS b
 | [],b,h=>⟨h,Int.dvd_refl _,λ_ z=>nomatch z⟩
 | r::rs,b,h=>by
  obtain⟨h1,h2,h3⟩:=lvF rs (lvS b r) (PL h r);have d:=lvS_dvd h r;refine⟨h1,Int.dvd_trans d.1 h2,λq hq=>?_⟩;rcases mX.mp hq with rfl | hq
  ·exact Int.dvd_trans d.2 h2
  ·exact h3 q hq
theorem IR(rs:List Rat):0<lvD rs:=(lvF rs 1 #[1]).1
theorem lvD_dvd{rs:List Rat}{r:Rat}(h:r∈rs):(r.den:Int)∣lvD rs:=(lvF rs 1 #[1]).2.2 r h
theorem lvS_of{b D:Int}(hb:0<b){r:Rat}(h:b∣D)(k:(r.den:Int)∣D):lvS b r∣D:=by
 unfold lvS;rw[vJ hb];have g:=LwM.vE (r.den:Int) b hb;have lg:=PU (n:=(r.den:Int)) hb;rw[vJ hb,xQ hb]at lg;obtain⟨y,hy⟩:(Int.gcd (r.den:Int) b:Int)∣(r.den:Int):=mJ ..;obtain⟨m,hm⟩:(Int.gcd (r.den:Int) b:Int)∣b:=mC ..;generalize (Int.gcd (r.den:Int) b:Int)=G at *;have e1:(r.den:Int)/G=y:=by rw[hy,Int.mul_ediv_cancel_left _ #[0]]
 have e2:b/G=m:=by rw[hm,Int.mul_ediv_cancel_left _ #[0]]
 rw[e1,e2]at lg;rw[e1];obtain⟨x,hx⟩:=h;obtain⟨z,hz⟩:=k;have:y∣m*x:=⟨z,by
  have:G*(m*x)=G*(y*z):=by rw[<-Int.mul_assoc,<-hm,<-hx,hz,hy,Int.mul_assoc]
  exact Int.eq_of_mul_eq_mul_left #[0] this⟩
 have:y∣x:=CS (by rw[Int.gcd_comm];exact lg) this;obtain⟨q,hq⟩:=this;exact⟨q,by rw[hx,hq,Int.mul_assoc]⟩
theorem XC{D:Int} :∀(rs:List Rat) (b:Int),0<b->b∣D->(∀r∈rs,(r.den:Int)∣D)->rs.foldl lvS b∣D
 | [],_,_,h,_=>h
 | r::rs,b,h0,h,k=>XC rs (lvS b r) (PL h0 r) (lvS_of h0 h (k r (gZ ..))) λq hq=>k q (gN _ hq)
theorem lvD_of{D:Int}{rs:List Rat}(k:∀r∈rs,(r.den:Int)∣D):lvD rs∣D:=XC rs 1 #[1] ⟨D,by omega⟩ k
theorem AJ{a D:Int}(h:a∣D)(h0:0<D):a.natAbs<=D.natAbs:=Nat.le_of_dvd #[0] (Int.natAbs_dvd_natAbs.mpr h)
theorem XD(rs:List Rat)(r:Rat):lvD (rs++[r])=lvS (lvD rs) r:=by
 unfold lvD;rw[List.foldl_append]
 rfl
theorem XB{rs:List Rat}{r:Rat}(h:r∈rs):((r.num*(lvD rs/(r.den:Int)):Int):Rat)=r*(lvD rs:Rat):=by
 obtain⟨k,hk⟩:=lvD_dvd h;have d:=r.den_pos;rw[hk,Int.mul_ediv_cancel_left _ #[0],Rat.intCast_mul,Rat.intCast_mul];have h1:=xT r;unfold fv at h1;have h2:((r.den:Int):Rat)≠0:=cne #[0];generalize ((r.den:Int):Rat)=D at *;generalize (r.num:Rat)=N at *;rw[<-h1]
 grind
theorem YI{t:Int}{n:Nat}(h:t.natAbs<2^n)(hn:0<n):FrOk n t 1:=⟨by decide,by simp,h,by
 show 1<2^n;exact Nat.one_lt_two_pow #[0]⟩
open LwV
theorem keep3{x y z:Option V}{r:L2.St} :Keep (none::none::none::r) (x::y::z::r):=λi v h=>by
 match i,h with
 | i+3,h=>exact h
def EntR(C:Int)(H:Hp)(kv:Key×V)(e:Int×Rat):Prop:=kv.1=.inl e.1/\∃c,kv.2=.ref c/\H c=some (.tup [.int (e.2.num*(C/(e.2.den:Int))),.int C])
theorem EntQ.but{K:tL}{H H':Hp}{p:Addr}{ah:List (Key×V)}{kv:Key×V}{x:Int×Rat}(h:EntQ K H kv x)(e:Rd H p (.dK ah))(b:But p H H'):EntQ K H' kv x:=let ⟨z1,pz,z2,z3⟩:=h;⟨z1,pz,z2,b _ _ z3 λy=>by rcases e with e | ⟨o,e⟩<;>rw[<-y,z3]at e<;>cases e⟩
theorem EntR.same{C:Int}{H H':Hp}{kv:Key×V}{e:Int×Rat}(h:EntR C H kv e)(s:Same H H'):EntR C H' kv e:=let ⟨h1,c,h2,h3⟩:=h;⟨h1,c,h2,s _ _ h3⟩
theorem EntR.upd{C:Int}{H:Hp}{p:Addr}{ah:List (Key×V)}{o:HO}(e:H p=some (.dK ah)){kv:Key×V}{x:Int×Rat}(h:EntR C H kv x):EntR C (upd H p o) kv x:=let ⟨h1,c,h2,h3⟩:=h;⟨h1,c,h2,by rw[jG λz=>by rw[z,e]at h3;cases h3];exact h3⟩
theorem JY{l:List (Key×V)}{k:Key}{v:V}(h:∀p∈l,p.1≠k):qU l k v=l++[(k,v)]:=by
 unfold qU;rw[tJ];intro z;obtain⟨p,hp,e⟩:=List.any_eq_true.mp z;exact h p hp (hX e)
def kM(T:Tb):Int:=lvD (T.map (·.2))
def spLev(K:tL):Sp:=λvs H Q _=>∃(a:Addr) (ah:List (Key×V)) (T:Tb) (D:Int),vs=[.ref a]/\Rd H a (.dK ah)/\Paired (EntQ K H) ah T/\(T.map (·.1)).Nodup/\T.length<=1000/\0<D/\D.natAbs<2^1400/\(∀e∈T,(e.2.den:Int)∣D)/\(∀e∈T,e.2.num.natAbs<2^3000)/\
 ∀(d:Addr) (ks:List (Key×V)) (H':Hp),H d=none->But a H H'->(∃o,H' a=some (.frz o (.dK ah)))->H' d=some (.dK ks)->Paired (EntR (kM T) H') ks T->Q (.ref d) H'
inductive LvI(H:Hp)(a:Addr)(T:Tb)(i:Nat):L2.St->Hp->Prop where
 | mk {u v:Option V} {H':Hp} (s:Same H H'):LvI H a T i [some (.ref a),some (.int (kM (T.take i))),u,v] H'
structure LvC(C:Int)(H1:Hp)(d:Addr)(T:Tb)(i:Nat)(ys:List (Key×V))(H2:Hp):Prop where
 s:Same H1 H2
 e:H2 d=some (.dK ys)
 pr:Paired (EntR C H2) ys (T.take i)
theorem NK{T:Tb}{D:Int}(h:∀e∈T,(e.2.den:Int)∣D):kM T∣D:=lvD_of λr hr=>by obtain⟨e,he,rfl⟩:=nP.mp hr;exact h e he
variable{P:Program}{w:World}{K:tL}{mg:Str->Option Value}{base:Heap}{f fd:_}
theorem scLv:FnScope ["table","common","top","bottom"] ["table"] (jK OM):=scK (by decide +kernel)
theorem ok_lev(F:Fun K "levelled" "levelled" OM f fd)(T:Txt mg)(GD:DG P w K mg base 3 "divided" VI ["one","other"] (MA K)):FnOk P w K mg base CX0 4 f fd ["table"] (spLev K):=by
 obtain⟨ts,hS⟩:=T.short;refine F.ok scLv (λvs H Q E h=>?_) #[3]
 ·obtain⟨a,ah,TT,D,rfl,_⟩:=h
  rfl
 ·obtain⟨a,ah,TT,D,rfl,ha,pr,nd,lT,D0,D1,dv,nb,go⟩:=h;refine⟨_,jD (jL (i:=1) scLv.nd rfl (Or.inr rfl) jB) (jD (kU PassesOwn.never rfl (pi_vals (CC (pv 0))) (qD rfl (jM (jJ (i:=2) scLv.nd rfl (Or.inl rfl)) (jM (jJ (i:=3) scLv.nd rfl (Or.inl rfl)) kP))) (jD (jL (i:=1) scLv.nd rfl (Or.inr rfl) (jH qI (pv 1) (jR jU (cal GD hr (jA (jW (jA (pv 3) (jA jB jC))) (jA (jW (jA (pv 1) (jA jB jC))) jC))) jB (λ_ _=>rfl)))) (jF (kT (jS xF (WA PySem.F.plainAttrs_int slot_int_bit_length type_int_bit_length PF (pv 1)) (kF (v:=.int 1500) (by rfl) hS ⟨_,rfl⟩) (jZ _)) (jF (zU)) jV)))) (jF (jO (AV (own:=3) (idx:=[1]) (N:=["key","top","bottom","common"]) rfl rfl rfl (by decide +kernel) (by decide +kernel) (DI (by intro y hy;simp only[mX,mF,or_false]at hy;rcases hy with rfl;rfl)) (yI rfl) rfl (CD rfl ⟨rfl,rfl,rfl,rfl⟩) (xO (pv 0)) (λC fp s2 H2=>show PG (jN _ ["key","top","bottom","common"] _ _ C fp s2 H2) _ (FI K 2 (vX (jT 0) (vX (FI K 2 (vX (jT 1) (vX (jT 2) gNil))) gNil)))from qD (X:=jN _ ["key","top","bottom","common"] _ _ C fp s2 H2) rfl (jM (jJ (i:=0) (show List.Nodup (["key","top","bottom","common"]:List Str) by decide +kernel) rfl (Or.inl rfl) (Or.inr rfl)) (jM (qD (X:=jN _ ["key","top","bottom","common"] _ _ C fp s2 H2) rfl (jM (jJ (i:=1) (show List.Nodup (["key","top","bottom","common"]:List Str) by decide +kernel) rfl (Or.inl rfl) (Or.inr rfl)) (jM (jJ (i:=2) (show List.Nodup (["key","top","bottom","common"]:List Str) by decide +kernel) rfl (Or.inl rfl) (Or.inr rfl)) kP))) kP))) (λC fp s2 H2=>pv 0) (λC fp s2 H2=>jW (jA (jH qI (pv 1) (jH LwD.AB (pv 3) (pv 2))) (jA (pv 3) jC))))))), ?_⟩
  try dsimp only[cxK]
  have lk:ah.length=TT.length:=Paired.length pr;refine⟨_,rfl,a,ah,rfl,ha,λo H1 e1 b1 fr1=>⟨a,o,ah,rfl,e1, ?_⟩⟩;have p1:Paired (EntQ K H1) ah TT:=Paired.to (λ_ _ h=>h.but ha b1) pr;have cD:∀i,(kM (TT.take i)).natAbs<2^1400/\0<kM (TT.take i):=λi=>⟨gU (AJ (NK λe he=>dv e (gR he)) D0) D1,IR _⟩;refine YJ (LvI H1 a TT) (.mk (Same.refl _)) (λi σ H2 _ h=>?_) (λi k x σ H2 hx h=>?_) (fun σ H2 h=>?_)
  ·obtain⟨s2⟩:=h;exact s2 _ _ e1
  ·obtain⟨s2⟩:=h;obtain⟨e,he,_,px,rfl,sx⟩:=Paired.at p1 hx;have em:=gM he;have ci:=cD i;have dn:((e.2.den:Int)).natAbs<2^1400:=gU (AJ (dv e em) D0) D1;have dp:=e.2.den_pos;refine gT2 (SqT.of (s2 _ _ sx)) rfl ?_;refine⟨_,rfl,_,rfl,uX,λz1 H3 n3 s3 e3=>⟨_,rfl,uX,λy1 H4 n4 s4 e4=>?_⟩⟩;refine⟨z1,y1,(e.2.den:Int),1,kM (TT.take i),1,rfl,SqT.of (s4 _ _ e3),SqT.of e4,YI (jP dn #[1]) #[1],YI (jP ci.1 #[1]) #[1],by have:=ci.2;omega,λq5 H5 n5 s5 e5=>?_⟩;rw[Int.mul_one,Int.one_mul]at e5;have lt:=lowT_le (n:=(e.2.den:Int)) ci.2;refine⟨q5,_,_,_,rfl,rfl,SqT.of e5,rfl,_,_,rfl,rfl,⟨jP ci.1 #[1],gU lt (jP dn #[1])⟩, ?_⟩;have cs:kM (TT.take i)*yG (e.2.den:Int) (kM (TT.take i))=kM (TT.take (i+1)):=by
    unfold kM;rw[hW,he,mM];exact(XD _ _).symm
   dsimp only[jT];rw[cs];have cn:=cD (i+1);have hb:(Builtin.Int.intBits (kM (TT.take (i+1))))<=1400:=PySem.intBits_le_iff.mpr cn.1;refine⟨_,rfl,rfl,_,rfl,rfl,_,_,rfl,rfl,_,rfl,xB (mN #[0]) ?_⟩;exact .mk (s2.trans (s3.trans (s4.trans s5)))
  ·obtain⟨s2⟩:=h;rw[lk,mG];have cf':=cD TT.length;rw[mG]at cf';refine⟨_,rfl,a,o,ah,rfl,s2 _ _ e1,λd H3 n3 s3 e3=>?_⟩;refine zF (LvC (kM TT) H2 d TT) (by rw[lk,sizeLine_eq];omega) ⟨s3,e3,.nil⟩ (λi ys H4 h=>⟨(s2.trans h.s) _ _ e1,h.e, ?_⟩) ?_ ?_
   ·have:=Paired.length h.pr;rw[this,mD];omega
   ·intro i m ys k x c H4 hx hm h hc;obtain⟨e,he,hk,px,rfl,sx⟩:=Paired.at p1 hx;have hk:k=.inl e.1:=hk;subst hk;have em:=gM he;have s5:Same H4 (upd H4 c (.tup [kV (.inl e.1),.ref px])):=jY _ hc;have e5:(upd H4 c (.tup [kV (.inl e.1),.ref px])) c=some (.tup [kV (.inl e.1),.ref px]):=jE;generalize upd H4 c (.tup [kV (.inl e.1),.ref px])=H5 at s5 e5;have dn:((e.2.den:Int)).natAbs<2^1400:=gU (AJ (dv e em) D0) D1;have dp:=e.2.den_pos;have qb:(kM TT/(e.2.den:Int)).natAbs<2^1400:=gU (LwM.AI _ _ #[0]) cf'.1;refine⟨c,_,rfl,SqT.of e5,rfl,_,_,rfl,_,_,rfl,px,_,rfl,SqT.of ((s2.trans (h.s.trans s5)) _ _ sx),rfl,_,_,rfl,_,_,rfl,rfl,rfl,keep3,_,rfl,_,rfl,_,rfl,_,rfl,_,_,rfl,rfl,LwD.zJ (m:=1400) #[0] #[1] cf'.1,_,_,rfl,rfl,⟨jP (nb e em) #[1],jP qb #[1]⟩,_,rfl,uX,λt H6 n6 s6 e6=>?_⟩;have ed6:=(s5.trans s6) _ _ h.e;refine⟨.inl e.1,rfl,ed6,CQ hx hm ⟨kD (h.s.trans (s5.trans s6)) n3,jE, ?_⟩⟩;have out:∀p∈ys,p.1≠(.inl e.1:Key):=λp hp z=>by
     obtain⟨j,hj⟩:=gL.mp hp;obtain⟨e',he',q1,_⟩:=Paired.at h.pr hj;rw[z]at q1;exact wB he nd (by rw[Sum.inl.inj q1];exact List.mem_map_of_mem (gM he'))
    rw[JY out,hW,he];exact Paired.app (Paired.to (λ_ _ k=>(k.same (s5.trans s6)).upd ed6) h.pr) (.cons (EntR.upd ed6 ⟨rfl,t,rfl,e6⟩) .nil)
   ·intro ys H4 h;have pr4:=h.pr;rw[lk,mG]at pr4;refine go d ys H4 (fr1 d (s2.free n3)) (λc u hc n=>(s2.trans h.s) _ _ (b1 c u hc n)) ⟨o,(s2.trans h.s) _ _ e1⟩ h.e pr4
theorem frac_sz{n M:Int}(M0:0<M)(Mb:M.natAbs<2^7800)(nb:n.natAbs<2^7800):SzR 7900 ((n:Rat)/(M:Rat)):=by
 have o:Ov 1 7800 ((n:Int):Rat):=⟨n,by unfold fv;rw[Rat.div_def,show((1:Int):Rat)=1 from rfl];grind,nU nb⟩;have o:=o.div #[1] (show M≠0 by omega);rw[Int.one_mul]at o;exact o.sz #[0] (d:=7800) (by rw[Int.natAbs_natCast];exact nU Mb) #[1] #[1]
def VA(K:tL):Sp:=λvs H Q _=>∃(a:Addr) (M n:Int),vs=[.ref a]/\H a=some (.dK [(.inl M,.int n)])/\0<M/\M.natAbs<2^7800/\n.natAbs<2^7800/\
 ∀(v:V) (H':Hp),But a H H'->NumH H' v ((n:Rat)/(M:Rat))->Q v H'
inductive HtI(K:tL)(H:Hp)(a:Addr)(M n:Int)(i:Nat):L2.St->Hp->Prop where
 | mk {v:V} {u2 u3:Option V} {H':Hp} (s:Same H H') (h:if i=0 then NumK K H' v 0 else NumH H' v ((n:Rat)/(M:Rat))):HtI K H a M n i [some (.ref a),some v,u2,u3] H'
theorem scHt:FnScope ["heap","total","bottom","top"] ["heap"] (jK IC):=scK (by decide +kernel)
theorem ok_heap(F:Fun K "heap_total" "heap_total" IC f fd)(N:Ngt K mg)(GA:DG P w K mg base 2 "added" JT ["one","other"] (MB K))(GD:DG P w K mg base 3 "divided" VI ["one","other"] (MA K)):FnOk P w K mg base CX0 4 f fd ["heap"] (VA K):=by
 obtain⟨na,hN,hna⟩:=N;refine F.ok scHt (λvs H Q E h=>?_) #[3]
 ·obtain⟨a,M,n,rfl,_⟩:=h
  rfl
 ·obtain⟨a,M,n,rfl,ha,M0,Mb,nb,go⟩:=h;have hr2:Room 2 _:=hr.mono #[1];refine⟨_,jD (jL (i:=1) scHt.nd rfl (Or.inl rfl) (kF (v:=.ref na) (by rfl) hN rfl)) (jD (kU PassesOwn.never rfl (xO (IL (pv 0))) (qD rfl (jM (jJ (i:=2) scHt.nd rfl (Or.inl rfl)) (jM (jJ (i:=3) scHt.nd rfl (Or.inl rfl)) kP))) (jF (jL (i:=1) scHt.nd rfl (Or.inl rfl) (cal GA hr2 (jA (pv 1) (jA (cal GD hr (jA (jW (jA (pv 3) (jA jB jC))) (jA (jW (jA (pv 2) (jA jB jC))) jC))) jC)))))) (jF (jO (pv 1)))), ?_⟩;try dsimp only[cxK]
  refine⟨_,rfl,a,_,rfl,ha,λo=>⟨a,o,_,rfl,jE, ?_⟩⟩;have b1:But a H (upd H a (.frz o (.dK [(.inl M,.int n)]))):=λc u h n=>by rw[jG n];exact h
  have e1:(upd H a (.frz o (.dK [((.inl M:Key),V.int n)]))) a=some (.frz o (.dK [(.inl M,.int n)])):=jE;generalize upd H a (.frz o (.dK [((.inl M:Key),V.int n)]))=H1 at b1 e1;refine wU (HtI K H1 a M n) (.mk (Same.refl _) (by rw[tK rfl];exact JF (hna H1))) (λi σ H2 _ h=>?_) (λi k x p σ H2 hx hp h=>?_) (fun σ H2 h=>?_)
  ·obtain⟨s2,_⟩:=h;exact s2 _ _ e1
  ·obtain⟨s2,hn⟩:=h
   match i,hx,hn with
   | 0,hx,hn=>
    rw[tK rfl]at hn;cases hx;have s3:Same H2 (upd H2 p (.tup [kV (.inl M),.int n])):=jY _ hp;have e3:(upd H2 p (.tup [kV (.inl M),.int n])) p=some (.tup [kV (.inl M),.int n]):=jE;generalize upd H2 p (.tup [kV (.inl M),.int n])=H3 at s3 e3;refine gT2 (SqT.of e3) rfl ?_;obtain⟨pt,rfl,qt⟩:=hn.same s3;have hM:((M:Int):Rat)≠0:=λz=>by
     have:M=0:=Rat.intCast_inj.mp (by rw[z];rfl);omega
    refine⟨_,rfl,_,rfl,uX,λz1 H4 n4 s4 e4=>⟨_,rfl,uX,λy1 H5 n5 s5 e5=>?_⟩⟩;refine⟨z1,y1,_,_,_,_,rfl,HU (SqT.of (s5 _ _ e4)),HU (SqT.of e5),(NC (jP nb #[1]) #[1]).fr uU,(NC (jP Mb #[1]) #[1]).fr uU,WS hM,λr6 H6 n6 s6 e6=>?_⟩;have e6:=divAt hM e6;have sz6:=frac_sz M0 Mb nb;refine⟨pt,r6,_,_,_,_,rfl,yM (s4.trans (s5.trans s6)) qt,SqT.of e6,(NZ 7899).fr uU,sz6.fr uU,λr7 H7 n7 s7 e7=>?_⟩;have e7:=addAt e7;refine .mk (s2.trans (s3.trans (s4.trans (s5.trans (s6.trans s7))))) ?_;rw[tJ #[0]];have:=NumH.of e7;rw[Rat.zero_add]at this;exact this
   | i+1,hx,_=>simp at hx
  ·obtain⟨s2,hn⟩:=h;exact⟨_,rfl,go _ H2 (λc u h n=>s2 _ _ (b1 c u h n)) hn⟩
def AD(e1:Int×Rat)(A:Tb)(e2:Int×Rat):Tb:=xM A (e1.1+e2.1) (tv A (e1.1+e2.1)+e1.2*e2.2)
def IQ(T2:Tb)(A:Tb)(e1:Int×Rat):Tb:=T2.foldl (AD e1) A
def uC(T1 T2:Tb):Tb:=T1.foldl (IQ T2) []
theorem GB{α β:Type}{f:β->α->β}{l:List α}{i:Nat}{x:α}{b:β}(h:l[i]? = some x):(l.take (i+1)).foldl f b=f ((l.take i).foldl f b) x:=by
 rw[hW,h,List.foldl_append]
 rfl
theorem EI{α β γ:Type}{F:α->β->Prop}{G:α->γ->Prop}{g:β->γ} :∀{l1:List α} {l2:List β},Paired F l1 l2->(∀(i:Nat) (a:α) (b:β),l1[i]? = some a->l2[i]? = some b->F a b->G a (g b))->Paired G l1 (l2.map g)
 | _,_,.nil,_=>.nil
 | _,_,.cons h t,k=>.cons (k 0 _ _ rfl rfl h) (EI t λi a b h1 h2=>k (i+1) a b h1 h2)
def EntH(M:Int)(B:Nat)(Hs H:Hp)(hd:Addr)(kv:Key×V)(e:Int×Rat):Prop:=kv.1=.inl e.1/\∃(c:Addr) (n:Int),kv.2=.ref c/\Hs c=none/\c≠hd/\H c=some (.dK [(.inl M,.int n)])/\((n:Int):Rat)=e.2*(M:Rat)/\n.natAbs<=B*2^7600
theorem EntH.go{M:Int}{B B':Nat}{Hs H H':Hp}{hd:Addr}{kv:Key×V}{e:Int×Rat}(h:EntH M B Hs H hd kv e)(k:∀c,kv.2=.ref c->Hs c=none->c≠hd->∀o,H c=some o->H' c=some o)(hB:B<=B'):EntH M B' Hs H' hd kv e:=by
 obtain⟨h1,c,n,h2,h3,h4,h5,h6,h7⟩:=h;exact⟨h1,c,n,h2,h3,h4,k c h2 h3 h4 _ h5,h6,nN h7 (gQ _ hB)⟩
structure HpI(M:Int)(B:Nat)(Hs H:Hp)(hd:Addr)(hs:List (Key×V))(A:Tb):Prop where
 e:H hd=some (.dK hs)
 pr:Paired (EntH M B Hs H hd) hs A
 nd:(hs.map (·.2)).Nodup
 ndA:(A.map (·.1)).Nodup
 ln:A.length<=B
theorem HpI.go{M:Int}{B:Nat}{Hs H H':Hp}{hd:Addr}{hs:List (Key×V)}{A:Tb}(I:HpI M B Hs H hd hs A)(e:H' hd=some (.dK hs))(k:∀c,Hs c=none->c≠hd->∀o,H c=some o->H' c=some o):HpI M B Hs H' hd hs A:=⟨e,Paired.to (λ_ _ h=>h.go (λc _ h1 h2=>k c h1 h2) uU) I.pr,I.nd,I.ndA,I.ln⟩
theorem FA{M:Int}{B:Nat}{Hs H:Hp}{hd:Addr}{k:Int} :∀{hs:List (Key×V)} {A:Tb},Paired (EntH M B Hs H hd) hs A->(∃(i:Nat) (c:Addr) (n:Int),hs[i]? = some (.inl k,.ref c)/\A[i]? = some (k,tv A k)/\qR hs (.inl k:Key)=some (.ref c)/\Hs c=none/\c≠hd/\H c=some (.dK [(.inl M,.int n)])/\((n:Int):Rat)=tv A k*(M:Rat)/\n.natAbs<=B*2^7600)∨(qR hs (.inl k:Key)=none/\k∉A.map (·.1)/\∀p∈hs,p.1≠(.inl k:Key))
 | [],[],.nil=>.inr ⟨rfl,by simp,λ_ h=>nomatch h⟩
 | kv::hs,e::A,.cons h t=>by
  rw[kX];by_cases q:e.1=k
  ·obtain⟨h1,c,n,h2,h3,h4,h5,h6,h7⟩:=h;obtain⟨k1,v1⟩:=kv;obtain⟨e1,x1⟩:=e;have h1:k1=.inl e1:=h1;have h2:v1=.ref c:=h2;have q:e1=k:=q;subst h1 h2 q;rw[tK rfl,yJ rfl];exact .inl ⟨0,c,n,rfl,rfl,rfl,h3,h4,h5,h6,h7⟩
  ·have n:kv.1≠(.inl k:Key):=λz=>q (by rw[h.1]at z;exact Sum.inl.inj z);have e1:qR (kv::hs) (.inl k:Key)=qR hs (.inl k:Key):=by unfold qR;rw[List.find?_cons,mN n]
   rw[tJ q,e1];rcases FA t with⟨i,c,m,z1,z2,z3⟩ | ⟨z1,z2,z3⟩
   ·exact .inl ⟨i+1,c,m,z1,z2,z3⟩
   ·exact .inr ⟨z1,λz=>by rcases mX.mp z with z | z;exact q z.symm;exact z2 z,λp hp=>by rcases mX.mp hp with rfl | hp;exact n;exact z3 p hp⟩
theorem get_one{M n:Int} :qR [((.inl M:Key),V.int n)] (.inl M)=some (.int n):=yJ rfl
theorem put_one{M n m:Int} :qU [((.inl M:Key),V.int n)] (.inl M) (.int m)=[(.inl M,.int m)]:=by
 unfold qU;simp
theorem put_nil{M m:Int} :qU ([]:List (Key×V)) (.inl M) (.int m)=[(.inl M,.int m)]:=rfl
theorem HpI.there{M:Int}{B:Nat}{Hs H4:Hp}{hd c:Addr}{hs:List (Key×V)}{A:Tb}{k n m:Int}{y:Rat}{i:Nat}(I:HpI M B Hs H4 hd hs A)(hi:hs[i]? = some (.inl k,.ref c))(ai:A[i]? = some (k,tv A k))(fc:Hs c=none)(ch:c≠hd)(en:((n:Int):Rat)=tv A k*(M:Rat))(bn:n.natAbs<=B*2^7600)(em:((m:Int):Rat)=y*(M:Rat))(bm:m.natAbs<=2^7600):HpI M (B+1) Hs (upd H4 c (.dK [(.inl M,.int (n+m))])) hd hs (xM A k (tv A k+y)):=by
 have km:k∈A.map (·.1):=by
  have:=List.mem_map_of_mem (f:=(·.1)) (gM ai);exact this
 have pq:xM A k (tv A k+y)=A.map λe=>if e.1=k then(e.1,tv A k+y)else e:=by unfold xM;rw[tK (any_key.mpr km)]
 refine⟨by rw[jG (Ne.symm ch)];exact I.e, ?_,I.nd,yQ I.ndA, ?_⟩
 ·rw[pq];refine EI I.pr λj a b ha hb h=>?_;by_cases q:b.1=k
  ·have j1:(A.map (·.1))[j]? = some k:=by rw[hU,hb];exact congrArg some q
   have j2:(A.map (·.1))[i]? = some k:=by rw[hU,ai];rfl
   have ij:j=i:=(List.getElem?_inj (gB.mp j1).1 I.ndA).mp (j1.trans j2.symm);subst ij;rw[hi]at ha;cases ha;rw[tK q];refine⟨by rw[q],c,n+m,rfl,fc,ch,jE, ?_, ?_⟩
   ·show((n+m:Int):Rat)=(tv A k+y)*(M:Rat);rw[Rat.intCast_add,en,em]
    grind
   ·have:=Int.natAbs_add_le n m;rw[Nat.add_mul,Nat.one_mul];omega
  ·rw[tJ q];refine h.go (λc' hc' _ _ o ho=>?_) (Nat.le_succ _);have:c'≠c:=λz=>by
    subst z;have j1:(hs.map (·.2))[j]? = some (.ref c'):=by rw[hU,ha];exact congrArg some hc'
    have j2:(hs.map (·.2))[i]? = some (.ref c'):=by rw[hU,hi];rfl
    have ij:j=i:=(List.getElem?_inj (gB.mp j1).1 I.nd).mp (j1.trans j2.symm);subst ij;rw[ai]at hb;cases hb;exact q rfl
   rw[jG this];exact ho
 ·have:=congrArg List.length pq;rw[mL]at this;rw[this];exact nN I.ln (Nat.le_succ _)
theorem HpI.new{M:Int}{B:Nat}{Hs H4:Hp}{hd z:Addr}{hs:List (Key×V)}{A:Tb}{k m:Int}{y:Rat}(I:HpI M B Hs H4 hd hs A)(nk:k∉A.map (·.1))(fz:Hs z=none)(zh:z≠hd)(nz:∀p∈hs,p.2≠.ref z)(em:((m:Int):Rat)=y*(M:Rat))(bm:m.natAbs<=2^7600):HpI M (B+1) Hs (upd (upd H4 hd (.dK (hs++[(.inl k,.ref z)]))) z (.dK [(.inl M,.int m)])) hd (hs++[(.inl k,.ref z)]) (xM A k (tv A k+y)):=by
 rw[zT nk,xL nk,Rat.zero_add];refine⟨by rw[jG (Ne.symm zh)];exact jE,Paired.app ?_ (.cons ⟨rfl,z,m,rfl,fz,zh,jE,em, ?_⟩ .nil), ?_, ?_, ?_⟩
 ·have go:∀{l1:List (Key×V)} {l2:Tb},(∀p∈l1,p∈hs)->Paired (EntH M B Hs H4 hd) l1 l2->Paired (EntH M (B+1) Hs (upd (upd H4 hd (.dK (hs++[(.inl k,.ref z)]))) z (.dK [(.inl M,.int m)])) hd) l1 l2:=by
   intro l1 l2 sub h;induction h with
   | nil=>exact .nil
   | @cons a b _ _ h _ ih=>
    refine .cons (h.go (λc hc _ _ o ho=>?_) (Nat.le_succ _)) (ih λp hp=>sub p (gN _ hp));obtain⟨_,c',_,q1,_,q2,_⟩:=h;rw[hc]at q1;cases q1;rw[jG (λy=>nz a (sub a (gZ ..)) (by rw[hc,y])),jG q2];exact ho
  exact go (λ_ h=>h) I.pr
 ·rw[Nat.add_mul,Nat.one_mul];omega
 ·rw[mM,mB];refine⟨I.nd,by simp,λa ha b hb=>?_⟩;rw[mW,List.map_nil,gY]at hb;obtain⟨p,hp,rfl⟩:=nP.mp ha;rw[hb];exact nz p hp
 ·rw[mM,mB];refine⟨I.ndA,by simp,λa ha b hb=>?_⟩;rw[mW,List.map_nil,gY]at hb;rintro rfl;rw[hb]at ha;exact nk ha
 ·rw[List.length_append];exact Nat.add_le_add_right I.ln 1
def DK(K:tL):Sp:=λvs H Q _=>∃(a b:Addr) (k1 k2:List (Key×V)) (T1 T2:Tb) (D1 D2:Int),vs=[.ref a,.ref b]/\a≠b/\Rd H a (.dK k1)/\Rd H b (.dK k2)/\Paired (EntQ K H) k1 T1/\Paired (EntQ K H) k2 T2/\(T1.map (·.1)).Nodup/\(T2.map (·.1)).Nodup/\T1.length<=500/\T2.length<=500/\T1.length*T2.length<=3000/\0<D1/\D1.natAbs<2^1400/\0<D2/\D2.natAbs<2^1400/\(∀e∈T1,(e.2.den:Int)∣D1)/\(∀e∈T2,(e.2.den:Int)∣D2)/\(∀e∈T1,e.2.num.natAbs<2^2400)/\(∀e∈T2,e.2.num.natAbs<2^2400)/\(∀e∈T1,e.1.natAbs<2^40)/\(∀e∈T2,e.1.natAbs<2^40)/\
 ∀(d:Addr) (ks:List (Key×V)) (H':Hp),H d=none->(∀c u,H c=some u->c≠a->c≠b->H' c=some u)->Rd H' b (.dK k2)->H' d=some (.dK ks)->Paired (EntQ K H') ks (uC T1 T2)->Q (.ref d) H'
theorem WX{T1 T2:Tb}{e1 e2:Int×Rat}(h1:e1∈T1)(h2:e2∈T2):(((e1.2.num*(kM T1/(e1.2.den:Int)))*(e2.2.num*(kM T2/(e2.2.den:Int))):Int):Rat)=(e1.2*e2.2)*((kM T1*kM T2:Int):Rat):=by
 have a:=XB (List.mem_map_of_mem (f:=(·.2)) h1);have b:=XB (List.mem_map_of_mem (f:=(·.2)) h2);unfold kM;rw[Rat.intCast_mul,a,b,Rat.intCast_mul]
 grind
def B2(d1 d2:Addr)(H H':Hp):Prop:=∀c u,H c=some u->c≠d1->c≠d2->H' c=some u
theorem B2.tup{d1 d2 c:Addr}{H H':Hp}{xs:List V}{j1 j2:List (Key×V)}(b:B2 d1 d2 H H')(e1:H d1=some (.dK j1))(e2:H d2=some (.dK j2))(h:H c=some (.tup xs)):H' c=some (.tup xs):=b c _ h (λz=>by rw[z,e1]at h;cases h) (λz=>by rw[z,e2]at h;cases h)
theorem EntR.but{C:Int}{H H':Hp}{p:Addr}{ah:List (Key×V)}{kv:Key×V}{x:Int×Rat}(h:EntR C H kv x)(e:Rd H p (.dK ah))(b:But p H H'):EntR C H' kv x:=by
 obtain⟨h1,c,h2,h3⟩:=h;refine⟨h1,c,h2,b _ _ h3 λz=>?_⟩;rw[z]at h3;rcases e with e | ⟨o,e⟩<;>rw[e]at h3<;>cases h3
structure FnI(K:tL)(M:Int)(B:Nat)(H H2:Hp)(a b d hd:Addr)(oh:Obj)(hs:List (Key×V))(A:Tb)(i:Nat)(ys:List (Key×V))(H':Hp):Prop where
 s:∀c u,H2 c=some u->c≠a->c≠b->H' c=some u
 f:H' hd=some (.frz oh (.dK hs))
 e:H' d=some (.dK ys)
 later:∀(j:Nat) (kv:Key×V) (x:Int×Rat),i<=j->hs[j]? = some kv->A[j]? = some x->EntH M B H2 H' hd kv x
 pr:Paired (EntQ K H') ys (A.take i)
theorem EJ{α β:Type}{F:α->β->Prop}{l1:List α}{l2:List β}(h:Paired F l1 l2){i:Nat}{a:α}{b:β}(h1:l1[i]? = some a)(h2:l2[i]? = some b):F a b:=by
 obtain⟨y,hy,k⟩:=Paired.at h h1;rw[h2]at hy;cases hy;exact k
inductive M1I(H2:Hp)(a b d1 d2 hd:Addr)(o1:Obj)(j1 j2:List (Key×V))(M:Int)(T1 T2:Tb)(i:Nat):L2.St->Hp->Prop where
 | mk {u5 u6 u7 u8 u9 u10 u11 u12:Option V} {H':Hp} {hs:List (Key×V)} (s:B2 d1 d2 H2 H') (f1:H' d1=some (.frz o1 (.dK j1))) (r2:Rd H' d2 (.dK j2)) (I:HpI M (i*T2.length) H2 H' hd hs ((T1.take i).foldl (IQ T2) [])):M1I H2 a b d1 d2 hd o1 j1 j2 M T1 T2 i [some (.ref a),some (.ref b),some (.ref d1),some (.ref d2),some (.ref hd),u5,u6,u7,u8,u9,u10,u11,u12] H'
inductive M2I(H2:Hp)(a b d1 d2 hd:Addr)(o1 o2:Obj)(j1 j2:List (Key×V))(M:Int)(i:Nat)(A:Tb)(T2:Tb)(e1:Int×Rat)(t1 C1:Int)(j:Nat):L2.St->Hp->Prop where
 | mk {u8 u9 u10 u11 u12:Option V} {H':Hp} {hs:List (Key×V)} (s:B2 d1 d2 H2 H') (f1:H' d1=some (.frz o1 (.dK j1))) (f2:H' d2=some (.frz o2 (.dK j2))) (I:HpI M (i*T2.length+j) H2 H' hd hs ((T2.take j).foldl (AD e1) A)):M2I H2 a b d1 d2 hd o1 o2 j1 j2 M i A T2 e1 t1 C1 j [some (.ref a),some (.ref b),some (.ref d1),some (.ref d2),some (.ref hd),some (.int e1.1),some (.int t1),some (.int C1),u8,u9,u10,u11,u12] H'
theorem scTm:FnScope ["one","other","first","second","heaps","key","top","bottom","more","over","under","heap","product"] ["one","other"] (jK uM):=scK (by decide +kernel)
theorem SG(F:Fun K "tables_multiplied" "tables_multiplied" uM f fd)(GL:DG P w K mg base 4 "levelled" OM ["table"] (spLev K))(GH:DG P w K mg base 4 "heap_total" IC ["heap"] (VA K)):FnOk P w K mg base CX0 5 f fd ["one","other"] (DK K):=by
 refine F.ok scTm (λvs H Q E h=>?_) #[3]
 ·obtain⟨a,b,k1,k2,T1,T2,D1,D2,rfl,_⟩:=h
  rfl
 ·obtain⟨a,b,k1,k2,T1,T2,D1,D2,rfl,ab,ra,rb,p1,p2,nd1,nd2,l1,l2,l12,D10,D1b,D20,D2b,v1,v2,b1,b2,y1,y2,go⟩:=h;have hu:_+1<cLine:=gU (Nat.add_le_add_left (by decide:1<=64) _) hr.units;refine⟨_,jD (jL (i:=2) scTm.nd rfl (Or.inl rfl) (cal GL hr (jA (pv 0) jC))) (jD (jL (i:=3) scTm.nd rfl (Or.inl rfl) (cal GL hr (jA (pv 1) jC))) (jD (jL (i:=4) scTm.nd rfl (Or.inl rfl) (EG)) (jD (kU PassesOwn.never rfl (xO (CC (pv 2))) (qD rfl (jM (jJ (i:=5) scTm.nd rfl (Or.inl rfl)) (jM (qD rfl (jM (jJ (i:=6) scTm.nd rfl (Or.inl rfl)) (jM (jJ (i:=7) scTm.nd rfl (Or.inl rfl)) kP))) kP))) (jF (kU PassesOwn.never rfl (xO (CC (pv 3))) (qD rfl (jM (jJ (i:=8) scTm.nd rfl (Or.inl rfl)) (jM (qD rfl (jM (jJ (i:=9) scTm.nd rfl (Or.inl rfl)) (jM (jJ (i:=10) scTm.nd rfl (Or.inl rfl)) kP))) kP))) (jD (jL (i:=11) scTm.nd rfl (Or.inl rfl) (VX (pv 4) (jH kJ (pv 5) (pv 8)) EG ⟨rfl,rfl,rfl,rfl⟩)) (jD (jL (i:=12) scTm.nd rfl (Or.inl rfl) (jH qI (pv 7) (pv 10))) (jF (yV hu (pv 11) (pv 12) (jH kJ (EH hu (pv 11) (pv 12) jB ⟨rfl,rfl,rfl,rfl⟩) (jH qI (pv 6) (pv 9))) rfl))))))) (jF (jO (AV (own:=2) (idx:=[]) (N:=["key","heap"]) rfl rfl rfl (by decide +kernel) (by decide +kernel) (λ_ _ h=>nomatch h) (yI rfl) rfl (λ_ _ _ h=>nomatch h) (xO (CC (pv 4))) (λC fp s2 H2=>show PG (jN _ ["key","heap"] _ _ C fp s2 H2) _ (FI K 2 (vX (jT 0) (vX (jT 1) gNil)))from qD (X:=jN _ ["key","heap"] _ _ C fp s2 H2) rfl (jM (jJ (i:=0) (show List.Nodup (["key","heap"]:List Str) by decide +kernel) rfl (Or.inl rfl) (Or.inr rfl)) (jM (jJ (i:=1) (show List.Nodup (["key","heap"]:List Str) by decide +kernel) rfl (Or.inl rfl) (Or.inr rfl)) kP))) (λC fp s2 H2=>pv 0) (λC fp s2 H2=>cal GH hr (jA (pv 1) jC)))))))), ?_⟩
  try dsimp only[cxK]
  have rne:∀{c:Addr} {kk:List (Key×V)},Rd H c (.dK kk)->∀{d:Addr},H d=none->d≠c:=fun {c kk} r {d} n z=>by
   rw[z]at n;rcases r with r | ⟨o,r⟩<;>rw[r]at n<;>cases n
  refine⟨_,rfl,a,k1,T1,D1,rfl,ra,p1,nd1,by omega,D10,D1b,v1,λe he=>jP (b1 e he) #[1],λd1 j1 H1 n1 t1 ⟨oa,fa⟩ e1 r1=>?_⟩;have rb1:Rd H1 b (.dK k2):=by
   rcases rb with r | ⟨o,r⟩
   ·exact .inl (t1 _ _ r (Ne.symm ab))
   ·exact .inr ⟨o,t1 _ _ r (Ne.symm ab)⟩
  have d1b:d1≠b:=rne rb n1;refine⟨_,rfl,b,k2,T2,D2,rfl,rb1,Paired.to (λ_ _ h=>h.but ra t1) p2,nd2,by omega,D20,D2b,v2,λe he=>jP (b2 e he) #[1],λd2 j2 H2 n2 t2 ⟨ob,fb⟩ e2 r2=>?_⟩;have d21:d2≠d1:=λz=>by rw[z,e1]at n2;cases n2
  have e1:H2 d1=some (.dK j1):=t2 _ _ e1 d1b;have r1:Paired (EntR (kM T1) H2) j1 T1:=Paired.to (λ_ _ h=>h.but rb1 t2) r1;have s02:∀c u,H c=some u->c≠a->c≠b->H2 c=some u:=λc u h na nb=>t2 _ _ (t1 _ _ h na) nb;have fr2:∀c,H2 c=none->H c=none:=λc n=>by
   cases q:H c with
   | none=>rfl
   | some u=>
    by_cases ca:c=a
    ·rw[ca,t2 _ _ fa ab]at n;cases n
    ·by_cases cb:c=b
     ·rw[cb,fb]at n;cases n
     ·rw[s02 c u q ca cb]at n;cases n
  have L1:j1.length=T1.length:=Paired.length r1;have L2':j2.length=T2.length:=Paired.length r2;have c1:0<kM T1/\(kM T1).natAbs<2^1400:=⟨IR _,gU (AJ (NK v1) D10) D1b⟩;have c2:0<kM T2/\(kM T2).natAbs<2^1400:=⟨IR _,gU (AJ (NK v2) D20) D2b⟩;have tb:∀{T:Tb} {e:Int×Rat},e∈T->0<kM T->(kM T).natAbs<2^1400->e.2.num.natAbs<2^2400->(e.2.num*(kM T/(e.2.den:Int))).natAbs<2^3800:=fun {T e} he h0 h1 h2=>by
   have dp:=e.2.den_pos;have q:=gU (LwM.AI (kM T) (e.2.den:Int) #[0]) h1;exact AO (m:=2400) (n:=1400) h2 q
  intro hd nhd;have hd1:d1≠hd:=λz=>by rw[z,nhd]at e1;cases e1
  have hd2:d2≠hd:=λz=>by rw[z,nhd]at e2;cases e2
  refine⟨_,rfl,d1,j1,rfl,.inl (by rw[jG hd1];exact e1),λo1 H4 f1 b4 fr4=>⟨d1,o1,j1,rfl,f1, ?_⟩⟩;have h4:H4 hd=some (.dK []):=b4 _ _ jE (Ne.symm hd1);have s4:B2 d1 d2 H2 H4:=λc u h n1 n2=>b4 c u (by rw[jG (jQ h nhd)];exact h) n1;have r24:Rd H4 d2 (.dK j2):=.inl (b4 _ _ (by rw[jG hd2];exact e2) d21);refine wU (M1I H2 a b d1 d2 hd o1 j1 j2 (kM T1*kM T2) T1 T2) (.mk (hs:=[]) s4 f1 r24 ⟨h4,.nil,mU,mU,nY _⟩) (λi σ H5 _ h=>?_) (λi k x p σ H5 hx hp h=>?_) (fun σ H5 h=>?_)
  ·obtain⟨_,f1,_,_⟩:=h;exact f1
  ·obtain⟨s5,f5,r5,I5⟩:=h;obtain⟨e,he,hk,c,hc,ec⟩:=Paired.at r1 hx;have hk:k=.inl e.1:=hk;have hc:x=.ref c:=hc;subst hk hc;have em:=gM he;have il:i<T1.length:=(gB.mp he).1;have s6:Same H5 (upd H5 p (.tup [kV (.inl e.1),.ref c])):=jY _ hp;have e6:(upd H5 p (.tup [kV (.inl e.1),.ref c])) p=some (.tup [kV (.inl e.1),.ref c]):=jE;generalize upd H5 p (.tup [kV (.inl e.1),.ref c])=H6 at s6 e6;refine⟨p,_,rfl,SqT.of e6,rfl,_,_,rfl,_,_,rfl,c,_,rfl,SqT.of (s6 _ _ (s5.tup e1 e2 ec)),rfl,_,_,rfl,_,_,rfl,rfl,rfl, ?_⟩;refine⟨_,rfl,d2,j2,rfl,IF r5 s6,λo2 H7 f7 b7 fr7=>⟨d2,o2,j2,rfl,f7, ?_⟩⟩;have s7:B2 d1 d2 H2 H7:=λc u h n1 n2=>b7 _ _ (s6 _ _ (s5 c u h n1 n2)) n2;have f17:=b7 _ _ (s6 _ _ f5) (Ne.symm d21);have h57:∀{c:Addr} {kk:List (Key×V)},c≠d2->H5 c=some (.dK kk)->H7 c=some (.dK kk):=λn h=>b7 _ _ (s6 _ _ h) n;rename_i u5 u6 u7 u8 u9 u10 u11 u12 hs;have I7:HpI (kM T1*kM T2) (i*T2.length+0) H2 H7 hd hs ((T1.take i).foldl (IQ T2) []):=I5.go (h57 (Ne.symm hd2) I5.e) λc n _ o ho=>b7 _ _ (s6 _ _ ho) (λz=>by rw[z,e2]at n;cases n);have tb1:=tb em c1.1 c1.2 (b1 e em);generalize ht1:e.2.num*(kM T1/(e.2.den:Int))=t1 at tb1;generalize hA:(T1.take i).foldl (IQ T2) []=AA at I7;refine wU (M2I H2 a b d1 d2 hd o1 o2 j1 j2 (kM T1*kM T2) i AA T2 e t1 (kM T1)) (.mk s7 f17 f7 I7) (λj σ H8 _ h=>?_) (λj k' x' p' σ H8 hx' hp' h=>?_) (fun σ H8 h=>?_)
   ·obtain⟨_,_,f8,_⟩:=h;exact f8
   ·obtain⟨s8,f8,g8,I8⟩:=h;rename_i w8 w9 w10 w11 w12 hs';obtain⟨e',he',hk',c',hc',ec'⟩:=Paired.at r2 hx';have hk':k'=.inl e'.1:=hk';have hc':x'=.ref c':=hc';subst hk' hc';have em':=gM he';have jl:j<T2.length:=(gB.mp he').1;have s9:Same H8 (upd H8 p' (.tup [kV (.inl e'.1),.ref c'])):=jY _ hp';have e9:(upd H8 p' (.tup [kV (.inl e'.1),.ref c'])) p'=some (.tup [kV (.inl e'.1),.ref c']):=jE;generalize upd H8 p' (.tup [kV (.inl e'.1),.ref c'])=H9 at s9 e9;refine⟨p',_,rfl,SqT.of e9,rfl,_,_,rfl,_,_,rfl,c',_,rfl,SqT.of (s9 _ _ (s8.tup e1 e2 ec')),rfl,_,_,rfl,_,_,rfl,rfl,rfl, ?_⟩;have tb2:=tb em' c2.1 c2.2 (b2 e' em');have mo:=WX em em';rw[ht1]at mo;generalize e'.2.num*(kM T2/(e'.2.den:Int))=t2 at tb2 mo;have bm:(t1*t2).natAbs<=2^7600:=nU (AO (m:=3800) (n:=3800) tb1 tb2);have st:(T2.take (j+1)).foldl (AD e) AA=xM ((T2.take j).foldl (AD e) AA) (e.1+e'.1) (tv ((T2.take j).foldl (AD e) AA) (e.1+e'.1)+e.2*e'.2):=GB he';have cnt:i*T2.length+j<3000:=by
     have:i*T2.length+T2.length<=T1.length*T2.length:=by
      rw[<-Nat.succ_mul];exact gQ _ il
     omega
    refine⟨_,rfl,hd,rfl,.inl ⟨_,.inl (s9 _ _ I8.e)⟩,_,rfl,_,rfl,_,_,rfl,rfl,λz nz=>?_⟩;have s10:Same H9 (upd H9 z (.dK [])):=jY _ nz;have e10:(upd H9 z (.dK [])) z=some (.dK []):=jE;generalize upd H9 z (.dK [])=H10 at s10 e10;have I10:=I8.go ((s9.trans s10) _ _ I8.e) λc _ _ o ho=>(s9.trans s10) _ _ ho;have lh:hs'.length=((T2.take j).foldl (AD e) AA).length:=Paired.length I10.pr;have ll:=I10.ln;have f10:=(s9.trans s10) _ _ f8;have g10:=(s9.trans s10) _ _ g8;have b10:B2 d1 d2 H2 H10:=λc u h n1 n2=>(s9.trans s10) _ _ (s8 c u h n1 n2);refine⟨hs',.inl (e.1+e'.1),I10.e,rfl,by rw[lh,sizeLine_eq];omega,λv hv=>?_,λhn=>?_⟩
    ·rcases FA (k:=e.1+e'.1) I10.pr with⟨ii,c,n,hi,ai,hvv,fc,ch,hcn,en,bn⟩ | ⟨hvv,_⟩
     ·rw[hvv]at hv;cases hv;dsimp only[jT];refine⟨_,rfl,_,rfl,_,_,rfl,rfl,⟨jP c1.2 #[1],jP c2.2 #[1]⟩, ?_⟩;refine⟨_,rfl,c,rfl,.inl ⟨_,.inl hcn⟩,_,rfl,_,DGet.k (k:=.inl (kM T1*kM T2)) hcn, ?_⟩;rw[get_one];refine⟨_,rfl,_,rfl,_,_,rfl,rfl,⟨jP tb1 #[1],jP tb2 #[1]⟩,_,_,rfl,rfl,_,rfl,_,rfl,c,_,rfl,DPut.k (k:=.inl (kM T1*kM T2)) hcn (by show 1<sizeLine;decide), ?_⟩;rw[put_one];have cd:∀{d:Addr} {o:HO},H2 d=some o->c≠d:=λh z=>by rw[z,h]at fc;cases fc
      refine .mk (hs:=hs') (λx u h n1 n2=>by rw[jG (Ne.symm (cd h))];exact b10 x u h n1 n2) (by rw[jG (Ne.symm (cd e1))];exact f10) (by rw[jG (Ne.symm (cd e2))];exact g10) ?_;rw[st];exact I10.there hi ai fc ch en bn mo bm
     ·rw[hvv]at hv;cases hv
    ·rcases FA (k:=e.1+e'.1) I10.pr with⟨ii,c,n,hi,ai,hvv,_⟩ | ⟨hvv,nk,out⟩
     ·rw[hvv]at hn;cases hn
     ·rw[JY out];have zh:z≠hd:=λy=>by rw[y,s9 _ _ I8.e]at nz;cases nz
      have fz:H2 z=none:=by
       cases q:H2 z with
       | none=>rfl
       | some u=>
        by_cases y1:z=d1
        ·rw[y1,s9 _ _ f8]at nz;cases nz
        ·by_cases y2:z=d2
         ·rw[y2,s9 _ _ g8]at nz;cases nz
         ·rw[s9 _ _ (s8 z u q y1 y2)]at nz;cases nz
      have nzs:∀p∈hs',p.2≠.ref z:=λp hp y=>by
       obtain⟨ix,hix⟩:=gL.mp hp;obtain⟨ee,_,_,cc,nn,q1,_,_,q2,_⟩:=Paired.at I8.pr hix;rw[y]at q1;cases q1;rw[s9 _ _ q2]at nz;cases nz
      have ez:(upd H10 hd (.dK (hs'++[(.inl (e.1+e'.1),.ref z)]))) z=some (.dK []):=by rw[jG zh];exact e10
      dsimp only[jT];refine⟨_,rfl,_,rfl,_,_,rfl,rfl,⟨jP c1.2 #[1],jP c2.2 #[1]⟩, ?_⟩;refine⟨_,rfl,z,rfl,.inl ⟨_,.inl ez⟩,_,rfl,_,DGet.k (k:=.inl (kM T1*kM T2)) ez, ?_⟩;refine⟨_,rfl,_,rfl,_,_,rfl,rfl,⟨jP tb1 #[1],jP tb2 #[1]⟩,_,_,rfl,rfl,_,rfl,_,rfl,z,_,rfl,DPut.k (k:=.inl (kM T1*kM T2)) ez (by show 0<sizeLine;decide), ?_⟩;rw[put_nil,Int.zero_add];have cd:∀{d:Addr} {o:HO},H2 d=some o->d≠z/\d≠hd:=λh=>⟨(λy=>by rw[y,fz]at h;cases h),(λy=>by rw[y,nhd]at h;cases h)⟩;refine .mk (hs:=hs'++[(.inl (e.1+e'.1),.ref z)]) (λx u h n1 n2=>by rw[jG (cd h).1,jG (cd h).2];exact b10 x u h n1 n2) (by rw[jG (cd e1).1,jG (cd e1).2];exact f10) (by rw[jG (cd e2).1,jG (cd e2).2];exact g10) ?_;rw[st];exact I10.new nk fz zh nzs mo bm
   ·obtain⟨s8,f8,g8,I8⟩:=h;rename_i hs';rw[L2',mG,<-Nat.succ_mul]at I8;refine .mk (hs:=hs') s8 f8 (.inr ⟨o2,g8⟩) ?_;rw[GB he,hA];exact I8
  ·obtain⟨s5,f5,r5,I5⟩:=h;rw[L1,mG]at I5;rename_i u5 u6 u7 u8 u9 u10 u11 u12 hs;have I5:HpI (kM T1*kM T2) (T1.length*T2.length) H2 H5 hd hs (uC T1 T2):=I5;generalize hA:uC T1 T2=A at I5 go;have lA:hs.length=A.length:=Paired.length I5.pr;have ll:=I5.ln;have M0:0<kM T1*kM T2:=nZ c1.1 c2.1;have Mb:(kM T1*kM T2).natAbs<2^7800:=jP (AO c1.2 c2.2) #[1];have fr5:∀c,H5 c=none->H2 c=none:=λc n=>by
    cases q:H2 c with
    | none=>rfl
    | some u=>
     by_cases y1:c=d1
     ·rw[y1,f5]at n;cases n
     ·by_cases y2:c=d2
      ·rw[y2]at n;rcases r5 with r | ⟨o,r⟩<;>rw[r]at n<;>cases n
      ·rw[s5 c u q y1 y2]at n;cases n
   refine⟨_,rfl,hd,hs,rfl,.inl I5.e,λoh H6 f6 b6 fr6=>⟨hd,oh,hs,rfl,f6,λd H7 n7 s7 e7=>?_⟩⟩;have pr6:Paired (EntH (kM T1*kM T2) (T1.length*T2.length) H2 H6 hd) hs A:=Paired.to (λ_ _ h=>h.go (λc _ _ ch o ho=>b6 _ _ ho ch) uU) I5.pr;have d2n:H2 d=none:=fr5 d (fr6 d n7);have dn:H d=none:=fr2 d d2n;have s26:∀c u,H2 c=some u->c≠d1->c≠d2->H6 c=some u:=λc u h y1 y2=>b6 _ _ (s5 c u h y1 y2) (λz=>by rw[z,nhd]at h;cases h);have nd2':H d2=none:=by
    cases q:H d2 with
    | none=>rfl
    | some u=>
     by_cases y1:d2=a
     ·rw[y1,fa]at n2;cases n2
     ·rw[t1 _ _ q y1]at n2;cases n2
   have dhd:hd≠d:=λz=>by rw[<-z,f6]at n7;cases n7
   refine zF (FnI K (kM T1*kM T2) (T1.length*T2.length) H H2 d1 d2 d hd oh hs A) (by rw[lA,sizeLine_eq];omega) ⟨λc u h na nb=>s7 _ _ (s26 c u h na nb),s7 _ _ f6,e7,λjj kv x _ h1 h2=>(EJ pr6 h1 h2).go (λc _ _ _ o ho=>s7 _ _ ho) uU,.nil⟩ (λi ys H8 h=>⟨h.f,h.e, ?_⟩) ?_ ?_
   ·have:=Paired.length h.pr;rw[this,mD];omega
   ·intro i m ys k x cp H8 hx hm h hcp;have il:i<A.length:=by rw[<-lA];exact(gB.mp hx).1
    have hAi:A[i]? = some A[i]:=gD il;generalize A[i]=e at hAi;have E0:=h.later i _ e uU hx hAi;have E6:=EJ pr6 hx hAi;obtain⟨hk,c,n,hc,fc,ch,h8c,en,bn⟩:=E0;have hk:k=.inl e.1:=hk;have hc:x=.ref c:=hc;subst hk hc;have cd:c≠d:=λz=>by
     obtain⟨_,c6,_,q1,_,_,q2,_⟩:=E6;cases q1;rw[z,n7]at q2;cases q2
    have s9:Same H8 (upd H8 cp (.tup [kV (.inl e.1),.ref c])):=jY _ hcp;have e9:(upd H8 cp (.tup [kV (.inl e.1),.ref c])) cp=some (.tup [kV (.inl e.1),.ref c]):=jE;generalize upd H8 cp (.tup [kV (.inl e.1),.ref c])=H9 at s9 e9;have h9c:=s9 _ _ h8c;have nb:n.natAbs<2^7800:=gU bn (gU (gQ _ (show T1.length*T2.length<=2^12 from nN l12 #[1])) (by rw[<-Nat.pow_add];exact gP #[1] #[1]));refine⟨cp,_,rfl,SqT.of e9,rfl,_,_,rfl,_,_,rfl,rfl,KY,_,rfl,_,rfl,c,_,n,rfl,h9c,M0,Mb,nb,λv H10 b10 nv=>?_⟩;have hM:((kM T1*kM T2:Int):Rat)≠0:=λz=>by
     have:kM T1*kM T2=0:=Rat.intCast_inj.mp (by rw[z];rfl);omega
    have nv:NumH H10 v e.2:=by
     have:((n:Int):Rat)/((kM T1*kM T2:Int):Rat)=e.2:=by rw[en,Rat.mul_div_cancel hM]
     rw[this]at nv;exact nv
    have e10:=b10 _ _ (s9 _ _ h.e) (Ne.symm cd);refine⟨.inl e.1,rfl,e10,CQ hx hm ⟨λx u hx' na nb=>?_, ?_,jE,λjj kv y hj h1 h2=>?_, ?_⟩⟩
    ·rw[jG (λz=>by rw[z,d2n]at hx';cases hx')];exact b10 _ _ (s9 _ _ (h.s x u hx' na nb)) (λz=>by rw[z,fc]at hx';cases hx')
    ·rw[jG dhd];exact b10 _ _ (s9 _ _ h.f) (Ne.symm ch)
    ·refine(h.later jj kv y #[0] h1 h2).go (λc' hc' _ _ o ho=>?_) uU ;have c'c:c'≠c:=λz=>by
      subst z;have j1:(hs.map (·.2))[jj]? = some (.ref c'):=by rw[hU,h1];exact congrArg some hc'
      have j2:(hs.map (·.2))[i]? = some (.ref c'):=by rw[hU,hx];rfl
      have:=(List.getElem?_inj (gB.mp j1).1 I5.nd).mp (j1.trans j2.symm);omega
     have c'd:c'≠d:=λz=>by
      obtain⟨_,c6,_,q1,_,_,q2,_⟩:=EJ pr6 h1 h2;rw[hc']at q1;cases q1;rw[z,n7]at q2;cases q2
     rw[jG c'd];exact b10 _ _ (s9 _ _ ho) c'c
    ·have k1:Paired (EntQ K H10) ys (A.take i):=Paired.to (λ_ _ q=>(q.same s9).but (.inl h9c) b10) h.pr;have k:=AH (k:=e.1) k1 nv;have eq:xM (A.take i) e.1 e.2=A.take (i+1):=by
      rw[zT (wB hAi I5.ndA),hW,hAi]
      rfl
     rw[eq]at k;exact Paired.to (λ_ _ q=>q.upd e10) k
   ·intro ys H8 h;have pr8:=h.pr;rw[lA,mG]at pr8;exact go d ys H8 dn (λc u hc na nb=>h.s c u (s02 c u hc na nb) (λz=>by rw[z,n1]at hc;cases hc) (λz=>by rw[z,nd2']at hc;cases hc)) (.inr ⟨ob,h.s b _ fb (Ne.symm d1b) (λz=>by rw[z,e2]at fb;cases fb)⟩) h.e pr8
structure MulA(T1 T2:Tb)(B:Nat)(A:Tb):Prop where
 nd:(A.map (·.1)).Nodup
 ks:∀k∈A.map (·.1),∃e1∈T1,∃e2∈T2,k=e1.1+e2.1
 ln:A.length<=B
theorem MulA.step{T1 T2 A:Tb}{B:Nat}{e1 e2:Int×Rat}(h:MulA T1 T2 B A)(h1:e1∈T1)(h2:e2∈T2):MulA T1 T2 (B+1) (AD e1 A e2):=by
 refine⟨yQ h.nd,λk hk=>?_, ?_⟩
 ·unfold AD at hk;rw[wE]at hk;split at hk
  ·exact h.ks k hk
  ·rcases mO.mp hk with hk | hk
   ·exact h.ks k hk
   ·exact⟨e1,h1,e2,h2,gY.mp hk⟩
 ·have l:=congrArg List.length (wE A (e1.1+e2.1) (tv A (e1.1+e2.1)+e1.2*e2.2));rw[mL]at l;unfold AD;rw[l];have:=h.ln;split
  ·rw[mL];omega
  ·rw[List.length_append,mL];show A.length+1<=B+1;omega
theorem PD{T1 T2:Tb}{e1:Int×Rat}(h1:e1∈T1):∀(l:Tb) {A:Tb} {B:Nat},(∀e∈l,e∈T2)->MulA T1 T2 B A->MulA T1 T2 (B+l.length) (l.foldl (AD e1) A)
 | [],A,B,_,h=>h
 | e::l,A,B,sub,h=>by
  have:=PD h1 l (λx hx=>sub x (gN _ hx)) (h.step h1 (sub e (gZ ..)));rw[mH,show B+(l.length+1)=B+1+l.length by omega];exact this
theorem PB{T1 T2:Tb} :∀(l:Tb) {A:Tb} {B:Nat},(∀e∈l,e∈T1)->MulA T1 T2 B A->MulA T1 T2 (B+l.length*T2.length) (l.foldl (IQ T2) A)
 | [],A,B,_,h=>by rw[List.length_nil,Nat.zero_mul];exact h
 | e::l,A,B,sub,h=>by
  have:=PB l (λx hx=>sub x (gN _ hx)) (PD (sub e (gZ ..)) T2 (λ_ h=>h) h);rw[mH,Nat.succ_mul,show B+(l.length*T2.length+T2.length)=B+T2.length+l.length*T2.length by omega];exact this
theorem FU(T1 T2:Tb):MulA T1 T2 (T1.length*T2.length) (uC T1 T2):=by
 have:=PB (T1:=T1) (T2:=T2) T1 (A:=[]) (B:=0) (λ_ h=>h) ⟨mU,(λ_ h=>nomatch h),nX _⟩;rw[Nat.zero_add]at this;exact this
def wA(a b:List Int):List Int:=List.zipWith (· + ·) a b
theorem AT:∀(n:Nat) {a b:List Int},a.length=n->b.length=n->pk (wA a b)=pk a+pk b
 | 0,a,b,h1,h2=>by rw[List.length_eq_zero_iff.mp h1,List.length_eq_zero_iff.mp h2];rfl
 | n+1,a,b,h1,h2=>by
  obtain⟨m,y,rfl,hm⟩:=xX h1;obtain⟨m',y',rfl,hm'⟩:=xX h2;unfold wA;rw[List.zipWith_append #[0],yA,yA];show pk (wA m m'++[y+y'])=_;rw[yA,AT n hm hm'];omega
theorem vU:∀{a b:List Int},a.length=b.length->(wA a b).sum=a.sum+b.sum
 | [],[],_=>rfl
 | x::a,y::b,h=>by
  have ih:=vU (a:=a) (b:=b) (by simpa using h);show x+y+(wA a b).sum=x+a.sum+(y+b.sum);omega
theorem uT:∀{a b:List Int},(∀n∈a,0<=n)->(∀n∈b,0<=n)->∀n∈wA a b,0<=n
 | [],_,_,_,n,h=>by simp [wA]at h
 | _::_,[],_,_,n,h=>by simp [wA]at h
 | x::a,y::b,h1,h2,n,h=>by
  have h:n∈(x+y)::wA a b:=h;rcases mX.mp h with rfl | h
  ·have:=h1 x (gZ ..);have:=h2 y (gZ ..);omega
  ·exact uT (λn hn=>h1 n (gN _ hn)) (λn hn=>h2 n (gN _ hn)) n h
theorem mul_ky{ad:Nat}{P1 P2:Pl}(o1:PlOk ad P1)(o2:PlOk ad P2)(hd:vH P1+vH P2<=16):∀k∈(uC (jI P1) (jI P2)).map (·.1),KyP ad k:=λk hk=>by
 obtain⟨e1,h1,e2,h2,rfl⟩:=(FU _ _).ks k hk;obtain⟨x,hx,rfl⟩:=nP.mp h1;obtain⟨y,hy,rfl⟩:=nP.mp h2;have lx:=o1.len x hx;have ly:=o2.len y hy;have dx:x.1.sum<=vH P1:=wD (List.mem_map_of_mem (f:=λz=>z.1.sum) hx);have dy:y.1.sum<=vH P2:=wD (List.mem_map_of_mem (f:=λz=>z.1.sum) hy);refine⟨wA x.1 y.1,by unfold wA;rw[List.length_zipWith];omega,uT (o1.nn x hx) (o2.nn y hy), ?_,(AT ad lx ly).symm⟩;rw[vU #[0]];omega
structure PlB(P:Pl)(D:Int):Prop where
 pos:0<D
 sd:D.natAbs<2^1400
 dv:∀x∈P,(x.2.den:Int)∣D
 nb:∀x∈P,x.2.num.natAbs<2^2400
def OC(K:tL):Sp:=λvs H Q _=>∃(p1 p2:Addr) (ad:Nat) (P1 P2:Pl) (D1 D2:Int),vs=[.ref p1,.ref p2]/\SumQ K H p1 ad P1/\SumQ K H p2 ad P2/\PlOk ad P1/\PlOk ad P2/\P1.length*P2.length<=3000/\Few (tv (uC (jI P1) (jI P2)))/\vH P1+vH P2<=16/\PlB P1 D1/\PlB P2 D2/\
 ∀(p:Addr) (P:Pl) (H':Hp),H p=none->Same H H'->SumQ K H' p ad P->SumT ad (uC (jI P1) (jI P2)) P->Q (.ref p) H'
theorem scTi:FnScope ["one","other","reached"] ["one","other"] (jK DY):=scK (by decide +kernel)
theorem WH(F:Fun K "times" "times" DY f fd)(T:Txt mg)(GD:DG P w K mg base 1 "degree" wP ["one"] (HX K))(GT:DG P w K mg base 2 "table_of" zP ["one"] (wO K))(GM:DG P w K mg base 5 "tables_multiplied" uM ["one","other"] (DK K))(GS:DG P w K mg base 2 "sum_of" yE ["many","table"] (uK K)):FnOk P w K mg base CX0 6 f fd ["one","other"] (OC K):=by
 obtain⟨td,hd⟩:=T.degree;refine F.ok scTi (λvs H Q E h=>?_) #[3]
 ·obtain⟨p1,p2,ad,P1,P2,D1,D2,rfl,_⟩:=h
  rfl
 ·obtain⟨p1,p2,ad,P1,P2,D1,D2,rfl,q1,q2,o1,o2,ln,fw,dg,B1,B2',go⟩:=h;have hr1:Room 1 _:=hr.mono #[1];have hr2:Room 2 _:=hr.mono #[1];refine⟨_,jD (jL (i:=2) scTi.nd rfl (Or.inl rfl) (jH kJ (cal GD hr1 (jA (pv 0) jC)) (cal GD hr1 (jA (pv 1) jC)))) (jD (kT (jS xF (pv 2) (kF (v:=.int 16) (by rfl) hd ⟨_,rfl⟩) (jZ _)) (jF (zU)) jV) (jF (jO (cal GS hr2 (jA (jR jU (pv 0) jB (λ_ _=>rfl)) (jA (cal GM hr (jA (cal GT hr2 (jA (pv 0) jC)) (jA (cal GT hr2 (jA (pv 1) jC)) jC))) jC)))))), ?_⟩;try dsimp only[cxK]
  have f1:=o1.few;have f2:=o2.few;refine⟨_,rfl,p1,ad,16,P1,rfl,q1,o1.pd,o1.m4,by decide,by omega,λH1 s1=>⟨_,rfl,p2,ad,16,P2,rfl,q2.same s1,o2.pd,o2.m4,by decide,by omega,λH2 s2=>⟨_,_,rfl,rfl, ?_⟩⟩⟩;dsimp only[jT];refine⟨_,rfl,_,_,rfl,rfl,_,rfl,xB (mN #[0]) ?_⟩;have s02:=s1.trans s2;obtain⟨qq,xs,e1,_⟩:=(q1.same s02).ex;refine⟨_,rfl,p1,_,_,_,rfl,rfl,SqT.of e1,rfl,_,rfl,p1,ad,P1,rfl,q1.same s02,o1,λda k1 H3 n3 s3 ea pa=>?_⟩;refine⟨_,rfl,p2,ad,P2,rfl,q2.same (s02.trans s3),o2,λdb k2 H4 n4 s4 eb pb=>?_⟩;have dab:da≠db:=λz=>by rw[<-z,ea]at n4;cases n4
  have sm:∀{P:Pl},PlOk ad P->∀e∈jI P,e.1.natAbs<2^40:=fun {P} o e he=>by
   obtain⟨x,hx,rfl⟩:=nP.mp he;exact jP (zW (o.byt hx) (by rw[o.len x hx];exact o.m4)) #[1]
  have tE:∀{P:Pl} {D:Int},PlB P D->(∀e∈jI P,(e.2.den:Int)∣D)/\(∀e∈jI P,e.2.num.natAbs<2^2400):=fun {P D} B=>⟨λe he=>by obtain⟨x,hx,rfl⟩:=nP.mp he;exact B.dv x hx,λe he=>by obtain⟨x,hx,rfl⟩:=nP.mp he;exact B.nb x hx⟩;refine⟨da,db,k1,k2,jI P1,jI P2,D1,D2,rfl,dab,.inl (s4 _ _ ea),.inl eb,Paired.to (λ_ _ h=>h.same s4) pa,pb,o1.nd,o2.nd,by rw[kO];exact f1,by rw[kO];exact f2,by rw[kO,kO];omega,B1.pos,B1.sd,B2'.pos,B2'.sd,(tE B1).1,(tE B2').1,(tE B1).2,(tE B2').2,sm o1,sm o2,λd ks H5 n5 b5 _ e5 p5=>?_⟩;have s05:Same H H5:=λc u h=>b5 c u ((s02.trans (s3.trans s4)) _ _ h) (λz=>by rw[z,s02.free n3]at h;cases h) (λz=>by rw[z,(s02.trans s3).free n4]at h;cases h);have ma:=FU (jI P1) (jI P2);refine⟨d,ad,ks,_,rfl,.inl e5,p5,ma.nd,by have:=ma.ln;rw[kO,kO]at this;omega,fw _ ma.nd λ_=>rfl,mul_ky o1 o2 dg,o1.m1,o1.m4,λp PP H6 n6 s6 SQ ST=>go p PP H6 (s05.free n6) (s05.trans s6) SQ ST⟩
section
variable{X:Cx}
def tF3(m m2:Str)(ta:TE):TE:=fun σ H Q=>ta σ H λx H1=>∃i:Int,x=.int i/\i.natAbs.log2<1920/\(m++(toString i:Str)).length<=sizeLine/\(m++(toString i:Str)++m2).length<=sizeLine/\Q (.str (m++(toString i:Str)++m2)) H1
theorem pe_f3{a:Expr}{ta:TE}{m m2:Str}{k k2:Nat}{p1 p2 p3 pos:Pos}(hm:m.length<=sizeLine)(ha:PE X a ta):PE X (.JoinedStr [.Constant (.str m) k p2,.FormattedValue a (-1) none p1,.Constant (.str m2) k2 p3] pos) (tF3 m m2 ta):=by
 intro ae s σ H Q I h;have e1:Str.empty++m=m:=Str.empty_append m;refine JoinedStr_many (joinParts_cons (Calls.Constant_str ?_));show(Str.empty++m).length<=sizeLine/\wpAny _ _ (joinParts (Str.empty++m) _) _ _ { s with toks:=s.toks+1 };rw[e1];refine⟨hm,joinParts_cons (FormattedValue_plain (thn (ha ae _ σ H _ (I.tok _) h) λv s1 ⟨x,H1,I1,r1,i,ex,f1,hl,hl2,q1⟩=>?_))⟩;subst ex;obtain⟨t,rfl⟩:=r1;refine formatField_int_small f1 ⟨hl,joinParts_cons (Calls.Constant_str ?_)⟩;exact⟨hl2,joinParts_nilE (joinParts_nil ⟨.str _,H1,((I1.tok _).tok _).tok _,⟨_,rfl⟩,q1⟩ hl2)⟩
end
theorem scInit:FnScope ["self","text"] ["self","text"] (jK zS):=scK (by decide +kernel)
theorem ok_init{oc dV kV doc pm cdv ct:Value}{od an:Option Addr}{osl:Array (Option Value)}(lk:K.lookup f=some ⟨oc,od,.func (PySem.W.fnOf "__init__" "LowwaterError.__init__" (vY zS) (vM zS) (jK zS) dV kV doc pm an cdv ct),osl⟩)
 (hcd:PySem.W.codeIn K cdv "LowwaterError.__init__" = true) (T:Txt mg):FnOk P w K mg base CX0 1 f (PySem.W.fnOf "__init__" "LowwaterError.__init__" (vY zS) (vM zS) (jK zS) dV kV doc pm an cdv ct) ["self","text"] (LwE.spInit K):=by
 refine LG lk hcd scInit (λvs H Q E h=>?_) (λA outer s H vs Q E hr h=>?_)
 ·obtain⟨e,C,fI,bl,nid,v,rfl,_⟩:=h
  rfl
 ·obtain⟨e,C,fI,bl,nid,v,rfl,he,c,q⟩:=h;refine⟨_,(jF (xY (LwE.pe_baseInit (pl:=_) (jA (pv 0) (jA (pv 1) jC)) (hm:=T.verr)))).nox, ?_⟩;exact⟨_,rfl,_,rfl,e,C,fI,bl,nid,v,rfl,he,c,q⟩
theorem EU{dV kV doc pm cdv ct:Value}{an:Option Addr}{T:Addr}{oc:Value}{od:Option Addr}{its:Array Value}{n:Nat}{sl:Array (Option Value)}(hd:dV=.ref T)(lk:K.lookup T=some ⟨oc,od,.seq its n,sl⟩)(hn:its.size=1) :
  L2.Binds K (PySem.W.fnOf "__init__" "LowwaterError.__init__" (vY zS) (vM zS) (jK zS) dV kV doc pm an cdv ct) ["self","text"] []:=by
 intro s us KI hl
 match us,hl with
 | [a,b],_=>
  subst hd;obtain⟨l⟩:=its
  match l,hn with
  | [d],_=>exact PySem.W.binds_K KI rfl lk rfl rfl rfl
structure Cls8(K:tL)(mg:Str->Option Value)(fI C D c1 c2 c3 c4 c5 c6 c7:Addr)(bl bd:List Value):Prop where
 q:LwE.XCls K C fI bl "ValueError.__new__"
 d:LwE.XCls K D fI bd "ValueError.__new__"
 up:bl.contains (.ref D)=true
 ve:PySem.W.kitOne K (.ref C) (.type "ValueError")=some true
 no:PySem.W.kitAny K (.ref C) [.ref c1,.ref c2,.ref c3,.ref c4,.ref c5,.ref c6,.ref c7]=some false
 mq:mg "TooGreat" = some (.ref C)
 md:mg "LowwaterError" = some (.ref D)
 m1:mg "NoLine" = some (.ref c1)
 m2:mg "NoQuotient" = some (.ref c2)
 m3:mg "NoRow" = some (.ref c3)
 m4:mg "NoText" = some (.ref c4)
 m5:mg "NotSecond" = some (.ref c5)
 m6:mg "NotStraight" = some (.ref c6)
 m7:mg "TooMany" = some (.ref c7)
def DQ(K:tL)(C:Addr):Sp:=λvs H _ E=>∃(d:Addr) (ad:Nat) (ah:List (Key×V)) (T:Tb),vs=[.int ad,.ref d]/\Rd H d (.dK ah)/\Paired (EntQ K H) ah T/\(T.map (·.1)).Nodup/\T.length<=3000/\500<AY T/\∀H',Same H H'->E (.ref C) none H'
theorem QS{m:Int}(h0:0<=m)(h1:m<=9999):m.natAbs.log2<1920:=by
 by_cases z:m.natAbs=0
 ·rw[z];decide
 ·exact(Nat.log2_lt z).mpr (gX (show m.natAbs<2^14 by omega) (gO #[1] #[1]))
theorem wI{a:Int}(h:a.natAbs<10^4):(toString a).length<=10:=by
 have:=int_text_length_le10 (k:=4) #[1] h;omega
theorem SI{C fI:Addr}{fdI:FuncData}{bl:List Value}(F:Fun K "sum_of" "sum_of" yE f fd)(T:Txt mg)(N:Ngt K mg)(c:LwE.XCls K C fI bl "ValueError.__new__")(GI:FnOk P w K mg base CX0 1 fI fdI ["self","text"] (LwE.spInit K))(bI:L2.Binds K fdI ["self","text"] [])(hm:mg "TooGreat" = some (.ref C)):FnOk P w K mg base (LwE.CXF P w) 3 f fd ["many","table"] (DQ K C):=by
 obtain⟨na,hN,hna⟩:=N;obtain⟨tt,ht⟩:=T.terms;obtain⟨oc,od,kV,doc,pm',an,cdv,ct,osl,rfl,lk,hcd⟩:=F.ex;refine LG lk hcd scSo (λvs H Q E h=>?_) (λA outer s H vs Q E hr h=>?_)
 ·obtain⟨d,ad,ah,TT,rfl,_⟩:=h
  rfl
 ·obtain⟨d,ad,ah,TT,rfl,rd,pr,nd,lT,cn,go⟩:=h;have hu0:=hr.units0;have hu1:_+1<cLine:=gU (Nat.add_le_add_left (by decide:1<=64) _) hr.units;refine⟨_,jD (BE (i:=2) scSo.nd rfl (Or.inl rfl) (own:=1) (idx:=[1]) (N:=["key","table"]) rfl rfl rfl (by decide +kernel) (by decide +kernel) (DI (by intro y hy;simp only[mX,mF,or_false]at hy;rcases hy with rfl;rfl)) (yI rfl) rfl (CD rfl ⟨rfl,rfl,rfl,rfl⟩) (uQ (kR (BM rfl) (by rfl) T.sorted boot_sorted (jA (pv 1) jC))) (λC fp s2 H2=>(jJ (i:=0) (show List.Nodup (["key","table"]:List Str) by decide +kernel) rfl (Or.inl rfl) (Or.inr rfl))) (λC fp s2 H2=>jS (show OpR (jN _ ["key","table"] _ _ C fp s2 H2) _ (LwT.rOrdT K LwT.lexNe)from LwT.op_neT hu0) (vT hu1 (pv 1) (pv 0) (λ_ _=>rfl)) (kF (v:=.ref na) (by rfl) hN rfl) (jZ _)) (λC fp s2 H2=>pv 0)) (jD (kT (jS xF (kR vG (by rfl) T.len PySem.boot_len (jA (pv 2) jC)) (kF (v:=.int 500) (by rfl) ht ⟨_,rfl⟩) (jZ _)) (jF (LwE.ps_raise c GI bI hr rfl hm (pe_f3 #[1] (kR vG (by rfl) T.len PySem.boot_len (jA (pv 2) jC))))) jV) FP), ?_⟩;try dsimp only[cxK]
  obtain⟨ek,ei⟩:=EZ pr;have lk:ah.length=TT.length:=Paired.length pr;refine⟨_,rfl,d,ah,rfl,rd,ei,λns pm srt sl H1 n1 s1 e1=>⟨sl,rfl,⟨_,SqL.of e1⟩,λq H2 n2 s2 e2=>?_⟩⟩;rw[ek]at pm;have ndn:ns.Nodup:=pm.nodup_iff.mpr nd;have lt:ns.Pairwise (· < ·):=srt;have cn':500<(ns.filter (nzb TT)).length:=by rw[(pm.filter (nzb TT)).length_eq];exact cn
  have ln:ns.length=TT.length:=by rw[pm.length_eq,mL]
  have get:∀{n:Int} {H':Hp},n∈ns->Same H H'->∃v,DGet H' d (.int n) (some v)/\NumH H' v (tv TT n):=fun {n H'} hn sm=>by
   rcases CP (k:=n) pr with⟨v,h1,h2,_⟩ | ⟨_,_,h3⟩
   ·exact⟨v,.inl ⟨ah,.inl n,IF rd sm,rfl,h1.symm⟩,h2.same sm⟩
   ·exact absurd (pm.mem_iff.mp hn) h3
  refine BL (K:=K) (a:=sl) (xs:=ns.map V.int) (KyI H1 q TT ns) (by rw[mL,ln,sizeLine_eq];omega) ⟨s2,e2,rfl⟩ (λi ys H3 h=>⟨SqL.of (h.s _ _ e1),h.e, ?_⟩) ?_ ?_
  ·rw[h.y,mL];have:=List.length_filter_le (nzb TT) (ns.take i);rw[mD]at this;omega
  ·intro i m ys x H3 hx hm h;have hx':=hx;rw[hU]at hx';obtain⟨n,hn,rfl⟩:=Option.map_eq_some_iff.mp hx';obtain⟨v,g1,pv',rfl,g2⟩:=get (gM hn) (s1.trans h.s);have tk:(ns.take (i+1)).filter (nzb TT)=(ns.take i).filter (nzb TT)++(if nzb TT n=true then [n]else []):=by
    rw[hW,hn,List.filter_append]
    congr 1
    show [n].filter _=_;rw[mK]
    rfl
   refine⟨QD,_,rfl,_,rfl,d,_,rfl,g1,pv',na,[(tv TT n).num,((tv TT n).den:Int)],[0,1],rfl,rfl,SqT.of g2,hna H3,_,rfl, ?_⟩;rw[FT];refine wH (λc=>⟨_,rfl,h.e,CT hx hm ⟨kD h.s n2,jE, ?_⟩⟩) (λc=>CT hx hm ⟨h.s,h.e, ?_⟩)
   ·rw[tk,tK (show nzb TT n=true from c),mM,h.y]
    rfl
   ·rw[tk,tJ (show ¬nzb TT n=true from c),List.append_nil,h.y]
  ·rintro ys H3 ⟨s3,e3,ey⟩;rw[mL,mG]at ey;subst ey;dsimp only[jT];have lf:=List.length_filter_le (nzb TT) ns;have s03:=s1.trans s3;refine⟨_,rfl,q,_,rfl,.inl (SqL.of e3),_,_,rfl,rfl,_,rfl,AF (mP (by rw[mL];omega)) ?_⟩;refine⟨_,rfl,q,_,rfl,.inl (SqL.of e3),_,rfl,QS #[0] (by rw[mL];omega), ?_, ?_,_,rfl,go H3 s03⟩;all_goals
    have tf:=wI (a:=(((List.filter (nzb TT) ns).map V.int).length:Int)) (by rw[mL];omega);simp only[Str.length_append,PySem.ofString_length,sizeLine_eq]at tf ⊢;have z1: "a sum of ".length=9:=by decide
    have z2: " terms".length=6:=by decide
    omega
def OD(K:tL)(C:Addr):Sp:=λvs H _ E=>∃(p1 p2:Addr) (ad:Nat) (P1 P2:Pl),vs=[.ref p1,.ref p2]/\SumQ K H p1 ad P1/\SumQ K H p2 ad P2/\PlOk ad P1/\PlOk ad P2/\Many (λk=>tv (jI P1) k+tv (jI P2) k)/\(∀x∈P1,SzR 7900 x.2)/\(∀x∈P2,SzR 7900 x.2)/\∀H',Same H H'->E (.ref C) none H'
def JR(K:tL)(C:Addr):Sp:=λvs H _ E=>∃(p1 p2:Addr) (ad:Nat) (P1 P2:Pl),vs=[.ref p1,.ref p2]/\SumQ K H p1 ad P1/\SumQ K H p2 ad P2/\PlOk ad P1/\PlOk ad P2/\(16<vH P1+vH P2∨P1.length*P2.length<=3000/\Many (tv (uC (jI P1) (jI P2)))/\∃D1 D2,PlB P1 D1/\PlB P2 D2)/\∀H',Same H H'->E (.ref C) none H'
theorem WN{fS C:Addr}{fdS:FuncData}(F:Fun K "plus" "plus" DZ f fd)(GT:DG P w K mg base 2 "table_of" zP ["one"] (wO K))(GA:DG P w K mg base 3 "tables_added" uN ["one","other"] (DO K))(DS:Df K mg "sum_of" yE ["many","table"] fS fdS)(GS:FnOk P w K mg base (LwE.CXF P w) 3 fS fdS ["many","table"] (DQ K C)):FnOk P w K mg base (LwE.CXF P w) 5 f fd ["one","other"] (OD K C):=by
 obtain⟨oc,od,kV,doc,pm',an,cdv,ct,osl,rfl,lk,hcd⟩:=F.ex;refine LG lk hcd scPl (λvs H Q E h=>?_) (λA outer s H vs Q E hr h=>?_)
 ·obtain⟨p1,p2,ad,P1,P2,rfl,_⟩:=h
  rfl
 ·obtain⟨p1,p2,ad,P1,P2,rfl,q1,q2,o1,o2,ln,z1,z2,go⟩:=h;have hr2:Room 2 _:=hr.mono #[1];have hr3:Room 3 _:=hr.mono #[1];refine⟨_,jF (jO (kG GS hr3 rfl DS.m DS.F.kp DS.b .nil LwE.pass_fly (jA (jR jU (pv 0) jB (λ_ _=>rfl)) (jA (cal GA hr3 (jA (cal GT hr2 (jA (pv 0) jC)) (jA (cal GT hr2 (jA (pv 1) jC)) jC))) jC)))), ?_⟩;try dsimp only[cxK]
  obtain⟨qq,xs,e1,_⟩:=q1.ex;refine⟨_,rfl,p1,_,_,_,rfl,rfl,SqT.of e1,rfl,_,rfl,p1,ad,P1,rfl,q1,o1,λda k1 H1 n1 s1 ea pa=>?_⟩;refine⟨_,rfl,p2,ad,P2,rfl,q2.same s1,o2,λdb k2 H2 n2 s2 eb pb=>?_⟩;refine⟨da,db,k1,k2,jI P1,jI P2,rfl,.inl (s2 _ _ ea),eb,Paired.to (λ_ _ h=>h.same s2) pa,pb,o1.nd,o2.nd,by rw[kO,kO];have:=o1.few;have:=o2.few;omega,UW z1,HR z2,λd ah T H3 n3 b3 e3 p3 A _=>?_⟩;have s03:Same H H3:=λc u h=>b3 _ _ ((s1.trans s2) _ _ h) (jQ (s1 _ _ h) n2);have nd3:H d=none:=(s1.trans s2).free n3;refine⟨d,ad,ah,T,rfl,.inl e3,p3,A.nd,by have:=A.ln;rw[kO,kO]at this;have:=o1.few;have:=o2.few;omega,ln T A.nd A.vl,λH4 s4=>go H4 (s03.trans s4)⟩
theorem SF{fS C fI:Addr}{fdS fdI:FuncData}{bl:List Value}(F:Fun K "times" "times" DY f fd)(T:Txt mg)(c:LwE.XCls K C fI bl "ValueError.__new__")(GI:FnOk P w K mg base CX0 1 fI fdI ["self","text"] (LwE.spInit K))(bI:L2.Binds K fdI ["self","text"] [])(hm:mg "TooGreat" = some (.ref C))(GD:DG P w K mg base 1 "degree" wP ["one"] (HX K))(GT:DG P w K mg base 2 "table_of" zP ["one"] (wO K))(GM:DG P w K mg base 5 "tables_multiplied" uM ["one","other"] (DK K))(DS:Df K mg "sum_of" yE ["many","table"] fS fdS)(GS:FnOk P w K mg base (LwE.CXF P w) 3 fS fdS ["many","table"] (DQ K C)):FnOk P w K mg base (LwE.CXF P w) 6 f fd ["one","other"] (JR K C):=by
 obtain⟨td,hd⟩:=T.degree;obtain⟨oc,od,kV,doc,pm',an,cdv,ct,osl,rfl,lk,hcd⟩:=F.ex;refine LG lk hcd scTi (λvs H Q E h=>?_) (λA outer s H vs Q E hr h=>?_)
 ·obtain⟨p1,p2,ad,P1,P2,rfl,_⟩:=h
  rfl
 ·obtain⟨p1,p2,ad,P1,P2,rfl,q1,q2,o1,o2,wh,go⟩:=h;have hr1:Room 1 _:=hr.mono #[1];have hr2:Room 2 _:=hr.mono #[1];have hr3:Room 3 _:=hr.mono #[1];have hr5:Room 5 _:=hr.mono #[1];have d1:=AX o1.deg #[1];have d2:=AX o2.deg #[1];refine⟨_,jD (jL (i:=2) scTi.nd rfl (Or.inl rfl) (jH kJ (cal GD hr1 (jA (pv 0) jC)) (cal GD hr1 (jA (pv 1) jC)))) (jD (kT (jS xF (pv 2) (kF (v:=.int 16) (by rfl) hd ⟨_,rfl⟩) (jZ _)) (jF (LwE.ps_raise c GI bI hr2 rfl hm (pe_f2 #[1] (pv 2)))) jV) (jF (jO (kG GS hr3 rfl DS.m DS.F.kp DS.b .nil LwE.pass_fly (jA (jR jU (pv 0) jB (λ_ _=>rfl)) (jA (cal GM hr5 (jA (cal GT hr2 (jA (pv 0) jC)) (jA (cal GT hr2 (jA (pv 1) jC)) jC))) jC)))))), ?_⟩;try dsimp only[cxK]
  have f1:=o1.few;have f2:=o2.few;refine⟨_,rfl,p1,ad,16,P1,rfl,q1,o1.pd,o1.m4,by decide,by omega,λH1 s1=>⟨_,rfl,p2,ad,16,P2,rfl,q2.same s1,o2.pd,o2.m4,by decide,by omega,λH2 s2=>⟨_,_,rfl,rfl, ?_⟩⟩⟩;dsimp only[jT];by_cases cd:16<vH P1+vH P2
  ·refine⟨_,rfl,_,_,rfl,rfl,_,rfl,AF (mP #[0]) ?_⟩;have n1:0<=vH P1+vH P2:=by omega
   refine⟨_,rfl,_,rfl,QS n1 #[0],by decide, ?_,_,rfl,go H2 (s1.trans s2)⟩;have tf:=wI (a:=vH P1+vH P2) #[0];simp only[Str.length_append,PySem.ofString_length,sizeLine_eq]at tf ⊢;have z1: "a product of degree ".length=20:=by decide
   omega
  ·obtain⟨ln,mn,D1,D2,B1,B2'⟩:=wh.resolve_left cd;refine⟨_,rfl,_,_,rfl,rfl,_,rfl,xB (mN #[0]) ?_⟩;have s02:=s1.trans s2;obtain⟨qq,xs,e1,_⟩:=(q1.same s02).ex;refine⟨_,rfl,p1,_,_,_,rfl,rfl,SqT.of e1,rfl,_,rfl,p1,ad,P1,rfl,q1.same s02,o1,λda k1 H3 n3 s3 ea pa=>?_⟩;refine⟨_,rfl,p2,ad,P2,rfl,q2.same (s02.trans s3),o2,λdb k2 H4 n4 s4 eb pb=>?_⟩;have dab:da≠db:=λz=>by rw[<-z,ea]at n4;cases n4
   have sm:∀{P:Pl},PlOk ad P->∀e∈jI P,e.1.natAbs<2^40:=fun {P} o e he=>by
    obtain⟨x,hx,rfl⟩:=nP.mp he;exact jP (zW (o.byt hx) (by rw[o.len x hx];exact o.m4)) #[1]
   have tE:∀{P:Pl} {D:Int},PlB P D->(∀e∈jI P,(e.2.den:Int)∣D)/\(∀e∈jI P,e.2.num.natAbs<2^2400):=fun {P D} B=>⟨λe he=>by obtain⟨x,hx,rfl⟩:=nP.mp he;exact B.dv x hx,λe he=>by obtain⟨x,hx,rfl⟩:=nP.mp he;exact B.nb x hx⟩;refine⟨da,db,k1,k2,jI P1,jI P2,D1,D2,rfl,dab,.inl (s4 _ _ ea),.inl eb,Paired.to (λ_ _ h=>h.same s4) pa,pb,o1.nd,o2.nd,by rw[kO];exact f1,by rw[kO];exact f2,by rw[kO,kO];omega,B1.pos,B1.sd,B2'.pos,B2'.sd,(tE B1).1,(tE B2').1,(tE B1).2,(tE B2').2,sm o1,sm o2,λd ks H5 n5 b5 _ e5 p5=>?_⟩;have s05:Same H H5:=λc u h=>b5 c u ((s02.trans (s3.trans s4)) _ _ h) (λz=>by rw[z,s02.free n3]at h;cases h) (λz=>by rw[z,(s02.trans s3).free n4]at h;cases h);have ma:=FU (jI P1) (jI P2);refine⟨d,ad,ks,_,rfl,.inl e5,p5,ma.nd,by have:=ma.ln;rw[kO,kO]at this;omega,mn _ ma.nd λ_=>rfl,λH6 s6=>go H6 (s05.trans s6)⟩
def vO(ns:List Int)(l:Nat):List Int:=ns.set l (ns.getD l 0-1)
theorem wT{ns:List Int}{l:Nat}(h:l<ns.length):ns[l]? = some (ns.getD l 0):=by
 rw[uY,gD h]
 rfl
theorem PQ{ns ms:List Int}{l:Nat}(h:ns.length=ms.length)(hl:l<ns.length)(e:vO ns l=vO ms l):ns=ms:=by
 refine List.ext_getElem? λi=>?_;have g:(vO ns l)[i]? = (vO ms l)[i]? :=by rw[e]
 unfold vO at g;by_cases c:l=i
 ·subst c;rw[List.getElem?_set_self hl,List.getElem?_set_self #[0]]at g;have g:=Option.some.inj g;rw[wT hl,wT (show l<ms.length by omega)]
  congr 1
  omega
 ·rw[List.getElem?_set_ne c,List.getElem?_set_ne c]at g;exact g
theorem DF:∀{ns:List Int} {l:Nat} (v:Int),l<ns.length->(ns.set l v).sum=ns.sum-ns.getD l 0+v
 | [],l,v,h=>by simp at h
 | a::r,0,v,h=>by
  rw[List.set_cons_zero,mZ,mZ];show v+r.sum=a+r.sum-a+v;omega
 | a::r,l+1,v,h=>by
  have ih:=DF (ns:=r) (l:=l) v (by simpa using h);rw[List.set_cons_succ,mZ,mZ,ih];show a+(r.sum-r.getD l 0+v)=a+r.sum-r.getD l 0+v;omega
theorem IS{ad l:Nat}{P:Pl}(ok:PlOk ad P){x:List Int×Rat}(hx:x∈P)(hl:l<ad)(hp:0<x.1.getD l 0):(vO x.1 l).length=ad/\(∀n∈vO x.1 l,0<=n)/\(vO x.1 l).sum<=16:=by
 have h1:=ok.len x hx;refine⟨by unfold vO;rw[List.length_set];exact h1,λn hn=>?_, ?_⟩
 ·rcases List.mem_or_eq_of_mem_set hn with hn | rfl
  ·exact ok.nn x hx n hn
  ·omega
 ·have:=DF (ns:=x.1) (l:=l) (x.1.getD l 0-1) #[0];have:=ok.deg x hx;unfold vO;omega
def slE(l:Nat)(x:List Int×Rat):Option (Int×Rat):=if 0<x.1.getD l 0 then some (pk (vO x.1 l),x.2*((x.1.getD l 0:Int):Rat))else none
def slT(P:Pl)(l:Nat):Tb:=P.filterMap (slE l)
theorem VD{ad l:Nat}{P Q:Pl}(ok:PlOk ad P)(sub:∀x∈Q,x∈P)(hl:l<ad){k:Int}(h:k∈(slT Q l).map (·.1)):∃x∈Q,0<x.1.getD l 0/\k=pk (vO x.1 l):=by
 obtain⟨e,he,rfl⟩:=nP.mp h;obtain⟨x,hx,e1⟩:=List.mem_filterMap.mp he;unfold slE at e1;split at e1
 ·rename_i c;cases e1;exact⟨x,hx,c,rfl⟩
 ·cases e1
theorem sl_new{ad l i:Nat}{P:Pl}(ok:PlOk ad P)(hl:l<ad){x:List Int×Rat}(hx:P[i]? = some x)(hp:0<x.1.getD l 0):pk (vO x.1 l)∉(slT (P.take i) l).map (·.1):=λz=>by
 obtain⟨y,hy,py,e⟩:=VD ok (λa ha=>gR ha) hl z;have xm:=gM hx;have ym:=gR hy;have kx:=IS ok xm hl hp;have ky:=IS ok ym hl py;have e2:=uA ad kx.1 ky.1 (wN kx.2.1 kx.2.2) (wN ky.2.1 ky.2.2) e;have e3:=PQ (by rw[ok.len x xm,ok.len y ym]) (by rw[ok.len x xm];exact hl) e2;obtain⟨j,hj⟩:=gL.mp hy;have ji:j<i:=by
  have:=(gB.mp hj).1;rw[mD]at this;omega
 rw[gE ji]at hj;have a1:(P.map (·.1))[j]? = some y.1:=by rw[hU,hj];rfl
 have a2:(P.map (·.1))[i]? = some x.1:=by rw[hU,hx];rfl
 have:=(List.getElem?_inj (gB.mp a1).1 ok.ndn).mp (a1.trans (by rw[<-e3];exact a2.symm));omega
theorem OH{ad l i:Nat}{P:Pl}(ok:PlOk ad P)(hl:l<ad){x:List Int×Rat}(hx:P[i]? = some x):slT (P.take (i+1)) l=if 0<x.1.getD l 0 then xM (slT (P.take i) l) (pk (vO x.1 l)) (x.2*((x.1.getD l 0:Int):Rat))else slT (P.take i) l:=by
 have t:slT (P.take (i+1)) l=slT (P.take i) l++[x].filterMap (slE l):=by
  unfold slT;rw[hW,hx,List.filterMap_append]
  rfl
 rw[t];split
 ·rename_i c;rw[zT (sl_new ok hl hx c)]
  congr 1
  rw[List.filterMap_cons_some (show slE l x=_ from tK c)]
  rfl
 ·rename_i c;have:[x].filterMap (slE l)=[]:=by
   rw[List.filterMap_cons_none (show slE l x=none from tJ c)]
   rfl
  rw[this,List.append_nil]
theorem VC{ad l:Nat}{P:Pl}(ok:PlOk ad P)(hl:l<ad):∀i,i<=P.length->((slT (P.take i) l).map (·.1)).Nodup
 | 0,_=>mU
 | i+1,h=>by
  rw[OH ok hl (gD (show i<P.length by omega))];split
  ·exact yQ (VC ok hl i #[0])
  ·exact VC ok hl i #[0]
theorem MC(P:Pl)(l:Nat):(slT P l).length<=P.length:=List.length_filterMap_le ..
def HV(K:tL):Sp:=λvs H Q _=>∃(p1:Addr) (l ad:Nat) (P1:Pl),vs=[.ref p1,.int l]/\SumQ K H p1 ad P1/\PlOk ad P1/\l<ad/\(∀x∈P1,SzR 7900 x.2)/\
 ∀(p:Addr) (P:Pl) (H':Hp),H p=none->Same H H'->SumQ K H' p ad P->SumT ad (slT P1 l) P->Q (.ref p) H'
inductive SlI(K:tL)(H:Hp)(p1 q d:Addr)(l ad:Nat)(P:Pl)(i:Nat):L2.St->Hp->Prop where
 | mk {u5 u6 u7 u8:Option V} {H':Hp} {ah:List (Key×V)} (s:Same H H') (e:H' d=some (.dK ah)) (pr:Paired (EntQ K H') ah (slT (P.take i) l)):SlI K H p1 q d l ad P i [some (.ref p1),some (.int l),some (.int ad),some (.ref q),some (.ref d),u5,u6,u7,u8] H'
theorem xK{ns:List Int}{l:Nat}(h:l<ns.length):vF (ns.map V.int) none (some (l:Int))++[V.int (ns.getD l 0-1)]++vF (ns.map V.int) (some ((l:Int)+1)) none=(vO ns l).map V.int:=by
 have c1:vF (ns.map V.int) none (some (l:Int))=(ns.take l).map V.int:=by
  unfold vF;rw[HT.sIx_nat,HT.sIx_none,Nat.min_eq_left (by rw[mL];omega),List.drop_zero,Nat.sub_zero,nA]
 have c2:vF (ns.map V.int) (some ((l:Int)+1)) none=(ns.drop (l+1)).map V.int:=by
  rw[show((l:Int)+1)=((l+1:Nat):Int) by omega];unfold vF;rw[HT.sIx_nat,HT.sIx_none,Nat.min_eq_left (by rw[mL];omega),List.map_drop];exact gI (by rw[List.length_drop];exact nX _)
 rw[c1,c2];unfold vO;rw[List.set_eq_take_append_cons_drop,tK h,mM,mW,List.append_assoc]
 rfl
theorem scSl:FnScope ["one","letter","many","terms","table","powers","fraction","power","lower"] ["one","letter"] (jK IA):=scK (by decide +kernel)
theorem WM(F:Fun K "slope" "slope" IA f fd)(GP:DG P w K mg base 1 "packed" uO ["powers"] (DR K))(GM:DG P w K mg base 2 "multiplied" RU ["one","other"] (OF K))(GS:DG P w K mg base 2 "sum_of" yE ["many","table"] (uK K)):FnOk P w K mg base CX0 3 f fd ["one","letter"] (HV K):=by
 refine F.ok scSl (λvs H Q E h=>?_) #[3]
 ·obtain⟨p1,l,ad,P1,rfl,_⟩:=h
  rfl
 ·obtain⟨p1,l,ad,P1,rfl,q1,o1,hl,z1,go⟩:=h;have hr1:Room 1 _:=hr.mono #[1];have hu:_+1<cLine:=gU (Nat.add_le_add_left (by decide:1<=64) _) hr.units;refine⟨_,jD (vQ (pv 0) (qD rfl (jM (jJ (i:=2) scSl.nd rfl (Or.inl rfl)) (jM (jJ (i:=3) scSl.nd rfl (Or.inl rfl)) kP)))) (jD (jL (i:=4) scSl.nd rfl (Or.inl rfl) (EG)) (jD (kU PassesOwn.never rfl (AU (pv 3)) (qD rfl (jM (jJ (i:=5) scSl.nd rfl (Or.inl rfl)) (jM (jJ (i:=6) scSl.nd rfl (Or.inl rfl)) kP))) (jD (jL (i:=7) scSl.nd rfl (Or.inl rfl) (jR jU (pv 5) (pv 1) (λ_ _=>rfl))) (jF (kT (jS xF (pv 7) jB (jZ _)) (jD (jL (i:=8) scSl.nd rfl (Or.inl rfl) (jH AC (jH AC (vS BU (pv 5) xZ (vR (pv 1))) (jW (jA (jH xA (pv 7) jB) jC))) (vS BU (pv 5) (vR (jH kJ (pv 1) jB)) xZ))) (jF (yV hu (pv 4) (cal GP hr1 (jA (pv 8) jC)) (cal GM hr (jA (pv 6) (jA (jW (jA (pv 7) (jA jB jC))) jC))) rfl))) jV)))) (jF (jO (cal GS hr (jA (pv 2) (jA (pv 4) jC))))))), ?_⟩;try dsimp only[cxK]
  obtain⟨q,xs,e1,e2,pr⟩:=q1.ex;have lx:xs.length=P1.length:=Paired.length pr;refine⟨_,rfl,gT2 (SqT.of e1) rfl ?_⟩;intro d nd;have s0:Same H (upd H d (.dK [])):=jY _ nd;have e0:(upd H d (.dK [])) d=some (.dK []):=jE;generalize upd H d (.dK [])=H0 at s0 e0;refine⟨_,rfl,q,rfl,⟨_,SqT.of (s0 _ _ e2)⟩,CO (K:=K) (a:=q) (xs:=xs) (SlI K H p1 q d l ad P1) (.mk (ah:=[]) s0 e0 .nil) (λi σ H2 _ h=>?_) (λi x σ H2 hx h=>?_) (fun σ H2 h=>?_)⟩
  ·obtain⟨s2,_,_⟩:=h;exact SqT.of (s2 _ _ e2)
  ·obtain⟨s2,ed,pr2⟩:=h;rename_i ah;obtain⟨y,hy,r,b,c,rfl,r1,r2,r3⟩:=Paired.at pr hx;have ym:=gM hy;have ly:=o1.len y ym;refine gT2 (SqT.of (s2 _ _ r1)) rfl ?_;refine⟨_,rfl,_,rfl,b,_,_,_,rfl,rfl,SqT.of (s2 _ _ r2),AN (by rw[hU,wT (show l<y.1.length by omega)];rfl), ?_⟩;dsimp only[jT];have st:=OH o1 hl hy;refine⟨_,rfl,_,_,rfl,rfl,_,rfl, ?_⟩;refine wH (λc0=>?_) (λc0=>?_)
   ·have c0:0<y.1.getD l 0:=hX c0;have ky:=IS o1 ym hl c0;rw[tK c0]at st;have s20:=fun {a:Addr} {o:HO} (h:H a=some o)=>s2 _ _ h;refine⟨_,rfl,_,rfl,_,rfl,b,_,rfl,s20 r2,λt1 H3 s3 e3=>⟨_,rfl,_,_,rfl,rfl,uW,λt2 H4 n4 s4 e4=>?_⟩⟩;have lc:(vF (y.1.map V.int) none (some (l:Int))).length<=4:=by
     have:=congrArg List.length (xK (ns:=y.1) (l:=l) #[0]);rw[List.length_append,List.length_append,mL,ky.1]at this;have:=o1.m4;omega
    have ld:(vF (y.1.map V.int) (some ((l:Int)+1)) none).length<=4:=by
     have:=congrArg List.length (xK (ns:=y.1) (l:=l) #[0]);rw[List.length_append,List.length_append,mL,ky.1]at this;have:=o1.m4;omega
    refine⟨t1,t2,_,_,rfl,rfl,s4 _ _ e3,e4,by rw[sizeLine_eq];show _+1<=_;omega,λt3 H5 s5 e5=>?_⟩;have s25:=s3.trans (s4.trans s5);refine⟨_,rfl,_,rfl,_,_,rfl,rfl,_,rfl,b,_,rfl,s25 _ _ (s20 r2),λt4 H6 s6 e6=>?_⟩;refine⟨t3,t4,_,_,rfl,rfl,s6 _ _ e5,e6,by rw[sizeLine_eq,List.length_append];show _+1+_<=_;omega,λt5 H7 s7 e7=>?_⟩;rw[xK #[0]]at e7;have s27:=s25.trans (s6.trans s7);dsimp only[jT];refine⟨_,rfl,_,rfl,uX,λt6 H8 n8 s8 e8=>?_⟩;obtain⟨pc,epc,hc⟩:=r3;cases epc;have pw:(y.1.getD l 0).natAbs<2^10:=by
     have m0:y.1.getD l 0∈y.1:=gM (wT (show l<y.1.length by omega));have:=(vD (o1.nn y ym) m0).1;have:=o1.deg y ym;have:(2:Nat)^10=1024:=rfl;omega
    refine⟨c,t6,_,_,_,_,rfl,SqT.of ((s2.trans (s27.trans s8)) _ _ hc),HU (SqT.of e8),(z1 y ym).fr uU,(NC (n:=7900) (jP pw #[1]) #[1]).fr uU,λr9 H9 n9 s9 e9=>?_⟩;have e9:=mulAt e9;have s29:=s27.trans (s8.trans s9);have ed9:=s29 _ _ ed;have lk:ah.length=(slT (P1.take i) l).length:=Paired.length pr2;have lS:=MC (P1.take i) l;rw[mD]at lS;have fw:=o1.few;refine⟨_,rfl,_,rfl,t5,_,rfl,SqT.of ((s8.trans s9) _ _ e7),wN ky.2.1 ky.2.2,by rw[ky.1];exact o1.m4,d,_,rfl,DPut.k (k:=.inl (pk (vO y.1 l))) ed9 (by rw[lk,sizeLine_eq];omega), ?_⟩;refine .mk (kD (s2.trans s29) nd) jE ?_;rw[st];exact Paired.to (λ_ _ h=>h.upd ed9) (AH (Paired.to (λ_ _ h=>h.same s29) pr2) (NumH.of e9))
   ·rw[tJ (λz=>c0 (mP z))]at st;exact .mk s2 ed (by rw[st];exact pr2)
  ·obtain⟨s2,ed,pr2⟩:=h;rw[lx,mG]at pr2;have nd2:=VC o1 hl P1.length uU ;rw[mG]at nd2;refine⟨_,rfl,_,rfl,d,ad,_,_,rfl,.inl ed,pr2,nd2,nN (MC _ _) (nN o1.few #[1]),nN (ZE _) (nN (MC _ _) o1.few),λk hk=>?_,o1.m1,o1.m4,λp PP H5 n5 s5 SQ ST=>go p PP H5 (s2.free n5) (s2.trans s5) SQ ST⟩;obtain⟨x,hx,hp,rfl⟩:=VD o1 (λ_ h=>h) hl hk;have ky:=IS o1 hx hl hp;exact⟨_,ky.1,ky.2.1,ky.2.2,rfl⟩
end Lw
namespace LwK
open PySem PySem.Spec PyProof.Rows L2 Lw
structure FrS(t b:Int):Prop where
 pos:0<b
 low:Int.gcd t b=1
 st:t.natAbs<2^100
 sb:b.natAbs<2^97
variable{P:Program}{w:World}{K:tL}{mg:Str->Option Value}{base:Heap}{f fd:_}
def uL(c M:Int):Sp:=λvs H Q _=>∃(tp:Addr) (B:Int),vs=[.ref tp]/\∃cl,Tape cl H tp B/\B<M/\
 ∀(r:Addr) (t b:Int) (H':Hp),FrS t b->At2 H' r t b->r≠tp->Tape cl H' tp (B+c)->But tp H H'->(∀c o,H c=some o->c≠r)->Q (.ref r) H'
theorem XH{t b:Int}(hb:0<b)(ht:t.natAbs<2^100)(hs:b.natAbs<2^97):FrS (yG t b) (yZ t b):=by
 have g1:=LwM.vE t b hb;have gp:0<Int.gcd t b:=by omega
 rw[vJ hb,xQ hb];refine⟨?_,Int.gcd_ediv_gcd_ediv_gcd gp,qY ht g1,qY hs g1⟩;exact Int.ediv_pos_of_pos_of_dvd hb #[0] (mC ..)
theorem wM{cl:Addr}{H:Hp}{tp r:Addr}{B:Int}(T:Tape cl H tp B)(n:H r=none):r≠tp:=by
 obtain⟨ns,spot,rest,left,z,_⟩:=T;rintro rfl;rw[n]at z;cases z
theorem yB{p:Addr}{H H':Hp}{r:Addr}(b:But p H H')(n:H' r=none)(hr:r≠p):H r=none:=by
 cases q:H r with
 | none=>rfl
 | some o=>rw[b r o q hr]at n;cases n
theorem scNumber:FnScope ["tape","way","top","great"] ["tape"] (jK BY):=scK (by decide +kernel)
theorem ok_number{fD fL:Addr}{fdD fdL:FuncData}(F:Fun K "_law_number" "_law_number" BY f fd)(T:Txt mg)(DD:Df K mg "_law_draw" BC ["tape","many"] fD fdD)(DL:Df K mg "_law_low" RV ["top","bottom"] fL fdL):FnOk P w K mg base CX0 2 f fd ["tape"] (uL 6 (2^38)):=by
 have GD:FnOk P w K mg base CX0 1 fD fdD ["tape","many"] spDraw:=IM DD.F T;have GL:FnOk P w K mg base CX0 1 fL fdL ["top","bottom"] spLow:=MQ DL.F T;refine F.ok scNumber (λvs H Q E h=>?_) #[3]
 ·obtain⟨tp,B,rfl,_⟩:=h
  rfl
 ·obtain⟨tp,B,rfl,cl,hT,hB,k⟩:=h;refine⟨_,jD (jL (i:=1) scNumber.nd rfl (Or.inl rfl) (kG GD hr rfl DD.m DD.F.kp DD.b .nil qS (jA (pv 0) (jA jB jC))))
   (jD (jL (i:=2) scNumber.nd rfl (Or.inl rfl) (jH xA (kG GD hr rfl DD.m DD.F.kp DD.b .nil qS (jA (pv 0) (jA jB jC))) jB))
   (jD (kT (jS FS (pv 1) jB (jZ _)) (jF (jO (jW (jA (pv 2) (jA jB jC))))) jV)
   (jD (kT (jS FS (pv 1) jB (jZ _)) (jF (jO (kG GL hr rfl DL.m DL.F.kp DL.b .nil qS (jA (pv 2) (jA (jH kJ jB (kG GD hr rfl DD.m DD.F.kp DD.b .nil qS (jA (pv 0) (jA jB jC)))) jC))))) jV)
   (jD (jL (i:=3) scNumber.nd rfl (Or.inl rfl) (jH xP (kG GD hr rfl DD.m DD.F.kp DD.b .nil qS (jA (pv 0) (jA (jH yF jB jB) jC))) (jH xA jB (jH xP jB (kG GD hr rfl DD.m DD.F.kp DD.b .nil qS (jA (pv 0) (jA jB jC)))))))
   (jF (jO (kG GL hr rfl DL.m DL.F.kp DL.b .nil qS (jA (pv 3) (jA (jH kJ jB (kG GD hr rfl DD.m DD.F.kp DD.b .nil qS (jA (pv 0) (jA (jH yF jB jB) jC)))) jC)))))))))
   , ?_⟩
  refine⟨_,rfl,tp,24,B,rfl,_,hT,by omega,by decide,by decide,λway H1 w0 w1 T1 b1=>?_⟩;refine⟨_,rfl,tp,13,_,rfl,_,T1,by omega,by decide,by decide,λtop H2 t0 t1 T2 b2=>⟨_,_,rfl,rfl, ?_⟩⟩;have p10:∀n:Int,0<=n->n<=1000000->CPow 10 n:=λn h0 h1=>⟨h0,h1,by decide⟩;have tell:∀(t b B':Int) (H3:Hp),0<b->t.natAbs<2^100->b.natAbs<2^97->Tape cl H3 tp B'->B'<=B+6->But tp H H3->spLow [.int t,.int b] H3 Q E0:=by
   intro t b B' H3 hb ht hs T3 hB' b3;refine⟨t,b,rfl,by omega,.inl (jP hs #[1]),λp H4 n4 s4 e4=>?_⟩;refine k p _ _ H4 (XH hb ht hs) e4 (wM T3 n4) (T3.mono s4 #[0]) (b3.trans (But.of s4)) (λc o hc hp=>?_);subst hp;have:=yB b3 n4 (wM T3 n4);rw[hc]at this;cases this
  refine⟨_,rfl,_,_,rfl,rfl,_,rfl, ?_⟩;refine wH (λ_=>?_) (λ_=>?_)
  ·refine⟨_,rfl,uX,λp H3 n3 s3 e3=>?_⟩;refine k p (top-6) 1 H3 ⟨by decide,by simp,by omega,by decide⟩ e3 (wM T2 n3) (T2.mono s3 #[0]) ((b1.trans b2).trans (But.of s3)) (λc o hc hp=>?_);subst hp;have:=yB (b1.trans b2) n3 (wM T2 n3);rw[hc]at this;cases this
  ·refine⟨_,rfl,_,_,rfl,rfl,_,rfl, ?_⟩;refine wH (λ_=>?_) (λ_=>?_)
   ·refine⟨_,rfl,_,rfl,tp,7,_,rfl,_,T2,by omega,by decide,by decide,λc H3 c0 c1 T3 b3=>⟨_,_,rfl,rfl, ?_⟩⟩;exact tell _ _ _ H3 #[0] #[0] #[0] T3 #[0] ((b1.trans b2).trans b3)
   ·refine⟨_,rfl,_,_,rfl,rfl,p10 12 #[1] #[1],tp,_,_,rfl,_,T2,by omega,by decide,by decide,λg H3 g0 g1 T3 b3=>?_⟩;refine⟨_,rfl,tp,2,_,rfl,_,T3,by omega,by decide,by decide,λr H4 r0 r1 T4 b4=>?_⟩;refine⟨_,_,rfl,rfl,.inl ⟨by decide,by decide⟩,_,_,rfl,rfl,_,_,rfl,rfl,.inr ⟨by omega,by omega⟩, ?_⟩;refine⟨_,rfl,_,rfl,_,_,rfl,rfl,p10 4 #[1] #[1],tp,_,_,rfl,_,T4,by omega,by decide,by decide,λc H5 c0 c1 T5 b5=>⟨_,_,rfl,rfl, ?_⟩⟩;have e12:(10:Int)^(12:Int).toNat=1000000000000:=by decide +kernel
    have e4:(10:Int)^(4:Int).toNat=10000:=by decide +kernel
    rw[e12]at g1;rw[e4]at c1;have hr2:r=0∨r=1:=by omega
    refine tell _ _ _ H5 #[0] ?_ #[0] T5 #[0] ((((b1.trans b2).trans b3).trans b4).trans b5);rcases hr2 with rfl | rfl
    ·simp only[Int.mul_zero,Int.sub_zero,Int.mul_one];omega
    ·rw[show(1:Int)-2*1 = -1 by decide,Int.mul_neg,Int.mul_one,mT];omega
theorem scFraction:FnScope ["tape","top","bottom"] ["tape"] (jK yP):=scK (by decide +kernel)
theorem ok_fraction{fD fL fN:Addr}{fdD fdL fdN:FuncData}(F:Fun K "_law_fraction" "_law_fraction" yP f fd)(T:Txt mg)(DD:Df K mg "_law_draw" BC ["tape","many"] fD fdD)(DL:Df K mg "_law_low" RV ["top","bottom"] fL fdL)
 (DN:Df K mg "_law_number" BY ["tape"] fN fdN):FnOk P w K mg base CX0 3 f fd ["tape"] (uL 7 (2^37)):=by
 have GD:FnOk P w K mg base CX0 1 fD fdD ["tape","many"] spDraw:=IM DD.F T;have GL:FnOk P w K mg base CX0 1 fL fdL ["top","bottom"] spLow:=MQ DL.F T;have GN:FnOk P w K mg base CX0 2 fN fdN ["tape"] (uL 6 (2^38)):=ok_number DN.F T DD DL;refine F.ok scFraction (λvs H Q E h=>?_) #[3]
 ·obtain⟨tp,B,rfl,_⟩:=h
  rfl
 ·obtain⟨tp,B,rfl,cl,hT,hB,k⟩:=h;have hr1:Room 1 _:=hr.mono #[1];refine⟨_,jD (kT (jS xF (kG GD hr1 rfl DD.m DD.F.kp DD.b .nil qS (jA (pv 0) (jA jB jC))) jB (jZ _)) (jF (jO (kG GN hr rfl DN.m DN.F.kp DN.b .nil qS (jA (pv 0) jC)))) jV)
   (jD (jL (i:=1) scFraction.nd rfl (Or.inl rfl) (jH kJ (jH xP (kG GD hr1 rfl DD.m DD.F.kp DD.b .nil qS (jA (pv 0) (jA (jH yF jB jB) jC))) (jH yF jB jB)) (kG GD hr1 rfl DD.m DD.F.kp DD.b .nil qS (jA (pv 0) (jA (jH yF jB jB) jC)))))
   (jD (jL (i:=2) scFraction.nd rfl (Or.inl rfl) (jH kJ (jH kJ jB (jH xP (kG GD hr1 rfl DD.m DD.F.kp DD.b .nil qS (jA (pv 0) (jA (jH yF jB jB) jC))) (jH yF jB jB))) (kG GD hr1 rfl DD.m DD.F.kp DD.b .nil qS (jA (pv 0) (jA (jH yF jB jB) jC)))))
   (jF (jO (kG GL hr1 rfl DL.m DL.F.kp DL.b .nil qS (jA (jH xP (pv 1) (jH xA jB (jH xP jB (kG GD hr1 rfl DD.m DD.F.kp DD.b .nil qS (jA (pv 0) (jA jB jC)))))) (jA (pv 2) jC))))))), ?_⟩
  have p10:∀n:Int,0<=n->n<=1000000->CPow 10 n:=λn h0 h1=>⟨h0,h1,by decide⟩;have e15:(10:Int)^(15:Int).toNat=1000000000000000:=by decide +kernel
  have e14:(10:Int)^(14:Int).toNat=100000000000000:=by decide +kernel
  refine⟨_,rfl,tp,4,B,rfl,_,hT,by omega,by decide,by decide,λc H1 c0 c1 T1 b1=>⟨_,_,rfl,rfl,_,rfl, ?_⟩⟩;refine wH (λ_=>?_) (λ_=>?_)
  ·refine⟨_,rfl,tp,_,rfl,_,T1,by omega,λr t b H2 fr e2 hn T2 b2 nw=>?_⟩;refine k r t b H2 fr e2 hn (T2.mono (Same.refl _) #[0]) (b1.trans b2) (λc o hc hp=>?_);by_cases hcp:c=tp
   ·exact hn (hp▸hcp)
   ·exact nw c o (b1 _ _ hc hcp) hp
  ·refine⟨_,rfl,_,_,rfl,rfl,p10 15 #[1] #[1],tp,_,_,rfl,_,T1,by omega,by decide,by decide,λx1 H2 x10 x11 T2 b2=>?_⟩;rw[e15]at x11;refine⟨_,_,rfl,rfl,p10 15 #[1] #[1],_,_,rfl,rfl,.inl ⟨by omega,by omega⟩, ?_⟩;refine⟨_,rfl,_,_,rfl,rfl,p10 15 #[1] #[1],tp,_,_,rfl,_,T2,by omega,by decide,by decide,λx2 H3 x20 x21 T3 b3=>⟨_,_,rfl,rfl, ?_⟩⟩;rw[e15]at x21;refine⟨_,rfl,_,_,rfl,rfl,p10 15 #[1] #[1],tp,_,_,rfl,_,T3,by omega,by decide,by decide,λy1 H4 y10 y11 T4 b4=>?_⟩;rw[e15]at y11;refine⟨_,_,rfl,rfl,p10 14 #[1] #[1],_,_,rfl,rfl,.inl ⟨by omega,by omega⟩,_,_,rfl,rfl, ?_⟩;refine⟨_,rfl,_,_,rfl,rfl,p10 14 #[1] #[1],tp,_,_,rfl,_,T4,by omega,by decide,by decide,λy2 H5 y20 y21 T5 b5=>⟨_,_,rfl,rfl, ?_⟩⟩;rw[e14]at y21;rw[e15,e14];refine⟨_,rfl,_,rfl,tp,2,_,rfl,_,T5,by omega,by decide,by decide,λr H6 r0 r1 T6 b6=>?_⟩;refine⟨_,_,rfl,rfl,.inl ⟨by decide,by decide⟩,_,_,rfl,rfl,_,_,rfl,rfl,.inr ⟨by omega,by omega⟩, ?_⟩;have hr2:r=0∨r=1:=by omega
   have bb:=((((b1.trans b2).trans b3).trans b4).trans b5).trans b6;have ht:((x1*1000000000000000+x2)*(1-2*r)).natAbs<2^100:=by
    rcases hr2 with rfl | rfl
    ·simp only[Int.mul_zero,Int.sub_zero,Int.mul_one];omega
    ·rw[show(1:Int)-2*1 = -1 by decide,Int.mul_neg,Int.mul_one,mT];omega
   refine⟨_,rfl,_,_,rfl,by omega, ?_,λp H7 n7 s7 e7=>?_⟩
   ·exact .inl (jP (m:=97) #[0] #[1])
   ·refine k p _ _ H7 (XH #[0] ht #[0]) e7 (wM T6 n7) (T6.mono s7 #[0]) (bb.trans (But.of s7)) (λc o hc hp=>?_);subst hp;have:=yB bb n7 (wM T6 n7);rw[hc]at this;cases this
open LwQ
def spPlus:Sp:=λvs H Q _=>∃(p q:Addr) (t b o u:Int),vs=[.ref p,.ref q]/\At2 H p t b/\At2 H q o u/\0<b/\0<u/\t.natAbs<2^50000/\b.natAbs<2^50000/\o.natAbs<2^50000/\u.natAbs<2^8000/\
 ∀(r:Addr) (t' b':Int) (H':Hp),H r=none->Same H H'->At2 H' r t' b'->0<b'->b'.natAbs<=b.natAbs*u.natAbs->t'*(b*u)=(t*u+o*b)*b'->Q (.ref r) H'
theorem PH{b u:Int}(h:decide (V.int (b%u)=V.int 0)=true):b=u*(b/u):=by
 have e:b%u=0:=by
  have:=hX h;injection this
 have:=Int.mul_ediv_add_emod b u;omega
theorem scPlus:FnScope ["one","other","top"] ["one","other"] (jK OL):=scK (by decide +kernel)
theorem ok_lplus(F:Fun K "_law_plus" "_law_plus" OL f fd):FnOk P w K mg base CX0 1 f fd ["one","other"] spPlus:=by
 refine F.ok scPlus (λvs H Q E h=>?_) #[3]
 ·obtain⟨p,q,t,b,o,u,rfl,_⟩:=h
  rfl
 ·obtain⟨p,q,t,b,o,u,rfl,hp,hq,hb,hu,st,sb,so,su,k⟩:=h;refine⟨_,jD (kT (jS KF (jH vA (jR jU (pv 0) jB (λ_ _=>rfl)) (jR jU (pv 1) jB (λ_ _=>rfl))) jB (jZ _))
    (jF (jO (jW (jA (jH kJ (jR jU (pv 0) jB (λ_ _=>rfl)) (jH qI (jR jU (pv 1) jB (λ_ _=>rfl)) (jH qQ (jR jU (pv 0) jB (λ_ _=>rfl)) (jR jU (pv 1) jB (λ_ _=>rfl))))) (jA (jR jU (pv 0) jB (λ_ _=>rfl)) jC))))) jV)
   (jD (kT (jS KF (jH vA (jR jU (pv 1) jB (λ_ _=>rfl)) (jR jU (pv 0) jB (λ_ _=>rfl))) jB (jZ _))
    (jF (jO (jW (jA (jH kJ (jR jU (pv 1) jB (λ_ _=>rfl)) (jH qI (jR jU (pv 0) jB (λ_ _=>rfl)) (jH qQ (jR jU (pv 1) jB (λ_ _=>rfl)) (jR jU (pv 0) jB (λ_ _=>rfl))))) (jA (jR jU (pv 1) jB (λ_ _=>rfl)) jC))))) jV)
   (jD (jL (i:=2) scPlus.nd rfl (Or.inl rfl) (jH kJ (jH qI (jR jU (pv 0) jB (λ_ _=>rfl)) (jR jU (pv 1) jB (λ_ _=>rfl))) (jH qI (jR jU (pv 1) jB (λ_ _=>rfl)) (jR jU (pv 0) jB (λ_ _=>rfl)))))
   (jF (jO (jW (jA (pv 2) (jA (jH qI (jR jU (pv 0) jB (λ_ _=>rfl)) (jR jU (pv 1) jB (λ_ _=>rfl))) jC))))))), ?_⟩
  have P:=SqT.of (K:=K) hp;have R:=SqT.of (K:=K) hq;have d1:(b/u).natAbs<2^100000:=jP (qY sb hu) #[1];have d2:(u/b).natAbs<2^100000:=jP (qY su hb) #[1];have st':t.natAbs<2^100000:=jP st #[1];have sb':b.natAbs<2^100000:=jP sb #[1];have so':o.natAbs<2^100000:=jP so #[1];have su':u.natAbs<2^100000:=jP su #[1];have lb:b.natAbs<=b.natAbs*u.natAbs:=Nat.le_mul_of_pos_right _ #[0];have lu:u.natAbs<=b.natAbs*u.natAbs:=Nat.le_mul_of_pos_left _ #[0];refine⟨_,rfl,p,_,_,_,rfl,rfl,P,rfl,_,rfl,q,_,_,_,rfl,rfl,R,rfl,_,_,rfl,rfl,hu,rfl,_,rfl, ?_⟩;refine wH (λe=>?_) (λ_=>?_)
  ·refine⟨_,rfl,p,_,_,_,rfl,rfl,P,rfl,_,rfl,q,_,_,_,rfl,rfl,R,rfl,_,rfl,p,_,_,_,rfl,rfl,P,rfl,_,rfl,q,_,_,_,rfl,rfl,R,rfl,_,_,rfl,rfl,⟨hu,su⟩,_,_,rfl,rfl,⟨so',d1⟩,_,_,rfl,rfl,_,rfl,p,_,_,_,rfl,rfl,P,rfl,uX,λr H1 n1 s1 e1=>?_⟩;refine k r _ _ H1 n1 s1 e1 hb lb ?_;have m:=PH e;generalize b/u=x at m;subst m
   grind
  refine⟨_,rfl,q,_,_,_,rfl,rfl,R,rfl,_,rfl,p,_,_,_,rfl,rfl,P,rfl,_,_,rfl,rfl,hb,rfl,_,rfl, ?_⟩;refine wH (λe=>?_) (λ_=>?_)
  ·have m:=PH e;have bu:b.natAbs<2^8000:=by
    have:b∣u:=⟨_,m⟩;have:=Int.le_of_dvd hu this;exact gU #[0] su
   refine⟨_,rfl,q,_,_,_,rfl,rfl,R,rfl,_,rfl,p,_,_,_,rfl,rfl,P,rfl,_,rfl,q,_,_,_,rfl,rfl,R,rfl,_,rfl,p,_,_,_,rfl,rfl,P,rfl,_,_,rfl,rfl,⟨hb,bu⟩,_,_,rfl,rfl,⟨st',d2⟩,_,_,rfl,rfl,_,rfl,q,_,_,_,rfl,rfl,R,rfl,uX,λr H1 n1 s1 e1=>?_⟩;refine k r _ _ H1 n1 s1 e1 hu lu ?_;generalize u/b=x at m;subst m
   grind
  ·refine⟨_,rfl,p,_,_,_,rfl,rfl,P,rfl,_,rfl,q,_,_,_,rfl,rfl,R,rfl,_,_,rfl,rfl,⟨st',su'⟩,_,rfl,q,_,_,_,rfl,rfl,R,rfl,_,rfl,p,_,_,_,rfl,rfl,P,rfl,_,_,rfl,rfl,⟨so',sb'⟩,_,_,rfl,rfl, ?_⟩;refine⟨_,rfl,_,rfl,p,_,_,_,rfl,rfl,P,rfl,_,rfl,q,_,_,_,rfl,rfl,R,rfl,_,_,rfl,rfl,⟨sb',su'⟩,uX,λr H1 n1 s1 e1=>?_⟩;exact k r _ _ H1 n1 s1 e1 (nZ hb hu) (Nat.le_of_eq (mQ _ _)) rfl
open LwV
structure Kp(H H':Hp):Prop where
 tup:∀a xs,H a=some (.tup xs)->H' a=some (.tup xs)
 frz:∀a o x,H a=some (.frz o x)->H' a=some (.frz o x)
theorem Kp.of{H H':Hp}(s:Same H H'):Kp H H':=⟨λ_ _ e=>s _ _ e,λ_ _ _ e=>s _ _ e⟩
theorem Kp.trans{A B C:Hp}(h:Kp A B)(k:Kp B C):Kp A C:=⟨λ_ _ e=>k.tup _ _ (h.tup _ _ e),λ_ _ _ e=>k.frz _ _ _ (h.frz _ _ _ e)⟩
def Soft:HO->Prop
 | .tup _=>False
 | .frz _ _=>False
 | _=>True
theorem Kp.but{p:Addr}{H H':Hp}{x:HO}(b:But p H H')(e:H p=some x)(s:Soft x):Kp H H':=
 ⟨λa xs h=>b _ _ h λz=>by rw[z,e]at h;cases h;exact s,λa o y h=>b _ _ h λz=>by rw[z,e]at h;cases h;exact s⟩
theorem Kp.butT{cl tp:Addr}{H H':Hp}{B:Int}(b:But tp H H')(T:Tape cl H tp B):Kp H H':=by
 obtain⟨ns,spot,rest,left,z,_⟩:=T;exact Kp.but b z trivial
theorem Kp.upd{p:Addr}{H:Hp}{x y:HO}(e:H p=some x)(s:Soft x):Kp H (upd H p y):=Kp.but (p:=p) (λc o h n=>by rw[jG n];exact h) e s
structure Ent where
 ns:List Int
 c:Addr
 t:Int
 b:Int
 k:Nat
def Ent.kv(e:Ent):List Key×V:=(LwD.ik e.ns,.ref e.c)
def Ent.pr(e:Ent):List Int×Rat:=(e.ns,(e.t:Rat)/(e.b:Rat))
def pl(E:List Ent):Pl:=E.map Ent.pr
theorem OS(E:List Ent):(pl E).map (·.1)=E.map Ent.ns:=by unfold pl;rw[nT];rfl
structure Sz where
 D:Nat
 v:Nat
 S:Nat
 n:Nat
structure EntOk(H:Hp)(ad D v:Nat)(e:Ent):Prop where
 len:e.ns.length=ad
 nn:∀n∈e.ns,0<=n
 deg:e.ns.sum<=D
 at':At2 H e.c e.t e.b
 pos:0<e.b
 nz:e.t≠0
 sb:e.b.natAbs<=2^e.k
 st:e.t.natAbs<=2^v*e.b.natAbs
theorem EntOk.kp{H H':Hp}{ad D v:Nat}{e:Ent}(h:EntOk H ad D v e)(k:Kp H H'):EntOk H' ad D v e:=⟨h.len,h.nn,h.deg,k.tup _ _ h.at',h.pos,h.nz,h.sb,h.st⟩
theorem EntOk.up{H:Hp}{ad D v v':Nat}{e:Ent}(h:EntOk H ad D v e)(k:v<=v'):EntOk H ad D v' e:=⟨h.len,h.nn,h.deg,h.at',h.pos,h.nz,h.sb,nN h.st (gQ _ (gO #[1] k))⟩
structure DB(H:Hp)(ad:Nat)(z:Sz)(E:List Ent):Prop where
 nd:(E.map Ent.ns).Nodup
 each:∀e∈E,EntOk H ad z.D z.v e
 sum:(E.map Ent.k).sum<=z.S
 few:E.length<=z.n
theorem DB.kp{H H':Hp}{ad:Nat}{z:Sz}{E:List Ent}(h:DB H ad z E)(k:Kp H H'):DB H' ad z E:=⟨h.nd,λe he=>(h.each e he).kp k,h.sum,h.few⟩
theorem DB.up{H:Hp}{ad:Nat}{z z':Sz}{E:List Ent}(h:DB H ad z E)(hD:z.D<=z'.D)(hv:z.v<=z'.v)(hS:z.S<=z'.S)(hn:z.n<=z'.n):DB H ad z' E:=⟨h.nd,λe he=>by
 have k:=(h.each e he).up hv;exact⟨k.len,k.nn,by have:=k.deg;omega,k.at',k.pos,k.nz,k.sb,k.st⟩,nN h.sum hS,nN h.few hn⟩
theorem WY:∀{l:List Nat} {n:Nat},n∈l->n<=l.sum
 | a::r,n,h=>by
  rw[mZ];rcases mX.mp h with rfl | h
  ·exact Nat.le_add_right ..
  ·exact nN (WY h) (Nat.le_add_left ..)
theorem DB.k{H:Hp}{ad:Nat}{z:Sz}{E:List Ent}(h:DB H ad z E){e:Ent}(he:e∈E):e.k<=z.S:=nN (WY (List.mem_map_of_mem he)) h.sum
theorem EV{ns ms:List Int}(h:LwD.ik ns=LwD.ik ms):ns=ms:=by
 have:=congrArg (List.map kV) h;rw[LwD.yH,LwD.yH]at this;exact(List.map_inj_right (f:=V.int) (λa b e=>by injection e)).mp this
section
variable{k:List Key}{v v0:V}{L R l:List (List Key×V)}
theorem ZP(h:∀p∈l,p.1≠k):qR l k=none:=by
 unfold qR;rw[List.find?_eq_none.mpr λp hp=>by simp [h p hp]]
 rfl
theorem NR(h:∀p∈L,p.1≠k):qR (L++(k,v)::R) k=some v:=by
 unfold qR;rw[List.find?_append,List.find?_eq_none.mpr λp hp=>by simp [h p hp]];simp
theorem BZ(h:∀p∈l,p.1≠k):qU l k v=l++[(k,v)]:=by
 unfold qU;rw[tJ];intro z;obtain⟨p,hp,e⟩:=List.any_eq_true.mp z;exact h p hp (hX e)
theorem PJ(h:∀p∈l,p.1≠k):l.map (λkv=>if kv.1=k then(kv.1,v)else kv)=l:=by
 conv=>rhs;rw[<-List.map_id l]
 exact List.map_congr_left λp hp=>by rw[tJ (h p hp)];rfl
theorem put_mid(h1:∀p∈L,p.1≠k)(h2:∀p∈R,p.1≠k):qU (L++(k,v0)::R) k v=L++(k,v)::R:=by
 unfold qU;rw[tK (by simp),mM,mW,PJ h1,PJ h2];simp
theorem YO(h1:∀p∈L,p.1≠k)(h2:∀p∈R,p.1≠k):BH (L++(k,v0)::R) k=L++R:=by
 unfold BH;rw[List.filter_append,mK,List.filter_eq_self.mpr (λp hp=>mP (h1 p hp)),List.filter_eq_self.mpr (λp hp=>mP (h2 p hp))];simp
end
theorem xR{E:List Ent}{ns:List Int}(h:ns∉E.map Ent.ns):∀p∈E.map Ent.kv,p.1≠LwD.ik ns:=by
 intro p hp z;obtain⟨e,he,rfl⟩:=nP.mp hp;exact h (nP.mpr ⟨e,he,EV z⟩)
theorem TF{t b o u t' b':Int}(hb:0<b)(hu:0<u)(hb':0<b')(h:t'*(b*u)=(t*u+o*b)*b'):(t':Rat)/(b':Rat)=(t:Rat)/(b:Rat)+(o:Rat)/(u:Rat):=by
 have h1:(b:Rat)≠0:=by simpa using (show b≠0 by omega)
 have h2:(u:Rat)≠0:=by simpa using (show u≠0 by omega)
 have h3:(b':Rat)≠0:=by simpa using (show b'≠0 by omega)
 have e:(t':Rat)*(b*u)=(t*u+o*b)*b':=by exact_mod_cast h
 grind
theorem SB{t b o u t' b':Int}{v:Nat}(hb:0<b)(hu:0<u)(h:t'*(b*u)=(t*u+o*b)*b')(h1:t.natAbs<=2^v*b.natAbs)(h2:o.natAbs<=2^v*u.natAbs):t'.natAbs<=2^(v+1)*b'.natAbs:=by
 have:=MK hb hu h h1 h2;rw[Nat.pow_succ,Nat.mul_two];exact this
def KB(B:List Int->Nat)(E:List Ent):Prop:=∀e∈E,e.k<=B e.ns
theorem DB.kb{H:Hp}{ad:Nat}{z:Sz}{E:List Ent}(h:DB H ad z E):KB (λ_=>z.S) E:=λ_ he=>h.k he
theorem KB.up{B B':List Int->Nat}{E:List Ent}(h:KB B E)(k:∀m,B m<=B' m):KB B' E:=λe he=>nN (h e he) (k _)
def spPut:Sp:=λvs H Q _=>∃(d b q:Addr) (ns:List Int) (o u:Int) (ad j:Nat) (z:Sz) (E:List Ent) (B:List Int->Nat),vs=[.ref d,.ref b,.ref q]/\H d=some (.dT (E.map Ent.kv))/\DB H ad z E/\KB B E/\B ns<=40000/\j<=7900/\z.v<=4000/\z.n<=3000/\H b=some (.tup (ns.map V.int))/\ns.length=ad/\(∀n∈ns,0<=n)/\ns.sum<=z.D/\
 At2 H q o u/\0<u/\u.natAbs<=2^j/\o.natAbs<=2^z.v*u.natAbs/\∀(E':List Ent) (H':Hp),But d H H'->H' d=some (.dT (E'.map Ent.kv))->DB H' ad ⟨z.D,z.v+1,z.S+j,z.n+1⟩ E'->KB (λm=>B m+if m=ns then j else 0) E'->
  (∀m,cf (pl E') m=cf (pl E) m+if ns=m then(o:Rat)/(u:Rat)else 0)->Q .non H'
theorem xV{t b:Int}{v S:Nat}(ht:t.natAbs<=2^v*b.natAbs)(hb:b.natAbs<=2^S)(h:v+S<50000):t.natAbs<2^50000:=by
 have h1:=nN ht (Nat.mul_le_mul_left _ hb);rw[<-Nat.pow_add]at h1;exact gU h1 (gP #[1] #[0])
theorem xI{b:Int}{S n:Nat}(hb:b.natAbs<=2^S)(h:S<n):b.natAbs<2^n:=gU hb (gP #[1] h)
theorem scPut:FnScope ["found","powers","number","some"] ["found","powers","number"] (jK RT):=scK (by decide +kernel)
theorem ok_put{fP:Addr}{fdP:FuncData}(F:Fun K "_law_put" "_law_put" RT f fd)(DP:Df K mg "_law_plus" OL ["one","other"] fP fdP):FnOk P w K mg base CX0 2 f fd ["found","powers","number"] spPut:=by
 have GP:FnOk P w K mg base CX0 1 fP fdP ["one","other"] spPlus:=ok_lplus DP.F;refine F.ok scPut (λvs H Q E h=>?_) #[3]
 ·obtain⟨d,b,q,ns,o,u,ad,j,z,E',B,rfl,_⟩:=h
  rfl
 ·obtain⟨d,b,q,ns,o,u,ad,j,z,EE,BB,rfl,hd,hD,kB,hS,hj,hv,hn,hb,hl,hns,hsum,hq,pu,su,so,go⟩:=h;have hu:_+1<cLine:=gU (Nat.add_le_add_left (by decide:1<=64) _) hr.units;refine⟨_,jD (jL (i:=3) scPut.nd rfl (Or.inl rfl) (kG GP hr rfl DP.m DP.F.kp DP.b .nil qS (jA (EH hu (pv 0) (pv 1) (jW (jA jB (jA jB jC))) ⟨rfl,rfl,rfl,rfl⟩) (jA (pv 2) jC))))
   (jF (kT (jS OW (jR jU (pv 3) jB (λ_ _=>rfl)) jB (jZ _)) (jF (yV hu (pv 0) (pv 1) (pv 3) rfl))
    (jF (kT (VR (pc_din hu (pv 1) (pv 0))) (jF (xY (LwD.VY hu (pv 0) (pv 1) ⟨rfl,rfl,rfl,rfl⟩))) jV)))), ?_⟩
  have hb':H b=some (.tup ((LwD.ik ns).map kV)):=by rw[LwD.yH];exact hb
  have few:=hD.few;have kz:(EE.map Ent.kv).length<sizeLine:=by rw[mL];exact gU (nN few hn) #[1]
  refine⟨_,rfl,d,rfl,.inr ⟨_,.inl hd⟩,_,rfl,uX,λz1 H1 n1 s1 e1=>⟨qR (EE.map Ent.kv) (LwD.ik ns),DGet.t (s1 _ _ hd) (s1 _ _ hb'),_,rfl, ?_⟩⟩;have uf:u.natAbs<2^8000:=xI su #[0];have of:o.natAbs<2^50000:=xV so su #[0];have fin:∀(t b0 t' b':Int) (r:Addr) (H2:Hp),Same H H2->At2 H2 r t' b'->H1 r=none->0<b'->0<b0->t'*(b0*u)=(t*u+o*b0)*b'->t.natAbs<=2^z.v*b0.natAbs->
    (t':Rat)/(b':Rat)=(t:Rat)/(b0:Rat)+(o:Rat)/(u:Rat)/\t'.natAbs<=2^(z.v+1)*b'.natAbs/\r≠d:=λt b0 t' b' r H2 s2 e2 n2 pb pb0 eq ht=>
   ⟨TF pb0 pu pb eq,SB pb0 pu eq ht so,λzz=>by rw[zz,s1 _ _ hd]at n2;cases n2⟩
  by_cases hin:ns∈EE.map Ent.ns
  ·obtain⟨e,he,en⟩:=nP.mp hin;obtain⟨L,R,eE⟩:=List.append_of_mem he;have hE:=hD.each e he;have nd:=hD.nd;rw[eE,mM,mW]at nd;have nL:ns∉L.map Ent.ns:=λy=>by
    rw[<-en]at y;exact(mB.mp nd).2.2 _ y _ (gZ ..) rfl
   have nR:ns∉R.map Ent.ns:=λy=>by
    rw[<-en]at y;exact(List.nodup_cons.mp (mB.mp nd).2.1).1 y
   have km:EE.map Ent.kv=L.map Ent.kv++(LwD.ik ns,V.ref e.c)::R.map Ent.kv:=by
    rw[eE,mM,mW,<-en]
    rfl
   have ev:qR (EE.map Ent.kv) (LwD.ik ns)=some (.ref e.c):=by rw[km];exact NR (xR nL)
   rw[ev];have ke:e.k<=BB ns:=en▸kB e he;have ks:(L.map Ent.k).sum+(e.k+(R.map Ent.k).sum)<=z.S:=by
    have:=hD.sum
    rwa [eE,mM,mW,List.sum_append,mZ]at this
   have kf:L.length+(R.length+1)<=z.n:=by
    have:=few
    rwa [eE,List.length_append,mH]at this
   refine⟨e.c,q,e.t,e.b,o,u,rfl,s1 _ _ hE.at',s1 _ _ hq,hE.pos,pu,xV hE.st hE.sb #[0],xI hE.sb #[0],of,uf,λr t' b' H2 n2 s2 e2 pb lb eq=>?_⟩;have s12:Same H H2:=s1.trans s2;obtain⟨ex,rt,rd⟩:=fin e.t e.b t' b' r H2 s12 e2 n2 pb hE.pos eq hE.st;have hd2:H2 d=some (.dT (EE.map Ent.kv)):=s12 _ _ hd;have hb2:H2 b=some (.tup ((LwD.ik ns).map kV)):=s12 _ _ hb';have bd:∀o,But d H (upd H2 d o):=λo x y hx hn=>by
    rw[jG hn];exact s12 _ _ hx
   have tu:∀o:HO,Kp H (upd H2 d o):=λo=>(Kp.of s12).trans (Kp.upd hd2 trivial);have cE:∀m,cf (pl EE) m=(if ns=m then(e.t:Rat)/(e.b:Rat)else 0)+(cf (pl L) m+cf (pl R) m):=λm=>by
    rw[eE,pl,mM,mW,qE,xD];show cf (pl L) m+((if e.ns=m then(e.t:Rat)/(e.b:Rat)else 0)+cf (pl R) m)=_;rw[en]
    grind
   refine⟨_,rfl,r,_,_,_,rfl,rfl,SqT.of e2,rfl,rfl,_,rfl, ?_⟩;refine wH (λnz=>?_) (λnz=>?_)
   ·refine⟨_,rfl,_,rfl,_,rfl,d,_,rfl,DPut.t (k:=LwD.ik ns) hd2 hb2 kz, ?_⟩;have tz:t'≠0:=λy=>by rw[y]at nz;simp at nz
    refine go (L++⟨ns,r,t',b',e.k+j⟩::R) _ (bd _) ?_ ⟨?_,λx hx=>?_, ?_, ?_⟩ (λx hx=>?_) λm=>?_
    ·rw[jE,km,put_mid (xR nL) (xR nR),mM,mW]
     rfl
    ·rw[mM,mW];rw[en]at nd;exact nd
    ·rcases mO.mp hx with hx | hx
     ·exact((hD.each x (by rw[eE];exact List.mem_append_left _ hx)).kp (tu _)).up (Nat.le_succ _)
     ·rcases mX.mp hx with rfl | hx
      ·refine⟨hl,hns,hsum,by show At2 _ r t' b';rw[At2,jG rd];exact e2,pb,tz, ?_,rt⟩;refine nN lb ?_;rw[Nat.pow_add];exact mS hE.sb su
      ·exact((hD.each x (by rw[eE];exact gJ _ (gN _ hx))).kp (tu _)).up (Nat.le_succ _)
    ·rw[mM,mW,List.sum_append,mZ];show(L.map Ent.k).sum+(e.k+j+(R.map Ent.k).sum)<=z.S+j;omega
    ·rw[List.length_append,mH];show L.length+(R.length+1)<=z.n+1;omega
    ·rcases mO.mp hx with hx | hx
     ·exact nN (kB x (by rw[eE];exact List.mem_append_left _ hx)) (Nat.le_add_right ..)
     ·rcases mX.mp hx with rfl | hx
      ·show e.k+j<=BB ns+if ns=ns then j else 0
       rw[tK rfl];omega
      ·exact nN (kB x (by rw[eE];exact gJ _ (gN _ hx))) (Nat.le_add_right ..)
    ·rw[cE,pl,mM,mW,qE,xD];show cf (pl L) m+((if ns=m then(t':Rat)/(b':Rat)else 0)+cf (pl R) m)=_;rw[ex];split<;>grind
   ·refine⟨_,rfl,_,rfl,d,_,rfl,DGet.t (k:=LwD.ik ns) hd2 hb2,_,rfl, ?_⟩;rw[ev];refine iteT ⟨_,rfl,d,rfl,.inr ⟨_,.inl hd2⟩,_,rfl,_,LwD.ik ns,_,b,hd2,rfl,hb2,ev, ?_⟩;have tz:t'=0:=by
     by_cases y:t'=0
     ·exact y
     ·exact absurd (by simp [y]) nz
    refine go (L++R) _ (bd _) ?_ ⟨?_,λx hx=>?_, ?_, ?_⟩ (λx hx=>nN (kB x ?_) (Nat.le_add_right ..)) λm=>?_
    ·rw[jE,km,YO (xR nL) (xR nR),mM]
    ·rw[mM];rw[mB]at nd ⊢;exact⟨nd.1,(List.nodup_cons.mp nd.2.1).2,λa ha b hb=>nd.2.2 a ha b (gN _ hb)⟩
    ·refine((hD.each x ?_).kp (tu _)).up (Nat.le_succ _);rw[eE];rcases mO.mp hx with hx | hx
     ·exact List.mem_append_left _ hx
     ·exact gJ _ (gN _ hx)
    ·rw[mM,List.sum_append];show _<=z.S+j;omega
    ·rw[List.length_append];show _<=z.n+1;omega
    ·rw[eE];rcases mO.mp hx with hx | hx
     ·exact List.mem_append_left _ hx
     ·exact gJ _ (gN _ hx)
    ·rw[cE,pl,mM,qE];show cf (pl L) m+cf (pl R) m=_;rw[tz]at ex;have:(e.t:Rat)/(e.b:Rat)+(o:Rat)/(u:Rat)=0:=by rw[<-ex];show((0:Int):Rat)/_=0;grind
     split<;>grind
  ·have ev:qR (EE.map Ent.kv) (LwD.ik ns)=none:=ZP (xR hin);rw[ev];refine⟨z1,q,0,1,o,u,rfl,e1,s1 _ _ hq,by decide,pu,by show 0<_;exact Nat.pow_pos #[1],by show 1<_;exact Nat.one_lt_pow #[1] #[1],of,uf,λr t' b' H2 n2 s2 e2 pb lb eq=>?_⟩;have s12:Same H H2:=s1.trans s2;obtain⟨ex,rt,rd⟩:=fin 0 1 t' b' r H2 s12 e2 n2 pb #[1] eq (nY _);have hd2:H2 d=some (.dT (EE.map Ent.kv)):=s12 _ _ hd;have hb2:H2 b=some (.tup ((LwD.ik ns).map kV)):=s12 _ _ hb';have bd:∀o,But d H (upd H2 d o):=λo x y hx hn=>by
    rw[jG hn];exact s12 _ _ hx
   have tu:∀o:HO,Kp H (upd H2 d o):=λo=>(Kp.of s12).trans (Kp.upd hd2 trivial);have ex':(t':Rat)/(b':Rat)=(o:Rat)/(u:Rat):=by rw[ex];show((0:Int):Rat)/_+_=_;grind
   refine⟨_,rfl,r,_,_,_,rfl,rfl,SqT.of e2,rfl,rfl,_,rfl, ?_⟩;refine wH (λnz=>?_) (λnz=>?_)
   ·refine⟨_,rfl,_,rfl,_,rfl,d,_,rfl,DPut.t (k:=LwD.ik ns) hd2 hb2 kz, ?_⟩;have tz:t'≠0:=λy=>by rw[y]at nz;simp at nz
    refine go (EE++[⟨ns,r,t',b',j⟩]) _ (bd _) ?_ ⟨?_,λx hx=>?_, ?_, ?_⟩ (λx hx=>?_) λm=>?_
    ·rw[jE,BZ (xR hin),mM]
     rfl
    ·rw[mM,mB];refine⟨hD.nd,by simp,λa ha b hb=>?_⟩;have:b=ns:=by simpa using hb
     rintro rfl;rw[this]at ha;exact hin ha
    ·rcases mO.mp hx with hx | hx
     ·exact((hD.each x hx).kp (tu _)).up (Nat.le_succ _)
     ·rw[gY]at hx;subst hx;refine⟨hl,hns,hsum,by show At2 _ r t' b';rw[At2,jG rd];exact e2,pb,tz, ?_,rt⟩;refine nN lb ?_;rw[Int.natAbs_one,Nat.one_mul];exact su
    ·rw[mM,List.sum_append];have:=hD.sum;show(EE.map Ent.k).sum+(j+0)<=z.S+j;omega
    ·rw[List.length_append];show EE.length+1<=z.n+1;omega
    ·rcases mO.mp hx with hx | hx
     ·exact nN (kB x hx) (Nat.le_add_right ..)
     ·rw[gY]at hx;subst hx;show j<=BB ns+if ns=ns then j else 0
      rw[tK rfl];omega
    ·rw[pl,mM,qE];show cf (pl EE) m+((if ns=m then(t':Rat)/(b':Rat)else 0)+0)=_;rw[ex'];split<;>grind
   ·refine⟨_,rfl,_,rfl,d,_,rfl,DGet.t (k:=LwD.ik ns) hd2 hb2,_,rfl, ?_⟩;rw[ev];have tz:t'=0:=by
     by_cases y:t'=0
     ·exact y
     ·exact absurd (by simp [y]) nz
    have o0:(o:Rat)/(u:Rat)=0:=by rw[<-ex',tz];show((0:Int):Rat)/_=0;grind
    refine XX ?_;refine go EE H2 (But.of s12) hd2 ((hD.kp (Kp.of s12)).up uU (Nat.le_succ _) (Nat.le_add_right ..) (Nat.le_succ _)) (kB.up λm=>Nat.le_add_right ..) λm=>?_;rw[o0];split<;>grind
end LwK
namespace LwK
open PySem PySem.Spec PyProof.Rows L2 Lw LwD
inductive BT where
 | nil
 | node (l:BT) (x:Int) (r:BT)
def BT.ins(x:Int):BT->Option BT
 | .nil=>some (.node .nil x .nil)
 | .node l y r=>bif decide (x<y)then(match BT.ins x l with | some l'=>some (.node l' y r) | none=>none)else bif decide (y<x)then(match BT.ins x r with | some r'=>some (.node l y r') | none=>none)else none
def BT.toL:BT->List Int
 | .nil=>[]
 | .node l x r=>l.toL++x::r.toL
def BT.all:List Int->BT->Bool
 | [],_=>true
 | x::r,t=>match BT.ins x t with | some t'=>BT.all r t' | none=>false
theorem BT.ins_perm{x:Int} :∀{t t':BT},BT.ins x t=some t'->t'.toL.Perm (x::t.toL)
 | .nil,t',h=>by cases h;exact .refl _
 | .node l y r,t',h=>by
  unfold BT.ins at h;by_cases h1:x<y
  ·rw[mP h1]at h;cases e:BT.ins x l with
   | none=>rw[e]at h;cases h
   | some l'=>
    rw[e]at h;cases h;exact(BT.ins_perm e).append_right _
  ·rw[mN h1]at h;by_cases h2:y<x
   ·rw[mP h2]at h;cases e:BT.ins x r with
    | none=>rw[e]at h;cases h
    | some r'=>
     rw[e]at h;cases h;show(l.toL++y::r'.toL).Perm (x::(l.toL++y::r.toL));exact(((BT.ins_perm e).cons y).append_left l.toL).trans (((List.Perm.swap x y r.toL).append_left l.toL).trans List.perm_middle)
   ·rw[mN h2]at h;cases h
theorem BT.ins_lt{x:Int} :∀{t t':BT},BT.ins x t=some t'->t.toL.Pairwise (· < ·)->t'.toL.Pairwise (· < ·)
 | .nil,t',h,_=>by cases h;exact List.pairwise_singleton _ _
 | .node l y r,t',h,p=>by
  obtain⟨pl,pr,pc⟩:=List.pairwise_append.mp p;obtain⟨py,pr⟩:=List.pairwise_cons.mp pr;unfold BT.ins at h;by_cases h1:x<y
  ·rw[mP h1]at h;cases e:BT.ins x l with
   | none=>rw[e]at h;cases h
   | some l'=>
    rw[e]at h;cases h;refine List.pairwise_append.mpr ⟨BT.ins_lt e pl,List.pairwise_cons.mpr ⟨py,pr⟩,λa ha b hb=>?_⟩;rcases mX.mp ((BT.ins_perm e).mem_iff.mp ha)with rfl | ha
    ·rcases mX.mp hb with rfl | hb
     ·exact h1
     ·exact Int.lt_trans h1 (py _ hb)
    ·exact pc a ha b hb
  ·rw[mN h1]at h;by_cases h2:y<x
   ·rw[mP h2]at h;cases e:BT.ins x r with
    | none=>rw[e]at h;cases h
    | some r'=>
     rw[e]at h;cases h;refine List.pairwise_append.mpr ⟨pl,List.pairwise_cons.mpr ⟨λb hb=>?_,BT.ins_lt e pr⟩,λa ha b hb=>?_⟩
     ·rcases mX.mp ((BT.ins_perm e).mem_iff.mp hb)with rfl | hb
      ·exact h2
      ·exact py b hb
     ·rcases mX.mp hb with rfl | hb
      ·exact pc a ha _ (gZ ..)
      ·rcases mX.mp ((BT.ins_perm e).mem_iff.mp hb)with rfl | hb
       ·exact Int.lt_trans (pc a ha y (gZ ..)) h2
       ·exact pc a ha b (gN _ hb)
   ·rw[mN h2]at h;cases h
theorem BT.all_nd:∀{l:List Int} {t:BT},BT.all l t=true->t.toL.Pairwise (· < ·)->(l++t.toL).Nodup
 | [],t,_,p=>p.imp λh=>Int.ne_of_lt h
 | x::r,t,h,p=>by
  unfold BT.all at h;cases e:BT.ins x t with
  | none=>rw[e]at h;cases h
  | some t'=>
   rw[e]at h;have:=BT.all_nd h (BT.ins_lt e p);refine(List.Perm.nodup_iff ?_).mp this;exact((BT.ins_perm e).append_left r).trans List.perm_middle
theorem OZ{l:List Int}(h:BT.all l .nil=true):l.Nodup:=by
 have:=BT.all_nd h List.Pairwise.nil
 rwa [show(BT.nil).toL=[]from rfl,List.append_nil]at this
set_option maxRecDepth 100000 in
theorem hM1:((UE 1 16).map hT).Nodup:=OZ (by decide +kernel)
set_option maxRecDepth 100000 in
theorem hM2:((UE 2 16).map hT).Nodup:=OZ (by decide +kernel)
set_option maxRecDepth 100000 in
theorem hM3:((UE 3 16).map hT).Nodup:=OZ (by decide +kernel)
set_option maxRecDepth 100000 in
theorem hM4:((UE 4 16).map hT).Nodup:=OZ (by decide +kernel)
structure PwM(ad:Nat)(ns:List Int):Prop where
 len:ns.length=ad
 nn:∀n∈ns,0<=n
 deg:ns.sum<=16
theorem hM_inj{ad:Nat}(m1:1<=ad)(m4:ad<=4){a b:List Int}(ha:PwM ad a)(hb:PwM ad b)(e:hT a=hT b):a=b:=by
 have h1:=FD ad 16 a ha.len ha.nn ha.deg;have h2:=FD ad 16 b hb.len hb.nn hb.deg;have:ad=1∨ad=2∨ad=3∨ad=4:=by omega
 rcases this with rfl | rfl | rfl | rfl
 ·exact yR hM1 h1 h2 e
 ·exact yR hM2 h1 h2 e
 ·exact yR hM3 h1 h2 e
 ·exact yR hM4 h1 h2 e
def KeyM(ad:Nat)(k:List Key):Prop:=∃ns,k=ik ns/\PwM ad ns
theorem XU{P:Program}{w:World}{ad:Nat}(m1:1<=ad)(m4:ad<=4){k k':List Key}(h:KeyM ad k)(h':KeyM ad k')(e:(tkd P w).hash k=(tkd P w).hash k'):k=k':=by
 obtain⟨ns,rfl,hn⟩:=h;obtain⟨ms,rfl,hm⟩:=h';rw[QJ,QJ]at e;rw[hM_inj m1 m4 hn hm e]
section
variable{X:Cx}
def rDictM:List V->Hp->VK->Prop:=λxs H Q=>∃(a:Addr) (ad:Nat) (ah:List (List Key×V)),xs=[.ref a]/\Rd H a (.dT ah)/\1<=ad/\ad<=4/\(∀p∈ah,KeyM ad p.1)/\New H (.dT ah) Q
theorem NN:CallR X (.type "dict") rDictM:=by
 intro ae s σ H xs us Q I r h;obtain⟨a,ad,ah,rfl,ha,m1,m4,hn,q⟩:=h;obtain⟨u,rfl,ru⟩:=xU r;cases ru;obtain⟨z,lo,ks,rel,dd⟩:=AK I.hok ha;have lz:=Paired.length rel;refine TL lo dd ?_ #[0] λh' D kk=>?_
 ·have e:=KTkeys rel;obtain⟨_,_,_,_,_,_,_,_,nd⟩:=id dd;have sm:∀x∈ks.map (·.1),KeyM ad x:=λx hx=>by
   rw[<-e]at hx;obtain⟨p,hp,rfl⟩:=nP.mp hx;exact hn p hp
  have:(ks.map λx=>(tkd X.prog X.w).hash x.1)=(ks.map (·.1)).map λk=>(tkd X.prog X.w).hash k:=by rw[nT];rfl
  rw[this];generalize ks.map (·.1)=l at nd sm;refine List.pairwise_map.mpr (List.Pairwise.imp_of_mem (fun {a b} ha hb hab hs=>hab (XU m1 m4 (sm a ha) (sm b hb) hs)) nd)
 ·obtain⟨ob,es,ep,g1,g2,g3,g4,_,g5⟩:=D;refine⟨.ref s.heap.objs.size,_,I.laid (a:=s.heap.objs.size) (o:=.dT ah) (t':=s.toks) kk uU ⟨by omega,beq_eq_false_iff_ne.mpr (Ne.symm (nO I.big)),ks,(KT.keeps rel λc ys e=>?_),ob,es,ep,g1,g2,g3,g4,g5⟩,rfl,q.at (I.hok.fresh uU)⟩;rw[jG (λz=>by rw[z,I.hok.fresh uU]at e;cases e)];exact e
end
end LwK
namespace LwK
open PySem PySem.Spec PyProof.Rows L2 LwQ LwV Lw
structure FQ(H:Hp)(d:Addr)(ad:Nat)(z:Sz)(E:List Ent):Prop where
 fr:∃o,H d=some (.frz o (.dT (E.map Ent.kv)))
 db:DB H ad z E
theorem FQ.kp{H H':Hp}{d:Addr}{ad:Nat}{z:Sz}{E:List Ent}(h:FQ H d ad z E)(k:Kp H H'):FQ H' d ad z E:=⟨h.fr.elim λo e=>⟨o,k.frz _ _ _ e⟩,h.db.kp k⟩
theorem FQ.rd{H:Hp}{d:Addr}{ad:Nat}{z:Sz}{E:List Ent}(h:FQ H d ad z E):Rd H d (.dT (E.map Ent.kv)):=.inr h.fr
theorem val_in{E:List Ent}(nd:(E.map Ent.ns).Nodup){e:Ent}(he:e∈E):qR (E.map Ent.kv) (LwD.ik e.ns)=some (.ref e.c):=by
 obtain⟨L,R,rfl⟩:=List.append_of_mem he;rw[mM,mW]at nd ⊢;refine NR (xR λy=>?_);exact(mB.mp nd).2.2 _ y _ (gZ ..) rfl
theorem VN{H:Hp}{d b:Addr}{E:List Ent}(h:Rd H d (.dT (E.map Ent.kv)))(nd:(E.map Ent.ns).Nodup){e:Ent}(he:e∈E)(hb:H b=some (.tup (e.ns.map V.int))):DGet H d (.ref b) (some (.ref e.c)):=
 .inr ⟨_,LwD.ik e.ns,b,h,rfl,by rw[LwD.yH];exact hb,(val_in nd he).symm⟩
theorem FQ.get{H:Hp}{d b:Addr}{ad:Nat}{z:Sz}{E:List Ent}(h:FQ H d ad z E){e:Ent}(he:e∈E)(hb:H b=some (.tup (e.ns.map V.int))):DGet H d (.ref b) (some (.ref e.c)):=VN h.rd h.db.nd he hb
theorem wS(E:List Ent):∀p∈E.map Ent.kv,∃ns:List Int,p.1=LwD.ik ns:=λp hp=>by
 obtain⟨e,_,rfl⟩:=nP.mp hp;exact⟨e.ns,rfl⟩
theorem DB.keyM{H:Hp}{ad:Nat}{z:Sz}{E:List Ent}(h:DB H ad z E)(hD:z.D<=16):∀p∈E.map Ent.kv,KeyM ad p.1:=λp hp=>by
 obtain⟨e,he,rfl⟩:=nP.mp hp;have k:=h.each e he;exact⟨e.ns,rfl,k.len,k.nn,by have:=k.deg;omega⟩
theorem wJ{d:Addr}{o:Obj}{E:List Ent}{ys:List V}{g:TG}{tb:TS}{D:Ends}{σ:L2.St}{H H0:Hp}(ks:LwD.Keyed H0 ys (E.map Ent.kv))(Pv:Nat->L2.St->Hp->Prop)(h0:Pv 0 σ H)(hl:∀i σ H,Pv i σ H->H d=some (.frz o (.dT (E.map Ent.kv)))/\Kp H0 H)
  (hs:∀i e b σ H,E[i]? = some e->e∈E->H b=some (.tup (e.ns.map V.int))->Pv i σ H->g (.ref b) σ H fun σ2 H2=>tb { D with nx:=Pv (i+1),ct:=Pv (i+1),bk:=D.nx } σ2 H2) (hd:∀σ H,Pv E.length σ H->D.nx σ H) :
  ∃W:Nat->Nat->L2.St->Hp->Prop,(∃m,W 0 m σ H)/\∀i m σ H,W i m σ H->
   ((LwD.Itk d o (E.map Ent.kv) ys).stop i H/\D.nx σ H)∨((LwD.Itk d o (E.map Ent.kv) ys).go i H/\∃N:L2.St->Hp->Prop,(∀σ' H',N σ' H'->∃m',m'<m/\W (i+1) m' σ' H')/\∀x H',(LwD.Itk d o (E.map Ent.kv) ys).yld i H x H'->g x σ H' fun σ2 H2=>tb { D with nx:=N,ct:=N,bk:=D.nx } σ2 H2):=by
 have lk:ys.length=E.length:=by rw[ks.1,mL]
 refine LwD.YK Pv h0 (λi σ H h=>(hl i σ H h).1) (λi x σ H hx h=>?_) (fun σ H h=>hd σ H (by rw[<-lk];exact h));have hi:i<E.length:=by rw[<-lk];exact(gB.mp hx).1
 obtain⟨e,he⟩:∃e,E[i]? = some e:=⟨E[i],by simp [hi]⟩;obtain⟨b,ns',rfl,hb,hns⟩:=ks.2 i x e.kv hx (by rw[hU,he];rfl);have ens:e.ns=ns':=EV hns;subst ens;exact hs i e b σ H he (gM he) ((hl i σ H h).2.tup _ _ hb) h
theorem wQ{E:List Ent}{i:Nat}{e:Ent}(he:E[i]? = some e):pl (E.take (i+1))=pl (E.take i)++[e.pr]:=by
 rw[hW,he];unfold pl;rw[mM]
 rfl
theorem AE{E:List Ent}{i:Nat}{e:Ent}(he:E[i]? = some e):((E.take (i+1)).map Ent.k).sum=((E.take i).map Ent.k).sum+e.k:=by
 rw[hW,he,mM,List.sum_append]
 rfl
theorem XT(E:List Ent)(i:Nat):((E.take i).map Ent.k).sum<=(E.map Ent.k).sum:=by
 conv=>rhs;rw[<-List.take_append_drop i E,mM,List.sum_append]
 exact Nat.le_add_right ..
theorem kD{H H':Hp}{l:Addr}{o:HO}(s:Same H H')(n:H l=none):Same H (upd H' l o):=λc u h=>by
 rw[jG (jQ h n)];exact s c u h
structure CmI(F:Nat->List V)(q:Addr)(H1:Hp)(i:Nat)(ys:List V)(H2:Hp):Prop where
 s:Same H1 H2
 e:H2 q=some (.lst ys)
 y:ys=F i
theorem TQ{K:tL}{a b:Addr}{ts us:List V}{σ0:L2.St}{g:TG}{te:TE}{Q:VK}{p:Addr}{H':Hp}(Pv:Nat->List V->Hp->Prop)(hle:us.length=ts.length)(hz:us.length<sizeLine)(h0:Pv 0 [] H')
  (hl:∀i ys H2,Pv i ys H2->SqT K H2 a ts/\SqT K H2 b us/\H2 p=some (.lst ys))
  (hs:∀i m ys x y c H2,ts[i]? = some x->us[i]? = some y->m=us.length-i->ys.length=i->Pv i ys H2->H2 c=none->g (.ref c) σ0 (upd H2 c (.tup [x,y])) fun σ4 H4=>Keep σ0 σ4/\te σ4 H4 λy H5=>H5 p=some (.lst ys)/\∃m',m'<m/\CompW us Pv (i+1) m' (ys++[y]) (upd H5 p (.lst (ys++[y]))))
  (hd:∀ys H2,ys.length=us.length->Pv us.length ys H2->Q (.ref p) H2):CompGoF σ0 (Itz K a b) g te Q p H':=by
 refine⟨CompW us Pv,⟨_,rfl,nY _,rfl,h0⟩, ?_⟩;rintro i m ys H2 ⟨hm,hi,hy,hp⟩;obtain⟨q1,q2,e⟩:=hl i ys H2 hp;refine⟨e,by omega, ?_⟩;by_cases hlt:i<us.length
 ·have h2:i<ts.length:=by omega
  refine .inr ⟨⟨ts,us,ts[i],us[i],q1,q2,by simp [h2],by simp [hlt]⟩, ?_⟩;rintro _ _ ⟨c,x,y,hc,rfl,rfl,h1,h2⟩;exact hs i m ys x y c H2 (h1 _ q1) (h2 _ q2) hm hy hp hc
 ·obtain rfl:i=us.length:=by omega
  exact .inl ⟨⟨ts,us,q1,q2,.inr uU⟩,hd ys H2 hy hp⟩
abbrev rTupOf(K:tL):List V->Hp->VK->Prop:=λxs H Q=>∃p ys,xs=[.ref p]/\((SqL K H p ys/\∀l,H l=none->Q (.ref l) (upd H l (.tup ys)))∨(SqT K H p ys/\Q (.ref p) H))
abbrev tBoth(K:tL)(i j:Nat):TE:=tCB (rTupOf K) (qO (UV 2 [] (iZipT K (qO (kH i) (qO (kH j) tNil))) (FI K 2 (vX (jT 0) (vX (jT 1) gNil))) (tOp (rI0 λi j=>V.int (i+j)) (kH 0) (kH 1))) tNil)
theorem dBoth{K:tL}{i j:Nat}{σ:L2.St}{H:Hp}{a b:Addr}{as bs:List Int}{Q:VK}(e1:σ[i]? = some (some (.ref a)))(e2:σ[j]? = some (some (.ref b)))(ha:H a=some (.tup (as.map V.int)))(hb:H b=some (.tup (bs.map V.int)))(hl:bs.length=as.length)(h4:bs.length<=4)
  (q:∀p H',H p=none->Same H H'->H' p=some (.tup ((kW as bs).map V.int))->Q (.ref p) H'):tBoth K i j σ H Q:=by
 refine⟨_,e1,_,e2,a,b,rfl,⟨_,SqT.of ha⟩,⟨_,SqT.of hb⟩,λl H1 n1 s1 h1=>?_⟩;refine TQ (K:=K) (a:=a) (b:=b) (ts:=as.map V.int) (us:=bs.map V.int) (CmI (λk=>((kW as bs).take k).map V.int) l H) (by simp [hl]) (by rw[mL];exact gU h4 #[1]) ⟨s1,h1,rfl⟩ (λk ys H2 h=>⟨SqT.of (h.s _ _ ha),SqT.of (h.s _ _ hb),h.e⟩) ?_ ?_
 ·rintro k m ys x y c H2 hx hy hm hyl ⟨s2,h2,ey⟩ hc;rw[hU]at hx hy;obtain⟨x',hx',rfl⟩:=Option.map_eq_some_iff.mp hx;obtain⟨y',hy',rfl⟩:=Option.map_eq_some_iff.mp hy;have s3:Same H2 (upd H2 c (.tup [.int x',.int y'])):=jY _ hc;refine⟨c,_,rfl,SqT.of jE,rfl,_,_,rfl,_,_,rfl,rfl,KY,_,rfl,_,rfl,_,_,rfl,rfl, ?_⟩;refine wW (by rw[hU,hy'];rfl) hm hyl (s3 _ _ h2) ⟨kD (s2.trans s3) n1,jE, ?_⟩;rw[ey,hW,mM]
  congr 1
  have:(kW as bs)[k]? = some (x'+y'):=by unfold kW;rw[List.getElem?_zipWith,hx',hy']
  rw[this]
  rfl
 ·rintro ys H2 hyl ⟨s2,h2,ey⟩;have el:(kW as bs).length=bs.length:=by unfold kW;rw[List.length_zipWith];omega
  rw[mL,<-el,mG]at ey;refine⟨l,_,rfl,.inl ⟨SqL.of h2,λp np=>?_⟩⟩;rw[ey];exact q p _ (s2.free np) (s2.trans (jY _ np)) jE
theorem vU:∀{as bs:List Int},as.length=bs.length->(kW as bs).sum=as.sum+bs.sum
 | [],[],_=>rfl
 | a::as,b::bs,h=>by
  show(a+b)+(kW as bs).sum=(a+as.sum)+(b+bs.sum);rw[vU (by simpa using h)];omega
theorem uT{as bs:List Int}(ha:∀n∈as,0<=n)(hb:∀n∈bs,0<=n):∀n∈kW as bs,0<=n:=λn hn=>by
 obtain⟨i,hi⟩:=gL.mp hn;unfold kW at hi;rw[List.getElem?_zipWith]at hi;split at hi
 ·rename_i x y h1 h2;cases hi;have:=ha x (gM h1);have:=hb y (gM h2);omega
 ·cases hi
def HW(K:tL):Sp:=λvs H Q _=>∃(p q:Addr) (t b o u:Int),vs=[.ref p,.ref q]/\SqT K H p [.int t,.int b]/\SqT K H q [.int o,.int u]/\t.natAbs<2^50000/\b.natAbs<2^50000/\o.natAbs<2^50000/\u.natAbs<2^50000/\
 ∀(r:Addr) (H':Hp),H r=none->Same H H'->At2 H' r (t*o) (b*u)->Q (.ref r) H'
theorem YV(a b:Int):decide (V.int a=V.int b)=decide (a=b):=by
 by_cases h:a=b
 ·rw[h];simp
 ·rw[mN h,mN];intro z;injection z with z
  exact h z
variable{P:Program}{w:World}{K:tL}{mg:Str->Option Value}{base:Heap}{f fd:_}
theorem scLMul:FnScope ["one","other"] ["one","other"] (jK FO):=scK (by decide +kernel)
theorem ok_lmul(F:Fun K "_law_mul" "_law_mul" FO f fd):FnOk P w K mg base CX0 1 f fd ["one","other"] (HW K):=by
 refine F.ok scLMul (λvs H Q E h=>?_) #[3]
 ·obtain⟨p,q,t,b,o,u,rfl,_⟩:=h
  rfl
 ·obtain⟨p,q,t,b,o,u,rfl,hp,hq,st,sb,so,su,k⟩:=h;refine⟨_,jF (jO (jW (jA (jH qI (jR jU (pv 0) jB (λ_ _=>rfl)) (jR jU (pv 1) jB (λ_ _=>rfl))) (jA (jH qI (jR jU (pv 0) jB (λ_ _=>rfl)) (jR jU (pv 1) jB (λ_ _=>rfl))) jC)))), ?_⟩;try dsimp only[cxK]
  have up:∀{a:Int},a.natAbs<2^50000->a.natAbs<2^100000:=λh=>jP h #[1];exact rvT rfl hp rfl (rvT rfl hq rfl ⟨_,_,rfl,rfl,⟨up st,up so⟩,rvT rfl hp rfl (rvT rfl hq rfl ⟨_,_,rfl,rfl,⟨up sb,up su⟩,uX,k⟩)⟩)
theorem JS{p:Addr}{H H1 H2:Hp}(s:Same H H1)(b:But p H1 H2)(n:H p=none):Same H H2:=λc o h=>b _ _ (s _ _ h) (λz=>by rw[z,n]at h;cases h)
def spAdded:Sp:=λvs H Q _=>∃(d1 d2:Addr) (ad:Nat) (z y:Sz) (E1 E2:List Ent) (B1 B2:List Int->Nat),vs=[.ref d1,.ref d2]/\FQ H d1 ad z E1/\FQ H d2 ad y E2/\1<=ad/\ad<=4/\y.D<=z.D/\y.v<=z.v/\z.D<=16/\KB B1 E1/\KB B2 E2/\(∀m,B1 m<=40000)/\(∀m,B2 m<=7900)/\z.v+y.n<=4000/\z.n+y.n<=3000/\
 ∀(p:Addr) (E':List Ent) (H':Hp),H p=none->Same H H'->H' p=some (.dT (E'.map Ent.kv))->DB H' ad ⟨z.D,z.v+y.n,z.S+y.S,z.n+y.n⟩ E'->KB (λm=>B1 m+B2 m) E'->(∀m,cf (pl E') m=cf (pl E1) m+cf (pl E2) m)->Q (.ref p) H'
inductive AdI(H H1:Hp)(d1 d2 p:Addr)(ad:Nat)(z:Sz)(E1 E2:List Ent)(B1 B2:List Int->Nat)(i:Nat):L2.St->Hp->Prop where
 | mk {u:Option V} {H':Hp} {E':List Ent} (s:Same H H') (k:Kp H1 H') (e:H' p=some (.dT (E'.map Ent.kv))) (db:DB H' ad ⟨z.D,z.v+i,z.S+((E2.take i).map Ent.k).sum,z.n+i⟩ E') (kb:KB (λm=>B1 m+if m∈(E2.take i).map Ent.ns then B2 m else 0) E') (c:∀m,cf (pl E') m=cf (pl E1) m+cf (pl (E2.take i)) m):AdI H H1 d1 d2 p ad z E1 E2 B1 B2 i [some (.ref d1),some (.ref d2),some (.ref p),u] H'
theorem UI{t b:Int}{v v':Nat}(h:t.natAbs<=2^v*b.natAbs)(k:v<=v'):t.natAbs<=2^v'*b.natAbs:=nN h (gQ _ (gO #[1] k))
theorem CF{E:List Ent}{i:Nat}{e:Ent}(nd:(E.map Ent.ns).Nodup)(he:E[i]? = some e):e.ns∉(E.take i).map Ent.ns:=λh=>by
 rw[nA]at h;obtain⟨j,hj⟩:=gL.mp h;have hi:i<E.length:=(gB.mp he).1;have hji:j<i:=by
  have:=(gB.mp hj).1;rw[mD]at this;omega
 rw[gE hji]at hj;have g2:(E.map Ent.ns)[i]? = some e.ns:=by rw[hU,he];rfl
 have:=(List.getElem?_inj (by rw[mL];omega) nd).mp (hj.trans g2.symm);omega
theorem scAdded:FnScope ["one","other","found","powers"] ["one","other"] (jK EB):=scK (by decide +kernel)
theorem ok_ladd(F:Fun K "_law_added" "_law_added" EB f fd)(T:Txt mg)(GT:DG P w K mg base 2 "_law_put" RT ["found","powers","number"] spPut):FnOk P w K mg base CX0 3 f fd ["one","other"] spAdded:=by
 refine F.ok scAdded (λvs H Q E h=>?_) #[3]
 ·obtain⟨d1,d2,ad,z,y,E1,E2,B1,B2,rfl,_⟩:=h
  rfl
 ·obtain⟨d1,d2,ad,z,y,E1,E2,B1,B2,rfl,h1,h2,m1,m4,hyD,hyv,hD,kb1,kb2,hb1,hb2,hv,hn,go⟩:=h;have hu:_+1<cLine:=gU (Nat.add_le_add_left (by decide:1<=64) _) hr.units;refine⟨_,jD (jL (i:=2) scAdded.nd rfl (Or.inl rfl) (qF NN (by rfl) T.dct boot_dict (jA (pv 0) jC)))
   (jD (kU PassesOwn.never rfl (LwD.wR (pv 1)) (jJ (i:=3) scAdded.nd rfl (Or.inl rfl))
    (jF (xY (cal GT hr (jA (pv 2) (jA (pv 3) (jA (vT hu (pv 1) (pv 3) (λ_ _=>rfl)) jC)))))))
   (jF (jO (pv 2)))), ?_⟩
  try dsimp only[cxK]
  refine⟨_,rfl,d1,ad,_,rfl,h1.rd,m1,m4,h1.db.keyM hD,λp H1 n1 s1 e1=>?_⟩;obtain⟨o2,f2⟩:=(h2.kp (Kp.of s1)).fr;refine⟨_,rfl,d2,o2,_,rfl,f2,wS E2,λks hks=>?_⟩;refine wJ hks (AdI H H1 d1 d2 p ad z E1 E2 B1 B2) (.mk s1 (Kp.of (Same.refl _)) e1 ((h1.db.kp (Kp.of s1)).up uU uU (Nat.le_add_right ..) uU) (kb1.up λm=>Nat.le_add_right ..) λm=>by show _=_+(0:Rat);grind) (λi σ H2 h=>?_) (λi e b σ H2 he eM hb h=>?_) (fun σ H2 h=>?_)
  ·obtain⟨s2,k,e2,db,kb,c⟩:=h;exact⟨k.frz _ _ _ f2,k⟩
  ·obtain⟨s2,k,e2,db,kb,c⟩:=h;have kE:=(h2.db.each e eM).kp (Kp.of s2);have hk:=h2.db.k eM;have ss:=AE he;have sl:=XT E2 (i+1);have sm:=h2.db.sum;have hi:i<E2.length:=(gB.mp he).1;have fw:=h2.db.few;refine⟨_,rfl,_,rfl,_,rfl,_,rfl,d2,_,rfl,(h2.kp (Kp.of s2)).get eM hb,p,b,e.c,e.ns,e.t,e.b,ad,e.k,_,_,_,rfl,e2,db,kb, ?_, ?_, ?_, ?_,hb,kE.len,kE.nn, ?_,kE.at',kE.pos,kE.sb,UI kE.st ?_,λE' H3 b3 e3 db3 kb3 c3=>?_⟩
   ·show B1 e.ns+_<=40000;rw[tJ (CF h2.db.nd he)];exact hb1 e.ns
   ·exact nN (kb2 e eM) (hb2 _)
   ·show z.v+i<=4000;omega
   ·show z.n+i<=3000;omega
   ·show _<=((z.D:Nat):Int);have:=kE.deg;omega
   ·show y.v<=z.v+i;omega
   ·refine .mk (JS s2 b3 n1) (k.trans (Kp.but b3 e2 trivial)) e3 ?_ (kb3.up λm=>?_) λm=>?_
    ·rw[ss];exact db3.up uU uU (by show z.S+_+e.k<=z.S+(_+e.k);omega) uU 
    ·show B1 m+_+_<=B1 m+_;rw[hW,he,mM];by_cases q:m=e.ns
     ·rw[tK q,tK (gJ _ (by rw[q];exact gZ ..)),q,tJ (CF h2.db.nd he)];have:=kb2 e eM;omega
     ·rw[tJ q];by_cases r:m∈(E2.take i).map Ent.ns
      ·rw[tK r,tK (List.mem_append_left _ r)];exact nX _
      ·rw[tJ r];omega
    ·rw[c3,c,wQ he,qE];show _=_+(_+((if e.ns=m then(e.t:Rat)/(e.b:Rat)else 0)+0))
     grind
  ·obtain⟨s2,k,e2,db,kb,c⟩:=h;rw[mG]at db c;exact⟨_,rfl,go p _ H2 n1 s2 e2 (db.up uU (by show z.v+E2.length<=z.v+y.n;have:=h2.db.few;omega) (by show z.S+_<=z.S+y.S;have:=h2.db.sum;omega) (by show z.n+E2.length<=z.n+y.n;have:=h2.db.few;omega)) (kb.up λm=>by split<;>omega) c⟩
theorem EN{a b c d x y:Nat}(h1:a<=2^x*b)(h2:c<=2^y*d):a*c<=2^(x+y)*(b*d):=by
 rw[Nat.pow_add]
 calc a*c<=2^x*b*(2^y*d):=mS h1 h2
  _=2^x*2^y*(b*d):=by grind
def spScaled(K:tL):Sp:=λvs H Q _=>∃(d q:Addr) (ad j x:Nat) (z:Sz) (E:List Ent) (o u:Int) (B:List Int->Nat),vs=[.ref d,.ref q]/\FQ H d ad z E/\SqT K H q [.int o,.int u]/\0<u/\u.natAbs<=2^j/\o.natAbs<=2^x*u.natAbs/\KB B E/\(∀m,B m<=40000)/\z.v<=4000/\z.n<=3000/\j<=7900/\x<=4000/\
 ∀(p:Addr) (E':List Ent) (H':Hp),H p=none->Same H H'->H' p=some (.dT (E'.map Ent.kv))->DB H' ad ⟨z.D,z.v+x,z.S+z.n*j,z.n⟩ E'->KB (λm=>B m+j) E'->(∀m,cf (pl E') m=(o:Rat)/(u:Rat)*cf (pl E) m)->(o = -1->u=1->pl E'=(pl E).map λx=>(x.1,-1*x.2))->Q (.ref p) H'
inductive ScI(H H1:Hp)(d q p:Addr)(ad j x:Nat)(z:Sz)(o u:Int)(E:List Ent)(B:List Int->Nat)(i:Nat):L2.St->Hp->Prop where
 | mk {v:Option V} {H':Hp} {E':List Ent} (s:Same H H') (k:Kp H1 H') (e:H' p=some (.dT (E'.map Ent.kv))) (db:DB H' ad ⟨z.D,z.v+x,((E.take i).map Ent.k).sum+i*j,i⟩ E') (kb:KB (λm=>B m+j) E') (ky:∀n∈E'.map Ent.ns,n∈(E.take i).map Ent.ns) (c:∀m,cf (pl E') m=(o:Rat)/(u:Rat)*cf (pl (E.take i)) m)
   (ng:o = -1->u=1->pl E'=(pl (E.take i)).map λx=>(x.1,-1*x.2)):ScI H H1 d q p ad j x z o u E B i [some (.ref d),some (.ref q),some (.ref p),v] H'
theorem scScaled:FnScope ["one","number","found","powers"] ["one","number"] (jK zQ):=scK (by decide +kernel)
theorem ok_lscaled(F:Fun K "_law_scaled" "_law_scaled" zQ f fd)(GM:DG P w K mg base 1 "_law_mul" FO ["one","other"] (HW K)):FnOk P w K mg base CX0 2 f fd ["one","number"] (spScaled K):=by
 refine F.ok scScaled (λvs H Q E h=>?_) #[3]
 ·obtain⟨d,q,ad,j,x,z,E1,o,u,B,rfl,_⟩:=h
  rfl
 ·obtain⟨d,q,ad,j,x,z,EE,o,u,BB,rfl,h1,hq,pu,su,so,kB,hS,hv,hn,hj,hx,go⟩:=h;have hu:_+1<cLine:=gU (Nat.add_le_add_left (by decide:1<=64) _) hr.units;refine⟨_,jD (jL (i:=2) scScaled.nd rfl (Or.inl rfl) zY)
   (jD (kU PassesOwn.never rfl (LwD.wR (pv 0)) (jJ (i:=3) scScaled.nd rfl (Or.inl rfl))
    (jF (kT (jS OW (jR jU (pv 1) jB (λ_ _=>rfl)) jB (jZ _))
     (jF (yV hu (pv 2) (pv 3) (cal GM hr (jA (vT hu (pv 0) (pv 3) (λ_ _=>rfl)) (jA (pv 1) jC))) rfl)) jV)))
   (jF (jO (pv 2)))), ?_⟩
  try dsimp only[cxK]
  intro p np;have s1:Same H (upd H p (.dT [])):=jY _ np;generalize hH1:upd H p (.dT [])=H1 at s1;have e1:H1 p=some (.dT (([]:List Ent).map Ent.kv)):=hH1▸jE;obtain⟨o2,f2⟩:=(h1.kp (Kp.of s1)).fr;have few:=h1.db.few;refine⟨_,rfl,d,o2,_,rfl,f2,wS EE,λks hks=>?_⟩;refine wJ hks (ScI H H1 d q p ad j x z o u EE BB) (.mk s1 (Kp.of (Same.refl _)) e1 ⟨mU,(λe h=>nomatch h),nY _,nY _⟩ (λn h=>nomatch h) (λn h=>nomatch h) (λm=>by show(0:Rat)=_*0;grind) λ_ _=>rfl) (λi σ H2 h=>?_) (λi e b σ H2 he eM hb h=>?_) (fun σ H2 h=>?_)
  ·obtain⟨s2,k,e2,db,kb,ky,c,ng⟩:=h;exact⟨k.frz _ _ _ f2,k⟩
  ·obtain⟨s2,k,e2,db,kb,ky,c,ng⟩:=h;rename_i E0;have kE:=h1.db.each e eM;have ke:=nN (kB e eM) (hS e.ns);have hi:i<EE.length:=(gB.mp he).1;have sk:=AE he;refine rvT rfl (yM s2 hq) rfl ⟨rfl,_,rfl, ?_⟩;rw[YV];by_cases o0:o=0
   ·refine xB (by rw[mP o0];rfl) ?_;refine .mk s2 k e2 (db.up uU uU (by show((EE.take i).map Ent.k).sum+i*j<=((EE.take (i+1)).map Ent.k).sum+(i+1)*j;rw[sk,Nat.succ_mul];omega) (Nat.le_succ _)) kb (λn hn'=>?_) (λm=>?_) λh=>by omega
    ·rw[hW,mM];exact List.mem_append_left _ (ky n hn')
    ·rw[c,o0];show((0:Int):Rat)/_*_=((0:Int):Rat)/_*_
     grind
   ·refine AF (by rw[mN o0];rfl) ?_;refine⟨_,rfl,_,rfl,d,_,rfl,(h1.kp (Kp.of s2)).get eM hb,_,rfl,e.c,q,e.t,e.b,o,u,rfl,SqT.of ((h1.kp (Kp.of s2)).db.each e eM).at',yM s2 hq,xV kE.st kE.sb #[0],xI kE.sb #[0],xV so su #[0],xI su #[0],λr H3 n3 s3 e3=>?_⟩;have nw:e.ns∉E0.map Ent.ns:=λhh=>CF h1.db.nd he (ky e.ns hh);have hd3:=s3 _ _ e2;have kz:(List.map Ent.kv E0).length<sizeLine:=gU (by rw[mL];exact nN db.few (show i<=3000 by omega)) #[1];refine⟨_,rfl,_,rfl,p,_,rfl,DPut.t (k:=LwD.ik e.ns) hd3 (by rw[LwD.yH];exact s3 _ _ hb) kz, ?_⟩;have k3:Kp H2 (upd H3 p (.dT (qU (List.map Ent.kv E0) (LwD.ik e.ns) (.ref r)))):=(Kp.of s3).trans (Kp.upd hd3 trivial);have rp:r≠p:=λzz=>by rw[zz,e2]at n3;cases n3
    have em:((e.t*o:Int):Rat)/((e.b*u:Int):Rat)=(o:Rat)/(u:Rat)*((e.t:Rat)/(e.b:Rat)):=by
     rw[Rat.intCast_mul,Rat.intCast_mul]
     grind
    refine .mk (E':=E0++[⟨e.ns,r,e.t*o,e.b*u,e.k+j⟩]) (kD (s2.trans s3) np) (k.trans k3) ?_ ⟨?_,λy hy=>?_, ?_, ?_⟩ (λy hy=>?_) (λn hn'=>?_) (λm=>?_) λh1 h2=>?_
    ·rw[jE,BZ (xR nw),mM]
     rfl
    ·rw[mM,mB];refine⟨db.nd,by simp,λa ha b hb=>?_⟩;have:b=e.ns:=by simpa using hb
     rintro rfl;rw[this]at ha;exact nw ha
    ·rcases mO.mp hy with hy | hy
     ·exact(db.each y hy).kp k3
     ·rw[gY]at hy;subst hy;refine⟨kE.len,kE.nn,kE.deg,by show At2 _ r _ _;rw[At2,jG rp];exact e3,nZ kE.pos pu,Int.mul_ne_zero kE.nz o0, ?_, ?_⟩
      ·show(e.b*u).natAbs<=2^(e.k+j);rw[mQ,Nat.pow_add];exact mS kE.sb su
      ·show(e.t*o).natAbs<=2^(z.v+x)*(e.b*u).natAbs;rw[mQ,mQ];exact EN kE.st so
    ·rw[mM,List.sum_append,sk];have:=db.sum;show _+(e.k+j+0)<=_+e.k+(i+1)*j;rw[Nat.succ_mul];have:(List.map Ent.k E0).sum<=((EE.take i).map Ent.k).sum+i*j:=db.sum;omega
    ·rw[List.length_append];exact Nat.succ_le_succ db.few
    ·rcases mO.mp hy with hy | hy
     ·exact kb y hy
     ·rw[gY]at hy;subst hy;have:=kB e eM;show e.k+j<=BB e.ns+j;omega
    ·rw[hW,he,mM];rw[mM]at hn';rcases mO.mp hn' with hn' | hn'
     ·exact List.mem_append_left _ (ky n hn')
     ·exact gJ _ hn'
    ·rw[wQ he,qE,pl,mM,qE];have:=c m;unfold pl at this;rw[this];show _+((if e.ns=m then((e.t*o:Int):Rat)/((e.b*u:Int):Rat)else 0)+0)=_*(_+((if e.ns=m then(e.t:Rat)/(e.b:Rat)else 0)+0));rw[em];unfold pl;split<;>grind
    ·rw[wQ he,pl,mM,mM];have:=ng h1 h2;unfold pl at this;rw[this];unfold pl
     congr 1
     show [(e.ns,((e.t*o:Int):Rat)/((e.b*u:Int):Rat))]=[(e.ns,-1*((e.t:Rat)/(e.b:Rat)))];rw[em,h1,h2]
     congr 2
     show((-1:Int):Rat)/((1:Int):Rat)*_=_;have e1:((-1:Int):Rat) = -1:=rfl;have e2:((1:Int):Rat)=1:=rfl;rw[e1,e2]
     grind
  ·obtain⟨s2,k,e2,db,kb,ky,c,ng⟩:=h;rw[mG]at db c ng;refine⟨_,rfl,go p _ H2 np s2 e2 (db.up uU uU ?_ few) kb c ng⟩;have:=h1.db.sum;have:=gQ j few;show(EE.map Ent.k).sum+EE.length*j<=z.S+z.n*j;omega
def hb(e:Ent)(F:List Ent)(m:List Int):Nat:=(F.map λf=>if m=kW e.ns f.ns then e.k+f.k else 0).sum
def hA(E F:List Ent)(m:List Int):Nat:=(E.map λe=>hb e F m).sum
theorem EW(e:Ent)(F G:List Ent)(m:List Int):hb e (F++G) m=hb e F m+hb e G m:=by
 unfold hb;rw[mM,List.sum_append]
theorem hA_app(E E' F:List Ent)(m:List Int):hA (E++E') F m=hA E F m+hA E' F m:=by
 unfold hA;rw[mM,List.sum_append]
theorem CL{e:Ent}{m:List Int} :∀{F:List Ent},(∀f∈F,m≠kW e.ns f.ns)->hb e F m=0
 | [],_=>rfl
 | f::F,h=>by
  show(if m=kW e.ns f.ns then e.k+f.k else 0)+hb e F m=0;rw[tJ (h f (gZ ..)),CL λg hg=>h g (gN _ hg)]
theorem zZ:∀{a b c:List Int},b.length=a.length->c.length=a.length->kW a b=kW a c->b=c
 | [],[],[],_,_,_=>rfl
 | x::a,y::b,z::c,h1,h2,h=>by
  have h:(x+y)::kW a b=(x+z)::kW a c:=h;injection h with e1 e2
  rw[zZ (by simpa using h1) (by simpa using h2) e2,show y=z by omega]
theorem uB:∀(a b:List Int),kW a b=kW b a
 | [],[]=>rfl
 | [],_::_=>rfl
 | _::_,[]=>rfl
 | x::a,y::b=>by
  show(x+y)::kW a b=(y+x)::kW b a;rw[uB a b,Int.add_comm]
theorem YB{ad:Nat}{m:List Int} :∀{E F:List Ent},(E.map Ent.ns).Nodup->(F.map Ent.ns).Nodup->(∀e∈E,e.ns.length=ad)->(∀f∈F,f.ns.length=ad)->hA E F m<=(E.map Ent.k).sum+(F.map Ent.k).sum
 | [],F,_,_,_,_=>nY _
 | e::E,F,nE,nF,lE,lF=>by
  have le:=lE e (gZ ..);have lE':∀x∈E,x.ns.length=ad:=λx hx=>lE x (gN _ hx);obtain⟨ne,nE'⟩:=List.nodup_cons.mp nE;show hb e F m+hA E F m<=(e.k+(E.map Ent.k).sum)+_;by_cases h:∃f∈F,m=kW e.ns f.ns
  ·obtain⟨f,hf,em⟩:=h;obtain⟨L,R,rfl⟩:=List.append_of_mem hf;have lf:=lF f hf;have nF':=nF;rw[mM,mW]at nF';obtain⟨nL,nR,nd⟩:=mB.mp nF';obtain⟨nfR,nR⟩:=List.nodup_cons.mp nR;have hL:hb e L m=0:=CL λg hg z=>by
    have:=zZ (by rw[lf,le]) (by rw[lF g (List.mem_append_left _ hg),le]) (em.symm.trans z);exact nd _ (List.mem_map_of_mem hg) _ (gZ ..) this.symm
   have hR:hb e R m=0:=CL λg hg z=>by
    have:=zZ (by rw[lf,le]) (by rw[lF g (gJ _ (gN _ hg)),le]) (em.symm.trans z);exact nfR (this▸List.mem_map_of_mem hg)
   have h1:hb e (L++f::R) m=e.k+f.k:=by
    rw[EW,hL];show 0+((if m=kW e.ns f.ns then e.k+f.k else 0)+hb e R m)=_;rw[tK em,hR];omega
   have h2:hA E (L++f::R) m=hA E (L++R) m:=by
    unfold hA
    congr 1
    refine List.map_congr_left λx hx=>?_;rw[EW,EW];show _+((if m=kW x.ns f.ns then x.k+f.k else 0)+hb x R m)=_;rw[tJ λz=>?_,Nat.zero_add];have:=em.symm.trans z;rw[uB e.ns,uB x.ns]at this;have:=zZ (by rw[lf,le]) (by rw[lf,lE' x hx]) this;exact ne (this▸List.mem_map_of_mem hx)
   have ih:=YB (m:=m) nE' (F:=L++R) (by rw[mM];exact mB.mpr ⟨nL,nR,λa ha b hb=>nd a ha b (gN _ hb)⟩) lE' λg hg=>lF g (by
    rcases mO.mp hg with hg | hg
    ·exact List.mem_append_left _ hg
    ·exact gJ _ (gN _ hg))
   rw[mM,List.sum_append]at ih;rw[h1,h2,mM,List.sum_append,mW,mZ];omega
  ·have h1:hb e F m=0:=CL λf hf z=>h ⟨f,hf,z⟩;have ih:=YB (m:=m) nE' nF lE' lF;omega
theorem QK{E F:List Ent}{i:Nat}{e:Ent}(he:E[i]? = some e)(m:List Int):hA (E.take (i+1)) F m=hA (E.take i) F m+hb e F m:=by
 rw[hW,he,hA_app];show _+(hb e F m+0)=_
 rfl
theorem hb_take{e:Ent}{F:List Ent}{j:Nat}{f:Ent}(hf:F[j]? = some f)(m:List Int):hb e (F.take (j+1)) m=hb e (F.take j) m+if m=kW e.ns f.ns then e.k+f.k else 0:=by
 rw[hW,hf,EW];show _+((if m=kW e.ns f.ns then e.k+f.k else 0)+0)=_
 rfl
theorem hb_part(e:Ent)(F:List Ent)(j:Nat)(m:List Int):hb e (F.take j) m<=hb e F m:=by
 conv=>rhs;rw[<-List.take_append_drop j F,EW]
 exact Nat.le_add_right ..
def spProd:Sp:=λvs H Q _=>∃(d1 d2:Addr) (ad:Nat) (z y:Sz) (E F:List Ent),vs=[.ref d1,.ref d2]/\FQ H d1 ad z E/\FQ H d2 ad y F/\ad<=4/\z.S<=3900/\y.S<=3900/\z.v+y.v+z.n*y.n<=4000/\z.n*y.n<=3000/\
 ∀(p:Addr) (E':List Ent) (H':Hp),H p=none->Same H H'->H' p=some (.dT (E'.map Ent.kv))->DB H' ad ⟨z.D+y.D,z.v+y.v+z.n*y.n,y.n*z.S+z.n*y.S,z.n*y.n⟩ E'->KB (λ_=>z.S+y.S) E'->(∀m,cf (pl E') m=cf (mul (pl E) (pl F)) m)->Q (.ref p) H'
def szA(E F:List Ent)(i:Nat):Nat:=F.length*((E.take i).map Ent.k).sum+i*(F.map Ent.k).sum
def szB(F:List Ent)(e:Ent)(j:Nat):Nat:=j*e.k+((F.take j).map Ent.k).sum
theorem UY{E F:List Ent}{i:Nat}{e:Ent}(he:E[i]? = some e):szA E F (i+1)=szA E F i+szB F e F.length:=by
 unfold szA szB;rw[AE he,mG,Nat.mul_add,Nat.succ_mul];omega
theorem UX{F:List Ent}{j:Nat}{e e2:Ent}(he:F[j]? = some e2):szB F e (j+1)=szB F e j+(e.k+e2.k):=by
 unfold szB;rw[AE he,Nat.succ_mul];omega
theorem szA_le{E F:List Ent}{i n S n' S':Nat}(hi:i<=E.length)(hn:E.length<=n)(hS:(E.map Ent.k).sum<=S)(hn':F.length<=n')(hS':(F.map Ent.k).sum<=S'):szA E F i<=n'*S+n*S':=by
 unfold szA;have h1:=mS hn' (nN (XT E i) hS);have h2:=mS (nN hi hn) hS';omega
inductive PrI(H H1:Hp)(d1 d2 p:Addr)(ad:Nat)(z y:Sz)(E F:List Ent)(i:Nat):L2.St->Hp->Prop where
 | mk {u v x:Option V} {H':Hp} {E':List Ent} (s:Same H H') (k:Kp H1 H') (e:H' p=some (.dT (E'.map Ent.kv))) (db:DB H' ad ⟨z.D+y.D,z.v+y.v+i*F.length,szA E F i,i*F.length⟩ E') (kb:KB (hA (E.take i) F) E') (c:∀m,cf (pl E') m=cf (mul (pl (E.take i)) (pl F)) m):PrI H H1 d1 d2 p ad z y E F i [some (.ref d1),some (.ref d2),some (.ref p),u,v,x] H'
inductive PrJ(H H1:Hp)(d1 d2 p b:Addr)(ad:Nat)(z y:Sz)(E F:List Ent)(i:Nat)(e:Ent)(j:Nat):L2.St->Hp->Prop where
 | mk {v x:Option V} {H':Hp} {E':List Ent} (s:Same H H') (k:Kp H1 H') (eb:H' b=some (.tup (e.ns.map V.int))) (e':H' p=some (.dT (E'.map Ent.kv))) (db:DB H' ad ⟨z.D+y.D,z.v+y.v+(i*F.length+j),szA E F i+szB F e j,i*F.length+j⟩ E') (kb:KB (λm=>hA (E.take i) F m+hb e (F.take j) m) E') (c:∀m,cf (pl E') m=cf (mul (pl (E.take i)) (pl F)) m+cf (row e.pr (pl (F.take j))) m):PrJ H H1 d1 d2 p b ad z y E F i e j [some (.ref d1),some (.ref d2),some (.ref p),some (.ref b),v,x] H'
theorem ent_mul{e e2:Ent} :((e.t*e2.t:Int):Rat)/((e.b*e2.b:Int):Rat)=(e.t:Rat)/(e.b:Rat)*((e2.t:Rat)/(e2.b:Rat)):=by
 rw[Rat.intCast_mul,Rat.intCast_mul]
 grind
theorem scProd:FnScope ["one","other","found","powers","more","both"] ["one","other"] (jK OK):=scK (by decide +kernel)
theorem ok_prod(F:Fun K "_law_product" "_law_product" OK f fd)(T:Txt mg)(GT:DG P w K mg base 2 "_law_put" RT ["found","powers","number"] spPut)(GM:DG P w K mg base 1 "_law_mul" FO ["one","other"] (HW K)):FnOk P w K mg base CX0 3 f fd ["one","other"] spProd:=by
 refine F.ok scProd (λvs H Q E h=>?_) #[3]
 ·obtain⟨d1,d2,ad,z,y,E1,F1,rfl,_⟩:=h
  rfl
 ·obtain⟨d1,d2,ad,z,y,EE,FF,rfl,h1,h2,m4,hS,hS2,hv,hn,go⟩:=h;have hu:_+1<cLine:=gU (Nat.add_le_add_left (by decide:1<=64) _) hr.units;have hr1:Room 1 _:=hr.mono #[1];refine⟨_,jD (jL (i:=2) scProd.nd rfl (Or.inl rfl) zY)
   (jD (kU PassesOwn.never rfl (LwD.wR (pv 0)) (jJ (i:=3) scProd.nd rfl (Or.inl rfl))
    (jF (kU PassesOwn.never rfl (LwD.wR (pv 1)) (jJ (i:=4) scProd.nd rfl (Or.inl rfl))
     (jD (jL (i:=5) scProd.nd rfl (Or.inl rfl) (qF qX (by rfl) T.tup boot_tuple (jA
      (uR (own:=2) (idx:=[]) (N:=["a","b"]) rfl rfl rfl (by decide +kernel) (by decide +kernel) (λ_ _ h=>nomatch h) (yI rfl) rfl (λ_ _ _ h=>nomatch h) (pi_zipT (by rfl) T.zip (jA (pv 3) (jA (pv 4) jC)))
       (λC fp s2 H2=>show PG (jN _ ["a","b"] _ _ C fp s2 H2) _ (FI K 2 (vX (jT 0) (vX (jT 1) gNil)))from qD (X:=jN _ ["a","b"] _ _ C fp s2 H2) rfl (jM (jJ (i:=0) (show List.Nodup (["a","b"]:List Str) by decide +kernel) rfl (Or.inl rfl) (Or.inr rfl)) (jM (jJ (i:=1) (show List.Nodup (["a","b"]:List Str) by decide +kernel) rfl (Or.inl rfl) (Or.inr rfl)) kP)))
       (λC fp s2 H2=>jH kJ (pv 0) (pv 1))) jC)))
     (jF (xY (cal GT hr (jA (pv 2) (jA (pv 5) (jA (cal GM hr1 (jA (vT hu (pv 0) (pv 3) (λ_ _=>rfl)) (jA (vT hu (pv 1) (pv 4) (λ_ _=>rfl)) jC))) jC))))))))))
   (jF (jO (pv 2)))), ?_⟩
  try dsimp only[cxK]
  intro p np;have s1:Same H (upd H p (.dT [])):=jY _ np;generalize hH1:upd H p (.dT [])=H1 at s1;have e1:H1 p=some (.dT (([]:List Ent).map Ent.kv)):=hH1▸jE;obtain⟨o1,f1⟩:=(h1.kp (Kp.of s1)).fr;obtain⟨o2,f2⟩:=(h2.kp (Kp.of s1)).fr;have few:=h1.db.few;have sum:=h1.db.sum;have few2:=h2.db.few;have sum2:=h2.db.sum;have lE:∀e∈EE,e.ns.length=ad:=λe he=>(h1.db.each e he).len;have lF:∀e∈FF,e.ns.length=ad:=λe he=>(h2.db.each e he).len;have ha:∀i m,hA (EE.take i) FF m<=z.S+y.S:=λi m=>by
   have:=YB (m:=m) (E:=EE.take i) (F:=FF) (by rw[nA];exact h1.db.nd.sublist (List.take_sublist ..)) h2.db.nd (λe he=>lE e (gR he)) lF;have:=XT EE i;omega
  refine⟨_,rfl,d1,o1,_,rfl,f1,wS EE,λks hks=>?_⟩;refine wJ hks (PrI H H1 d1 d2 p ad z y EE FF) (.mk s1 (Kp.of (Same.refl _)) e1 ⟨mU,(λe h=>nomatch h),nY _,nY _⟩ (λe h=>nomatch h) λm=>rfl) (λi σ H2 h=>?_) (λi e b σ H2 he eM hbb h=>?_) (fun σ H2 h=>?_)
  ·obtain⟨s2,k,e2,db,kb,c⟩:=h;exact⟨k.frz _ _ _ f1,k⟩
  ·obtain⟨s2,k,e2,db,kb,c⟩:=h;refine⟨_,rfl,d2,o2,_,rfl,k.frz _ _ _ f2,wS FF,λks2 hks2=>?_⟩;have hi:i<EE.length:=(gB.mp he).1;have a1:=UY (F:=FF) he;have kE:=h1.db.each e eM;have ke:=h1.db.k eM;have l30:i*FF.length+FF.length<=z.n*y.n:=by
    rw[<-Nat.succ_mul];exact mS (nN hi few) few2
   refine wJ hks2 (PrJ H H2 d1 d2 p b ad z y EE FF i e) (.mk s2 (Kp.of (Same.refl _)) hbb e2 (by rw[show szB FF e 0=0 by unfold szB;simp];exact db) (kb.up λm=>Nat.le_add_right ..) λm=>by rw[c];show _=_+(0:Rat);grind) (λj σ H3 h=>?_) (λj e3 b3 σ H3 he3 eM3 hb3 h=>?_) (fun σ H3 h=>?_)
   ·obtain⟨s3,k3,eb3,e3,db3,kb3,c3⟩:=h;exact⟨k3.frz _ _ _ (k.frz _ _ _ f2),k3⟩
   ·obtain⟨s3,k3,eb3,e3',db3,kb3,c3⟩:=h;have hj:j<FF.length:=(gB.mp he3).1;have kE3:=h2.db.each e3 eM3;have ke3:=h2.db.k eM3;have b1:=UX (e:=e) he3;dsimp only[jT,vZ,yK];refine dBoth (a:=b) (b:=b3) (as:=e.ns) (bs:=e3.ns) rfl rfl eb3 hb3 (by rw[kE.len,kE3.len]) (by rw[kE3.len];exact m4) λkb' H4 n4 s4 e4=>?_;have K4:=Kp.of s4;have F1:=h1.kp (Kp.of (s3.trans s4));have F2:=h2.kp (Kp.of (s3.trans s4));refine⟨_,rfl,_,rfl,_,rfl,_,rfl,d1,_,rfl,F1.get eM (s4 _ _ eb3),_,rfl,_,rfl,d2,_,rfl,F2.get eM3 (s4 _ _ hb3),e.c,e3.c,e.t,e.b,e3.t,e3.b,rfl,SqT.of (F1.db.each e eM).at',SqT.of (F2.db.each e3 eM3).at',xV kE.st kE.sb #[0],xI kE.sb #[0],xV kE3.st kE3.sb #[0],xI kE3.sb #[0],λr H5 n5 s5 e5=>?_⟩;have s35:=s4.trans s5;refine⟨p,kb',r,kW e.ns e3.ns,_,_,ad,e.k+e3.k,_,_,_,rfl,s35 _ _ e3',db3.kp (Kp.of s35),kb3, ?_, ?_, ?_, ?_,s5 _ _ e4, ?_,uT kE.nn kE3.nn, ?_,e5,nZ kE.pos kE3.pos, ?_, ?_,λE' H6 b6 e6 db6 kb6 c6=>?_⟩
    ·have x1:=ha (i+1) (kW e.ns e3.ns);rw[QK he]at x1;have x2:=hb_part e FF j (kW e.ns e3.ns);show hA (EE.take i) FF _+hb e (FF.take j) _<=40000;omega
    ·omega
    ·show z.v+y.v+(i*FF.length+j)<=4000;omega
    ·show i*FF.length+j<=3000;omega
    ·unfold kW;rw[List.length_zipWith,kE.len,kE3.len];omega
    ·rw[vU (by rw[kE.len,kE3.len])];show _<=((z.D+y.D:Nat):Int);have:=kE.deg;have:=kE3.deg;omega
    ·rw[mQ,Nat.pow_add];exact mS kE.sb kE3.sb
    ·rw[mQ,mQ];show _<=2^(z.v+y.v+(i*FF.length+j))*_;exact nN (EN kE.st kE3.st) (gQ _ (gO #[1] #[0]))
    ·refine .mk (JS (s3.trans s35) b6 np) ((k3.trans (Kp.of s35)).trans (Kp.but b6 (s35 _ _ e3') trivial)) ((Kp.but b6 (s35 _ _ e3') trivial).tup _ _ (s35 _ _ eb3)) e6 ?_ (kb6.up λm=>by rw[hb_take he3];exact Nat.le_of_eq (Nat.add_assoc ..)) λm=>?_
     ·exact db6.up uU uU (by show szA EE FF i+szB FF e j+(e.k+e3.k)<=szA EE FF i+szB FF e (j+1);omega) uU 
     ·rw[c6,c3,wQ he3,ent_mul];show _=_+cf (row e.pr (pl (FF.take j)++[e3.pr])) m;unfold row;rw[mM,qE];show _=_+(_+((if kW e.ns e3.ns=m then(e.t:Rat)/(e.b:Rat)*((e3.t:Rat)/(e3.b:Rat))else 0)+0))
      grind
   ·obtain⟨s3,k3,eb3,e3,db3,kb3,c3⟩:=h;rw[mG]at kb3;refine .mk s3 (k.trans k3) e3 (db3.up uU ?_ ?_ ?_) (kb3.up λm=>by rw[QK he];exact nX _) λm=>?_
    ·show z.v+y.v+(i*FF.length+FF.length)<=z.v+y.v+(i+1)*FF.length;rw[Nat.succ_mul i];exact nX _
    ·show szA EE FF i+szB FF e FF.length<=szA EE FF (i+1);omega
    ·show i*FF.length+FF.length<=(i+1)*FF.length;rw[Nat.succ_mul];exact nX _
    ·rw[c3,mG,wQ he,IP,qE];show _=_+cf (row e.pr (pl FF)++[]) m;rw[List.append_nil]
  ·obtain⟨s2,k,e2,db,kb,c⟩:=h;have hh:=ha EE.length;rw[mG]at c kb hh;have ll:EE.length*FF.length<=z.n*y.n:=mS few few2;exact⟨_,rfl,go p _ H2 np s2 e2 (db.up uU (by show z.v+y.v+EE.length*FF.length<=z.v+y.v+z.n*y.n;omega) (szA_le uU few sum few2 sum2) ll) (kb.up hh) c⟩
theorem SD{α β:Type}{f:α->β}{zs l:List β}(p:zs.Perm l):∀E:List α,l=E.map f->∃E':List α,E'.Perm E/\zs=E'.map f:=by
 induction p with
 | nil=>
  intro E h;have:E=[]:=by simpa using h.symm
  exact⟨[],by rw[this],rfl⟩
 | @cons x l1 l2 _ ih=>
  intro E h
  match E,h with
  | e::E2,h=>
   rw[mW]at h;injection h with h1 h2
   obtain⟨E',p',rfl⟩:=ih E2 h2;exact⟨e::E',p'.cons e,by rw[mW,h1]⟩
 | @swap x y l=>
  intro E h
  match E,h with
  | e1::e2::E2,h=>
   rw[mW,mW]at h;injection h with h1 h2
   injection h2 with h2 h3
   exact⟨e2::e1::E2,List.Perm.swap ..,by rw[mW,mW,h1,h2,h3]⟩
 | @trans l1 l2 l3 _ _ ih1 ih2=>
  intro E h;obtain⟨E2,p2,e2⟩:=ih2 E h;obtain⟨E1,p1,e1⟩:=ih1 E2 e2;exact⟨E1,p1.trans p2,e1⟩
theorem uP(x:Int):∀(n:Nat) {xs:List Int},xs.length=n->pk (x::xs)=x*256^n+pk xs
 | 0,xs,h=>by rw[List.length_eq_zero_iff.mp h];show 0*256+x=x*1+0;omega
 | n+1,xs,h=>by
  obtain⟨m,y,rfl,hm⟩:=xX h;rw[<-List.cons_append,yA,yA,uP x n hm,Int.pow_succ,Int.add_mul]
  grind
theorem XJ:∀{a b:List Int},LwD.kY a b=true->a.length=b.length->Byt a->Byt b->pk a<pk b
 | [],[],h,_,_,_=>by simp [LwD.kY]at h
 | [],_::_,_,h,_,_=>by simp at h
 | _::_,[],_,h,_,_=>by simp at h
 | x::a,y::b,h,hl,ha,hb=>by
  have hl:a.length=b.length:=by simpa using hl
  have ba:Byt a:=λn hn=>ha n (gN _ hn);have bb:Byt b:=λn hn=>hb n (gN _ hn);rw[uP x _ hl,uP y _ rfl];unfold LwD.kY at h;split at h
  ·rename_i e;have:=XJ h hl ba bb;rw[e];omega
  ·have lt:x<y:=hX h;have p1:=VU _ hl ba;have p2:=VT bb;have:=Int.mul_le_mul_of_nonneg_right (show x+1<=y by omega) (show(0:Int)<=256^b.length from Int.le_of_lt (Int.pow_pos #[1]));rw[Int.add_mul]at this;omega
def pbE:List Ent->Int
 | []=>1
 | e::E=>e.b*pbE E
theorem OU:∀{E:List Ent},(∀e∈E,0<e.b)->0<pbE E
 | [],_=>by decide
 | e::E,h=>nZ (h e (gZ ..)) (OU λx hx=>h x (gN _ hx))
theorem WD:∀{E:List Ent},(∀e∈E,e.b.natAbs<=2^e.k)->(pbE E).natAbs<=2^(E.map Ent.k).sum
 | [],_=>nX _
 | e::E,h=>by
  rw[mW,mZ,Nat.pow_add];show(e.b*pbE E).natAbs<=_;rw[mQ];exact mS (h e (gZ ..)) (WD λx hx=>h x (gN _ hx))
theorem OV:∀{E:List Ent} {e:Ent},e∈E->∃r,pbE E=e.b*r
 | x::E,e,h=>by
  rcases mX.mp h with rfl | h
  ·exact⟨pbE E,rfl⟩
  ·obtain⟨r,hr⟩:=OV h;exact⟨x.b*r,by show x.b*pbE E=_;rw[hr];grind⟩
theorem rdS{H H2:Hp}{d:Addr}{o:HO}(h:Rd H d o)(s:Same H H2):Rd H2 d o:=h.elim (λe=>.inl (s _ _ e)) λ⟨x,e⟩=>.inr ⟨x,s _ _ e⟩
def AS(K:tL):Sp:=λvs H Q _=>∃(d:Addr) (ad:Nat) (z:Sz) (E:List Ent),vs=[.int ad,.ref d]/\Rd H d (.dT (E.map Ent.kv))/\DB H ad z E/\1<=ad/\ad<=4/\E.length<=500/\KB (λ_=>7900) E/\z.D<=16/\
 ∀(p:Addr) (E0:List Ent) (H':Hp),H p=none->Same H H'->E0.Perm E->SumQ K H' p ad (pl E0)->PlOk ad (pl E0)->Q (.ref p) H'
inductive LsE(K:tL)(H H2:Hp)(d l sl:Addr)(ad:Nat)(ys:List V)(E0:List Ent)(i:Nat):L2.St->Hp->Prop where
 | mk {u v:Option V} {H':Hp} {xs:List V} (s:Same H H') (k:Kp H2 H') (es:H' sl=some (.lst ys)) (e:H' l=some (.lst xs)) (h:Paired (TmQ K H') xs (pl (E0.take i))):LsE K H H2 d l sl ad ys E0 i [some (.int ad),some (.ref d),some (.ref l),u,v] H'
theorem scLSum:FnScope ["many","one","terms","powers","number"] ["many","one"] (jK FN):=scK (by decide +kernel)
theorem ok_lsum(F:Fun K "_law_sum" "_law_sum" FN f fd)(T:Txt mg)(GL:DG P w K mg base 1 "_law_low" RV ["top","bottom"] spLow):FnOk P w K mg base CX0 2 f fd ["many","one"] (AS K):=by
 refine F.ok scLSum (λvs H Q E h=>?_) #[3]
 ·obtain⟨d,ad,z,E',rfl,_⟩:=h
  rfl
 ·obtain⟨d,ad,z,EE,rfl,hR,hD,m1,m4,few,kB,D16,go⟩:=h;have hu:_+1<cLine:=gU (Nat.add_le_add_left (by decide:1<=64) _) hr.units;refine⟨_,jD (jL (i:=2) scLSum.nd rfl (Or.inl rfl) (vL jC)) (jD (kU PassesOwn.never rfl (uQ (kR (LwD.LO rfl) (by rfl) T.sorted boot_sorted (jA (pv 1) jC))) (jJ (i:=3) scLSum.nd rfl (Or.inl rfl)) (jF (kT (jS OW (jR jU (vT hu (pv 1) (pv 3) (λ_ _=>rfl)) jB (λ_ _=>rfl)) jB (jZ _)) (jD (jL (i:=4) scLSum.nd rfl (Or.inl rfl) (cal GL hr (jA (jR jU (vT hu (pv 1) (pv 3) (λ_ _=>rfl)) jB (λ_ _=>rfl)) (jA (jR jU (vT hu (pv 1) (pv 3) (λ_ _=>rfl)) jB (λ_ _=>rfl)) jC)))) (jF (xY (WB PySem.F.plainAttrs_list PySem.F.slot_list_append PySem.F.type_list_append yS (pv 2) (jA (jW (jA (pv 3) (jA (pv 4) jC))) jC))))) jV))) (jF (jO (jW (jA (pv 0) (jA (qF qX (by rfl) T.tup boot_tuple (jA (pv 2) jC)) jC)))))), ?_⟩;try dsimp only[cxK]
  refine⟨uV,λl H1 n1 s1 e1=>?_⟩;refine⟨_,rfl,d,_,rfl,rdS hR s1,λp hp=>?_,λys zs pz ky pw sl H2 n2 s2 e2=>⟨sl,rfl,⟨ys,SqL.of e2⟩, ?_⟩⟩
  ·obtain⟨e,he,rfl⟩:=nP.mp hp;exact⟨e.ns,rfl,λz=>by have:=(hD.each e he).len;rw[z]at this;simp at this;omega⟩
  obtain⟨E0,pE,rfl⟩:=SD pz EE rfl;have s12:Same H H2:=s1.trans s2;have ls:sl≠l:=λz=>by rw[z,e1]at n2;cases n2
  have yl:ys.length=E0.length:=by rw[ky.1,mL]
  have l63:E0.length<=500:=by rw[pE.length_eq];exact few
  refine LF (K:=K) (a:=sl) (xs:=ys) (LsE K H H2 d l sl ad ys E0) (.mk s12 (Kp.of (Same.refl _)) e2 (s2 _ _ e1) .nil) (λi σ H3 _ h=>?_) (λi y σ H3 hyi h=>?_) (fun σ H3 h=>?_)
  ·obtain⟨_,_,es,_,_⟩:=h;exact SqL.of es
  ·obtain⟨s3,k3,es,el,hx⟩:=h;have hiy:i<ys.length:=(gB.mp hyi).1;have hie:i<E0.length:=by omega
   obtain⟨e,he⟩:∃e,E0[i]? = some e:=⟨E0[i],by simp [hie]⟩;obtain⟨b,ns,rfl,hb1,hk⟩:=ky.2 i y e.kv hyi (by rw[hU,he];rfl);have ens:e.ns=ns:=EV hk;subst ens;have eE:e∈EE:=pE.mem_iff.mp (gM he);have hE:=(hD.kp (Kp.of s3)).each e eE;have hb3:H3 b=some (.tup (e.ns.map V.int)):=k3.tup _ _ (s2 _ _ hb1);have g3:=VN (rdS hR s3) hD.nd eE hb3;have c3:=SqT.of (K:=K) hE.at';have ke:e.k<=7900:=kB e eE;refine⟨_,rfl,_,rfl,d,_,rfl,g3,e.c,_,_,_,rfl,rfl,c3,rfl,rfl,_,rfl, ?_⟩;refine AF (by rw[Bool.not_eq_true',mN];intro z;injection z with z;exact hE.nz z) ?_;refine⟨_,rfl,_,rfl,d,_,rfl,g3,e.c,_,_,_,rfl,rfl,c3,rfl,_,rfl,_,rfl,d,_,rfl,g3,e.c,_,_,_,rfl,rfl,c3,rfl,e.t,e.b,rfl, ?_,.inl (xI hE.sb #[0]),λr H4 n4 s4 e4=>?_⟩
   ·have:=hE.pos;omega
   refine⟨_,rfl,.inl ⟨rfl,_,SqL.of (s4 _ _ el)⟩,_,rfl,_,rfl,uX,λq H5 n5 s5 e5=>?_⟩;have s45:=s4.trans s5;have el5:=s45 _ _ el;have lx:=Paired.length hx;unfold pl at lx;rw[mL,mD]at lx;refine⟨l,_,_,rfl,rfl,el5,gU (show _<=500 by omega) #[1], ?_⟩;have ku:∀o:HO,Kp H5 (upd H5 l o):=λo=>Kp.upd el5 trivial;refine .mk (kD (s3.trans s45) n1) ((k3.trans (Kp.of s45)).trans (ku _)) ?_ jE ?_
   ·rw[jG ls];exact s45 _ _ es
   ·unfold pl;rw[hW,he,mM];refine Paired.app (Paired.to (λ_ _ h=>TmQ.updL el5 (h.same s45)) hx) (.cons (TmQ.updL el5 ⟨q,b,r,rfl,e5,s45 _ _ hb3,NumH.of (FC (s5 _ _ e4) hE.pos rfl)⟩) .nil)
  ·obtain⟨s3,k3,es,el,hx⟩:=h;rename_i xs3;rw[yl,mG]at hx;refine⟨_,rfl,_,rfl,l,_,rfl,.inl ⟨SqL.of el,λq nq=>⟨uX,λp H5 n5 s5 e5=>?_⟩⟩⟩;have s4:Same H3 (upd H3 q (.tup xs3)):=jY _ nq;have mE:∀{e:Ent},e∈E0->EntOk H ad z.D z.v e:=λhe=>hD.each _ (pE.mem_iff.mp he);have pwE:E0.Pairwise (λe e2=>LwD.kY e.ns e2.ns=true):=by
    refine(List.pairwise_map.mp pw).imp fun {a b} h=>?_;have h':LwD.kY (LwD.xS (LwD.ik a.ns)) (LwD.xS (LwD.ik b.ns))=true:=h
    rwa [LwD.ET,LwD.ET]at h'
   have byE:∀{e:Ent},e∈E0->Byt e.ns:=λhe=>wN (mE he).nn (by have:=(mE he).deg;omega);have pm:∀{x:List Int×Rat},x∈pl E0->∃e∈E0,x=e.pr:=λhx=>by obtain⟨e,he,rfl⟩:=nP.mp hx;exact⟨e,he,rfl⟩
   refine go p E0 H5 ((s3.trans s4).free n5) (s3.trans (s4.trans s5)) pE ⟨q,_,e5,s5 _ _ jE,Paired.to (λ_ _ h=>h.same (s4.trans s5)) hx⟩ ⟨λx hx=>?_,λx hx=>?_,λx hx=>?_, ?_,λx hx=>?_, ?_,m1,m4⟩
   ·obtain⟨e,he,rfl⟩:=pm hx;exact(mE he).len
   ·obtain⟨e,he,rfl⟩:=pm hx;exact(mE he).nn
   ·obtain⟨e,he,rfl⟩:=pm hx;have:=(mE he).deg;show e.ns.sum<=16;omega
   ·unfold pl;rw[nT,List.pairwise_map];refine List.Pairwise.imp_of_mem (fun {a b} ha hb h=>?_) pwE;exact XJ h ((mE ha).len.trans (mE hb).len.symm) (byE ha) (byE hb)
   ·obtain⟨e,he,rfl⟩:=pm hx;intro y;have k:=mE he;have h1:=cne k.pos;have:(e.t:Rat)=0:=by
     have y:(e.t:Rat)/(e.b:Rat)=0:=y;have:=congrArg (· * (e.b:Rat)) y;simp only[Rat.zero_mul]at this;rw[<-this,Rat.div_def,Rat.mul_assoc,Rat.inv_mul_cancel _ h1,Rat.mul_one]
    exact k.nz (Rat.intCast_inj.mp (by rw[this];rfl))
   ·unfold pl;rw[mL,pE.length_eq];exact few
end LwK
namespace Lw
open PySem PySem.Spec PyProof.Rows L2
theorem Tape.ne{cl:Addr}{H:Hp}{tp:Addr}{B:Int}(T:Tape cl H tp B){d:Addr}{o:HO}(e:H d=some o)(ho:∀xs,o≠.lst xs):d≠tp/\d≠cl:=by
 obtain⟨ns,spot,rest,left,h1,h2,_⟩:=T;refine⟨λz=>?_,λz=>?_⟩
 ·rw[z,h1]at e;cases e;exact ho _ rfl
 ·rw[z,h2]at e;cases e;exact ho _ rfl
theorem Tape.off{cl:Addr}{H:Hp}{tp:Addr}{B:Int}(T:Tape cl H tp B){d:Addr}(e:H d=none):d≠tp/\d≠cl:=by
 obtain⟨ns,spot,rest,left,h1,h2,_⟩:=T;refine⟨λz=>?_,λz=>?_⟩
 ·rw[z,h1]at e;cases e
 ·rw[z,h2]at e;cases e
theorem Tape.upd{cl:Addr}{H:Hp}{tp:Addr}{B B':Int}(T:Tape cl H tp B){l:Addr}(o:HO)(h1:l≠tp)(h2:l≠cl)(hB:B<=B'):Tape cl (upd H l o) tp B':=by
 obtain⟨ns,spot,rest,left,e1,e2,e3,e4,e5⟩:=T;exact⟨ns,spot,rest,left,by rw[jG (Ne.symm h1)];exact e1,by rw[jG (Ne.symm h2)];exact e2,e3,e4,by omega⟩
theorem JD{p l:Addr}{H H':Hp}{o:HO}(b:But p H H')(n:H l=none):But p H (upd H' l o):=λc u h hc=>by
 rw[jG (jQ h n)];exact b c u h hc
theorem Tape.aside{cl:Addr}{H H':Hp}{tp d:Addr}{B:Int}(T:Tape cl H tp B)(b:But d H H')(h1:d≠tp)(h2:d≠cl):Tape cl H' tp B:=by
 obtain⟨ns,spot,rest,left,e1,e2,e3⟩:=T;exact⟨ns,spot,rest,left,b _ _ e1 (Ne.symm h1),b _ _ e2 (Ne.symm h2),e3⟩
theorem at_mem{ns:List Int}{i:Int}(h0:0<=i)(h1:i<ns.length):∃c:Int,atI (ns.map V.int) i=some (.int c)/\c∈ns:=by
 obtain⟨j,rfl⟩:=gF h0;have hj:j<ns.length:=by omega
 exact⟨ns[j],AN (by simp [hj]),List.getElem_mem hj⟩
theorem at_get{ns:List Int}{i:Int}(h0:0<=i)(h1:i<ns.length):∃c:Int,atI (ns.map V.int) i=some (.int c)/\ns[i.toNat]? = some c:=by
 obtain⟨j,rfl⟩:=gF h0;have hj:j<ns.length:=by omega
 exact⟨ns[j],AN (by simp [hj]),by simp [hj]⟩
theorem OB:∀{ns:List Int} {j:Nat} {c:Int},ns[j]? = some c->(ns.set j (c+1)).sum=ns.sum+1
 | [],j,c,h=>by simp at h
 | n::r,0,c,h=>by
  simp only[List.getElem?_cons_zero,Option.some.injEq]at h;rw[List.set_cons_zero,mZ,mZ,h];omega
 | n::r,j+1,c,h=>by
  have ih:=OB (ns:=r) (j:=j) (c:=c) (by simpa using h);rw[List.set_cons_succ,mZ,mZ,ih];omega
end Lw
namespace LwK
open PySem PySem.Spec PyProof.Rows L2 LwQ LwV Lw
abbrev zD:Sz:=⟨16,107,679,7⟩
def spFound:Sp:=λvs H Q _=>∃(tp:Addr) (ad:Nat) (B:Int),vs=[.ref tp,.int ad]/\1<=ad/\ad<=4/\∃cl,Tape cl H tp B/\B<2^30/\
 ∀(d:Addr) (E:List Ent) (H':Hp),H d=none->But tp H H'->Tape cl H' tp (B+200)->H' d=some (.dT (E.map Ent.kv))->DB H' ad zD E->Q (.ref d) H'
inductive DrI(H:Hp)(cl tp d:Addr)(ad:Nat)(B:Int)(i:Nat):L2.St->Hp->Prop where
 | mk {u v x y:Option V} {H':Hp} {E:List Ent} (b:But tp H H') (T:Tape cl H' tp (B+1+25*i)) (e:H' d=some (.dT (E.map Ent.kv))) (db:DB H' ad ⟨16,100+i,97*i,i⟩ E):DrI H cl tp d ad B i [some (.ref tp),some (.int ad),some (.ref d),u,v,x,y] H'
inductive DrJ(H:Hp)(cl tp d l:Addr)(ad i:Nat)(B:Int)(E:List Ent)(j:Nat):L2.St->Hp->Prop where
 | mk {x y:Option V} {H':Hp} {ns:List Int} (b:But tp H H') (T:Tape cl H' tp (B+1+25*i+2+j)) (e:H' d=some (.dT (E.map Ent.kv))) (db:DB H' ad ⟨16,100+i,97*i,i⟩ E) (el:H' l=some (.lst (ns.map V.int))) (ln:ns.length=ad) (nn:∀n∈ns,0<=n) (sm:ns.sum=j) :
  DrJ H cl tp d l ad i B E j [some (.ref tp),some (.int ad),some (.ref d),some (.int (0+(i:Int))),some (.ref l),x,y] H'
variable{P:Program}{w:World}{K:tL}{mg:Str->Option Value}{base:Heap}{f fd:_}
theorem scDrawn:FnScope ["tape","many","found","k","powers","turn","letter"] ["tape","many"] (jK IE):=scK (by decide +kernel)
theorem ok_found(F:Fun K "_law_drawn" "_law_drawn" IE f fd)(T:Txt mg)(GD:DG P w K mg base 1 "_law_draw" BC ["tape","many"] spDraw)(GP:DG P w K mg base 2 "_law_put" RT ["found","powers","number"] spPut)
 (GF:DG P w K mg base 3 "_law_fraction" yP ["tape"] (uL 7 (2^37))):FnOk P w K mg base CX0 4 f fd ["tape","many"] spFound:=by
 refine F.ok scDrawn (λvs H Q E h=>?_) #[3]
 ·obtain⟨tp,ad,B,rfl,_⟩:=h
  rfl
 ·obtain⟨tp,ad,B,rfl,m1,m4,cl,hT,hB,go⟩:=h;have hr1:Room 1 _:=hr.mono #[1];have hr2:Room 2 _:=hr.mono #[1];refine⟨_,jD (jL (i:=2) scDrawn.nd rfl (Or.inl rfl) (zY)) (jD (kU PassesOwn.never rfl (qV (by rfl) T.rng (jA (cal GD hr1 (jA (pv 0) (jA jB jC))) jC)) (jJ (i:=3) scDrawn.nd rfl (Or.inl rfl)) (jD (jL (i:=4) scDrawn.nd rfl (Or.inl rfl) (jH op_rep (vL (jA jB jC)) (pv 1))) (jD (kU PassesOwn.never rfl (qV (by rfl) T.rng (jA (cal GD hr1 (jA (pv 0) (jA (jR kZ (vL (jA jB (jA jB (jA jB (jA jB jC))))) (cal GD hr1 (jA (pv 0) (jA jB jC))) (λ_ _=>rfl)) jC))) jC)) (jJ (i:=5) scDrawn.nd rfl (Or.inl rfl)) (jD (jL (i:=6) scDrawn.nd rfl (Or.inl rfl) (cal GD hr1 (jA (pv 0) (jA (pv 1) jC)))) (jF (vQ (jH kJ (jR kZ (pv 4) (pv 6) (λ_ _=>rfl)) jB) (zX (pv 4) (pv 6) xE))))) (jF (xY (cal GP hr2 (jA (pv 2) (jA (qF qX (by rfl) T.tup boot_tuple (jA (pv 4) jC)) (jA (cal GF hr (jA (pv 0) jC)) jC))))))))) (jF (jO (pv 2)))), ?_⟩;try dsimp only[cxK]
  intro d nd;have od:=hT.off nd;have T0:Tape cl (upd H d (.dT [])) tp B:=hT.upd _ od.1 od.2 (tD _);refine⟨_,rfl,tp,8,B,rfl,cl,T0,by omega,by decide,by decide,λc H1 c0 c1 T1 b1=>⟨_,rfl,by omega,by omega, ?_⟩⟩;have B1:But tp H H1:=(JD (But.refl tp H) nd).trans b1;have p37:(2:Int)^30+300<2^37:=by decide
  have cn:c.toNat<=7:=by omega
  refine qW (DrI H cl tp d ad B) (.mk (E:=[]) B1 (T1.mono (Same.refl _) #[0]) (b1 _ _ jE od.1) ⟨mU,(λe h=>nomatch h),nX _,nX _⟩) (λi σ H2 hi h=>?_) (fun σ H2 h=>?_)
  ·obtain⟨b2,T2,e2,db⟩:=h;rename_i E2;have hi4:i<7:=by omega
   refine⟨uW,λz0 H3 n3 s3 e3=>⟨_,rfl,z0,ad,[.int 0],rfl,rfl,e3,by omega,by omega, ?_,λl nl=>?_⟩⟩
   ·show 1*(ad:Int).toNat<=sizeLine;exact nN (show 1*(ad:Int).toNat<=4 by omega) #[1]
   have T3:=T2.mono s3 (tD _);have B3:But tp H H3:=b2.trans (But.of s3);have lo:=T3.off nl;have hnl:H l=none:=yB B3 nl lo.1;have hl0:(List.replicate (ad:Int).toNat [V.int 0]).flatten=(List.replicate ad (0:Int)).map V.int:=by simp
   rw[hl0];have s4:Same H3 (upd H3 l (.lst ((List.replicate ad (0:Int)).map V.int))):=jY _ nl;have e4:(upd H3 l (.lst ((List.replicate ad (0:Int)).map V.int))) l=some (.lst ((List.replicate ad (0:Int)).map V.int)):=jE;generalize upd H3 l (.lst ((List.replicate ad (0:Int)).map V.int))=H4 at s4 e4;have s24:=s3.trans s4;have T4:=T3.mono s4 (tD _);refine⟨_,rfl,(by show 4<=sizeLine;decide),λz1 H5 n5 s5 e5=>⟨_,rfl,tp,4,_,rfl,cl,T4.mono s5 (tD _),by omega,by decide,by decide,λr H6 r0 r1 T6 b6=>?_⟩⟩;obtain⟨w',hw,hwm⟩:=at_mem (ns:=[3,4,6,17]) r0 r1;have hw':3<=w'/\w'<=17:=by
    simp only[mX,mF,or_false]at hwm;omega
   have p100:(17:Int)<2^100:=by decide
   refine⟨z1,_,r,_,rfl,rfl,SqL.of (b6 _ _ e5 (T4.off n5).1),hw,tp,w',_,rfl,cl,T6,by omega,by omega,by omega,λn H7 n0 n1 T7 b7=>⟨n,rfl,by omega,by omega, ?_⟩⟩;have b47:But tp H4 H7:=(But.of s5).trans (b6.trans b7);have dn:=T4.ne (s24 _ _ e2) (λ_ z=>by cases z);refine qW (DrJ H cl tp d l ad i B E2) (.mk (B3.trans ((But.of s4).trans b47)) (T7.mono (Same.refl _) #[0]) (b47 _ _ (s24 _ _ e2) dn.1) (db.kp ((Kp.of s24).trans (Kp.butT b47 T4))) (b47 _ _ e4 lo.1) (by simp) (λn hn=>by rw[(List.mem_replicate.mp hn).2];exact tD _) (by simp)) (λj σ H6 hj h=>?_) (fun σ H6 h=>?_)
   ·obtain⟨b6,T6,e6,db6,el,ln,hns,hsm⟩:=h;rename_i ns;refine⟨_,rfl,_,rfl,tp,ad,_,rfl,cl,T6,by omega,by omega,by omega,λr' H9 r0' r1' T9 b9=>?_⟩;have e9:=b9 _ _ el lo.1;obtain⟨c',hc',hcm⟩:=at_get (ns:=ns) r0' (by rw[ln];exact r1');have dn6:=T6.ne e6 (λ_ z=>by cases z);have ld:d≠l:=λz=>by rw[z,el]at e6;cases e6
    refine⟨_,rfl,_,rfl,l,_,r',_,rfl,rfl,SqL.of e9,hc',_,_,rfl,rfl,_,rfl,_,rfl,l,_,r',r'.toNat,rfl,rfl,e9, ?_, ?_⟩
    ·unfold ixN;rw[tK r0',tK (by rw[mL,ln];exact r1')]
    ·refine .mk (ns:=ns.set r'.toNat (c'+1)) (JD (b6.trans b9) hnl) (T9.upd _ lo.1 lo.2 #[0]) (by rw[jG ld];exact b9 _ _ e6 dn6.1) (db6.kp ((Kp.butT b9 T6).trans (Kp.upd e9 trivial))) (by rw[jE,List.map_set]) (by rw[List.length_set];exact ln) (λn hn=>?_) ?_
     ·rcases List.mem_or_eq_of_mem_set hn with hn | rfl
      ·exact hns n hn
      ·have:=hns c' (gM hcm);omega
     ·rw[OB hcm,hsm];omega
   ·obtain⟨b6,T6,e6,db6,el,ln,hns,hsm⟩:=h;rename_i ns;refine⟨_,rfl,_,rfl,l,_,rfl,.inl ⟨SqL.of el,λb nb=>?_⟩⟩;have sb:Same H6 (upd H6 b (.tup (ns.map V.int))):=jY _ nb;have eb:(upd H6 b (.tup (ns.map V.int))) b=some (.tup (ns.map V.int)):=jE;generalize upd H6 b (.tup (ns.map V.int))=H7 at sb eb;have T7:=T6.mono sb (tD _);have bo:=T6.off nb;have dn7:=T7.ne (sb _ _ e6) (λ_ z=>by cases z);refine⟨_,rfl,tp,_,rfl,cl,T7,by omega,λr t b' H8 fr e8 rne T8 b8 nw=>?_⟩;have k8:=(Kp.of sb).trans (Kp.butT b8 T7);have d8:=b8 _ _ (sb _ _ e6) dn7.1;have nn:(n.toNat:Int)<=16:=by omega
    have pb:(1:Nat)<=b'.natAbs:=by have:=fr.pos;omega
    have db8:=db6.kp k8;refine⟨d,b,r,ns,t,b',ad,97,_,_,λ_=>97*i,rfl,d8,db8,db8.kb,by show 97*i<=40000;omega,by omega,by show 100+i<=4000;omega,by show i<=3000;omega,b8 _ _ eb bo.1,ln,hns,by show ns.sum<=((16:Nat):Int);omega,e8,fr.pos,nU fr.sb, ?_,λE' H9 b9 e9 db9 _ _=>?_⟩
    ·refine nN (nU fr.st) (nN (gO #[1] (show 100<=100+i by omega)) ?_);exact Nat.le_mul_of_pos_right _ #[0]
    ·have dn8:=T8.ne d8 (λ_ z=>by cases z);refine .mk (λc o hc hn=>?_) ((T8.aside b9 dn8.1 dn8.2).mono (Same.refl _) #[0]) e9 db9;exact b9 _ _ (b8 _ _ (sb _ _ (b6 _ _ hc hn)) hn) (λz=>by rw[z,nd]at hc;cases hc)
  ·obtain⟨b2,T2,e2,db⟩:=h;exact⟨_,rfl,go d _ H2 nd b2 (T2.mono (Same.refl _) #[0]) e2 (db.up uU (by show 100+c.toNat<=107;omega) (by show 97*c.toNat<=679;omega) cn)⟩
theorem TU{d:Addr}{o:Obj}{E:List Ent}{ys:List V}{H0:Hp}(ks:LwD.Keyed H0 ys (E.map Ent.kv)){σ0:L2.St}{g:TG}{te:TE}{Q:VK}{p:Addr}{H':Hp}(Pv:Nat->List V->Hp->Prop)(hz:E.length<sizeLine)(h0:Pv 0 [] H')
  (hl:∀i zs H2,Pv i zs H2->H2 d=some (.frz o (.dT (E.map Ent.kv)))/\Kp H0 H2/\H2 p=some (.lst zs))
  (hs:∀i m zs e b H2,E[i]? = some e->e∈E->m=ys.length-i->zs.length=i->Pv i zs H2->H2 b=some (.tup (e.ns.map V.int))->ys[i]? = some (.ref b)->g (.ref b) σ0 H2 fun σ4 H4=>Keep σ0 σ4/\te σ4 H4 λy H5=>H5 p=some (.lst zs)/\∃m',m'<m/\CompW ys Pv (i+1) m' (zs++[y]) (upd H5 p (.lst (zs++[y]))))
  (hd:∀zs H2,zs.length=E.length->Pv E.length zs H2->Q (.ref p) H2):CompGoF σ0 (LwD.Itk d o (E.map Ent.kv) ys) g te Q p H':=by
 have lk:ys.length=E.length:=by rw[ks.1,mL]
 refine⟨CompW ys Pv,⟨_,rfl,nY _,rfl,h0⟩, ?_⟩;rintro i m zs H2 ⟨hm,hi,hy,hp⟩;obtain⟨q1,q2,e⟩:=hl i zs H2 hp;refine⟨e,by omega, ?_⟩;by_cases hlt:i<ys.length
 ·refine .inr ⟨⟨q1,hlt⟩, ?_⟩;rintro x _ ⟨rfl,hx⟩;have hiE:i<E.length:=by omega
  obtain⟨e',he⟩:∃e,E[i]? = some e:=⟨E[i],by simp [hiE]⟩;obtain⟨b,ns',rfl,hb,hns⟩:=ks.2 i x e'.kv hx (by rw[hU,he];rfl);have ens:e'.ns=ns':=EV hns;subst ens;exact hs i m zs e' b _ he (gM he) hm hy hp (q2.tup _ _ hb) hx
 ·obtain rfl:i=ys.length:=by omega
  refine .inl ⟨⟨q1,rfl⟩, ?_⟩;rw[lk]at hp hy;exact hd zs H2 hy hp
def tgE(E:List Ent):Bool:=decide (500<E.length)||E.any λe=>decide (16<e.ns.sum)
theorem max_any{E:List Ent}{m:Int}(h1:m∈0::E.map (λe=>e.ns.sum))(h2:∀x∈0::E.map (λe=>e.ns.sum),x<=m):decide ((16:Int)<m)=E.any λe=>decide (16<e.ns.sum):=by
 by_cases h:(16:Int)<m
 ·rw[mP h];rcases mX.mp h1 with rfl | h1
  ·omega
  ·obtain⟨e,he,rfl⟩:=nP.mp h1;exact(List.any_eq_true.mpr ⟨e,he,mP h⟩).symm
 ·rw[mN h];refine(List.any_eq_false.mpr λe he z=>h ?_).symm;have:=hX z;have:=h2 _ (gN _ (List.mem_map_of_mem he));omega
def spTooG:Sp:=λvs H Q _=>∃(d:Addr) (ad:Nat) (z:Sz) (E:List Ent),vs=[.ref d]/\FQ H d ad z E/\ad<=4/\z.n<=3000/\z.D<=1000/\∀H',Same H H'->Q (.bl (tgE E)) H'
structure TgI(E:List Ent)(l:Addr)(H1:Hp)(i:Nat)(ys:List V)(H2:Hp):Prop where
 s:Same H1 H2
 e:H2 l=some (.lst ys)
 y:ys=((E.take i).map λe=>e.ns.sum).map V.int
theorem scTooG:FnScope ["one"] ["one"] (jK OJ):=scK (by decide +kernel)
theorem ok_tooG(F:Fun K "_law_too_great" "_law_too_great" OJ f fd)(T:Txt mg):FnOk P w K mg base CX0 1 f fd ["one"] spTooG:=by
 refine F.ok scTooG (λvs H Q E h=>?_) #[3]
 ·obtain⟨d,ad,z,E',rfl,_⟩:=h
  rfl
 ·obtain⟨d,ad,z,EE,rfl,h1,m4,hn,hD,go⟩:=h;have few:=h1.db.few;refine⟨_,jF (jO (pe_or (uS xF (kR UA (by rfl) T.len PySem.boot_len (jA (pv 0) jC)) jB (jZ _)) (VW (uS xF (kR (LwMx.call_max1 rfl) (by rfl) T.max boot_max (jA (jH op_catF (vL (jA jB jC)) (uR (own:=1) (idx:=[]) (N:=["powers"]) rfl rfl rfl (by decide +kernel) (by decide +kernel) (λ_ _ h=>nomatch h) (yI rfl) rfl (λ_ _ _ h=>nomatch h) (LwD.wR (pv 0)) (λC fp s2 H2=>show PG (jN _ ["powers"] _ _ C fp s2 H2) _ (jT 0)from(jJ (i:=0) (show List.Nodup (["powers"]:List Str) by decide +kernel) rfl (Or.inl rfl) (Or.inr rfl))) (λC fp s2 H2=>kR (show CallR (jN _ ["powers"] _ _ C fp s2 H2) (.builtin "sum") (VP K)from GJ rfl) (by rfl) T.sum boot_sum (jA (pv 0) jC)))) jC)) jB (jZ _))))), ?_⟩;try dsimp only[cxK]
  have lk:(EE.map Ent.kv).length=EE.length:=mL ..;refine⟨_,rfl,d,_,rfl,h1.rd,_,_,rfl,rfl,_,rfl, ?_⟩;rw[lk];by_cases big:500<EE.length
  ·rw[tK (mP #[0])];have:tgE EE=true:=by unfold tgE;rw[mP big];rfl
   rw[<-this];exact go H (Same.refl _)
  rw[tJ (by rw[mN #[0]];decide)];have tg:tgE EE=EE.any λe=>decide (16<e.ns.sum):=by unfold tgE;rw[mN big];rfl
  refine⟨uW,λz0 H1 n1 s1 e1=>?_⟩;obtain⟨o,f1⟩:=(h1.kp (Kp.of s1)).fr;refine⟨_,rfl,d,o,_,rfl,f1,wS EE,λys hk=>?_⟩;intro l H2 n2 s2 e2;refine TU hk (TgI EE l H1) (gU (show EE.length<=500 by omega) #[1]) ⟨s2,e2,rfl⟩ (λi zs H3 h=>⟨h.s _ _ f1,Kp.of h.s,h.e⟩) ?_ ?_
  ·rintro i m zs e b H3 he eM hm hl ⟨s3,e3,ey⟩ hb hx;have kE:=h1.db.each e eM;refine⟨QD,_,rfl,b,e.ns,rfl,SqT.of hb,λn hn=>⟨kE.nn n hn, ?_⟩,by rw[kE.len];omega, ?_⟩
   ·have:=(vD kE.nn hn).1;have:=kE.deg;omega
   ·refine wW hx hm hl e3 ⟨kD s3 n2,jE, ?_⟩;rw[ey,hW,he,mM,mM]
    rfl
  ·rintro zs H3 hl ⟨s3,e3,ey⟩;rw[mG]at ey;have s13:=s1.trans s3;refine⟨z0,l,[.int 0],zs,rfl,rfl,s3 _ _ e1,e3, ?_,λq H4 n4 s4 e4=>?_⟩
   ·show 1+zs.length<=sizeLine;exact nN (show 1+zs.length<=501 by omega) #[1]
   refine⟨q,0::EE.map (λe=>e.ns.sum),rfl,by rw[e4,ey];rfl,by simp,λm h1 h2=>⟨_,_,rfl,rfl, ?_⟩⟩;show Q (.bl (decide ((16:Int)<m))) H4;rw[max_any h1 h2,<-tg];exact go H4 (s13.trans s4)
theorem US{E:List Ent}(h:tgE E=false):E.length<=500/\∀e∈E,e.ns.sum<=16:=by
 unfold tgE at h;rw[Bool.or_eq_false_iff]at h;refine⟨by have:=of_decide_eq_false h.1;omega,λe he=>?_⟩;have:=List.any_eq_false.mp h.2 e he;by_cases k:16<e.ns.sum
 ·exact absurd (mP k) this
 ·omega
theorem DB.d16{H:Hp}{ad:Nat}{z:Sz}{E:List Ent}(h:DB H ad z E)(t:∀e∈E,e.ns.sum<=16):DB H ad ⟨16,z.v,z.S,z.n⟩ E:=⟨h.nd,λe he=>by
 have k:=h.each e he;exact⟨k.len,k.nn,t e he,k.at',k.pos,k.nz,k.sb,k.st⟩,h.sum,h.few⟩
structure Two(H:Hp)(way ad:Nat)(d1 d2:Addr)(z y:Sz)(E F:List Ent):Prop where
 h1:FQ H d1 ad z E
 h2:FQ H d2 ad y F
 m1:1<=ad
 m4:ad<=4
 w:way<=1
 D:z.D<=16
 yD:y.D<=z.D
 yv:y.v<=z.v
 S1:z.S<=3900
 S2:y.S<=3900
 v:z.v+y.v+y.n<=4000
 n:z.n+y.n<=3000
 p:way=1->z.v+y.v+z.n*y.n<=4000/\z.n*y.n<=3000
theorem Two.same{H H':Hp}{way ad:Nat}{d1 d2:Addr}{z y:Sz}{E F:List Ent}(h:Two H way ad d1 d2 z y E F)(s:Same H H'):Two H' way ad d1 d2 z y E F:=⟨h.h1.kp (Kp.of s),h.h2.kp (Kp.of s),h.m1,h.m4,h.w,h.D,h.yD,h.yv,h.S1,h.S2,h.v,h.n,h.p⟩
def cfW(way:Nat)(P R:Pl)(m:List Int):Rat:=if way=0 then cf P m+cf R m else cf (mul P R) m
structure Fnd(H:Hp)(way ad:Nat)(E F E':List Ent):Prop where
 db:∃z,DB H ad z E'/\z.D<=32
 c:∀m,cf (pl E') m=cfW way (pl E) (pl F) m
def DU(K:tL):Sp:=λvs H Q _=>∃(way ad:Nat) (d1 d2:Addr) (z y:Sz) (E F:List Ent),vs=[.int way,.int ad,.ref d1,.ref d2]/\Two H way ad d1 d2 z y E F/\
 (∀(E':List Ent) (H':Hp),Same H H'->Fnd H' way ad E F E'->tgE E'=true->Q (.str "great") H')/\
 (∀(E' E0:List Ent) (p:Addr) (H':Hp),Same H H'->H p=none->Fnd H' way ad E F E'->tgE E'=false->E0.Perm E'->SumQ K H' p ad (pl E0)->PlOk ad (pl E0)->Q (.ref p) H')
theorem yW{H H':Hp}{a:Addr}(s:Same H H')(h:H' a=none):H a=none:=by
 cases e:H a with
 | none=>rfl
 | some o=>rw[s _ _ e]at h;cases h
inductive DuI(H:Hp)(way ad:Nat)(d1 d2:Addr)(E F:List Ent):L2.St->Hp->Prop where
 | mk {H':Hp} {E':List Ent} {p:Addr} {o:Obj} {zz:Sz} (s:Same H H') (fr:H' p=some (.frz o (.dT (E'.map Ent.kv)))) (n:H p=none) (db:DB H' ad zz E') (D:zz.D<=32) (n3:zz.n<=3000) (kb:KB (λ_=>7900) E') (c:∀m,cf (pl E') m=cfW way (pl E) (pl F) m):DuI H way ad d1 d2 E F [some (.int way),some (.int ad),some (.ref d1),some (.ref d2),some (.ref p)] H'
theorem scDue:FnScope ["way","many","one","other","found"] ["way","many","one","other"] (jK VH):=scK (by decide +kernel)
theorem ok_due{fA fP:Addr}{fdA fdP:FuncData}(F:Fun K "_law_due" "_law_due" VH f fd)(DA:Df K mg "_law_added" EB ["one","other"] fA fdA)(GA:FnOk P w K mg base CX0 3 fA fdA ["one","other"] spAdded)(DP:Df K mg "_law_product" OK ["one","other"] fP fdP)(GP:FnOk P w K mg base CX0 3 fP fdP ["one","other"] spProd)
 (GT:DG P w K mg base 1 "_law_too_great" OJ ["one"] spTooG) (GS:DG P w K mg base 2 "_law_sum" FN ["many","one"] (AS K)):FnOk P w K mg base CX0 4 f fd ["way","many","one","other"] (DU K):=by
 refine F.ok scDue (λvs H Q E h=>?_) #[3]
 ·obtain⟨way,ad,d1,d2,z,y,E1,F1,rfl,_⟩:=h
  rfl
 ·obtain⟨way,ad,d1,d2,z,y,EE,FF,rfl,h2,gG,gS⟩:=h;have hr1:Room 1 _:=hr.mono #[1];have hr2:Room 2 _:=hr.mono #[1];have hr3:Room 3 _:=hr;refine⟨_,jD (jL (i:=4) scDue.nd rfl (Or.inl rfl) (LwD.vN (VZ (jR kZ (vL (jA (kF (v:=.ref fA) rfl DA.m rfl) (jA (kF (v:=.ref fP) rfl DP.m rfl) jC))) (pv 0) (λ_ _=>rfl)) GA GP hr3 hr3 DA.F.kp DP.F.kp DA.b DP.b qS qS (jA (pv 2) (jA (pv 3) jC))))) (jD (kT (yU (cal GT hr1 (jA (pv 4) jC))) (jF (jO MO)) jV) (jF (jO (cal GS hr2 (jA (pv 1) (jA (pv 4) jC)))))), ?_⟩;try dsimp only[cxK]
  refine zO (DuI H way ad d1 d2 EE FF) (fun σ H3 h=>?_) (λgo=>?_)
  ·obtain⟨s3,fr,np,db,D32,n3,kb,c⟩:=h;rename_i E' p o zz;have fq:FQ H3 p ad zz E':=⟨⟨o,fr⟩,db⟩;refine⟨_,rfl,p,ad,zz,E',rfl,fq,h2.m4,n3,by omega,λH4 s4=>?_⟩;have s34:=s3.trans s4;have fn:∀{H5:Hp},Same H3 H5->Fnd H5 way ad EE FF E':=λs5=>⟨⟨zz,db.kp (Kp.of s5),D32⟩,c⟩;by_cases t:tgE E'=true
   ·rw[t];exact⟨_,rfl,AF rfl (gG E' H4 s34 (fn s4) t)⟩
   ·have t:tgE E'=false:=by simpa using t
    rw[t];have td:=US t;refine⟨_,rfl,xB rfl ⟨_,rfl,_,rfl,p,ad,_,E',rfl,(fq.kp (Kp.of s4)).rd,(db.kp (Kp.of s4)).d16 td.2,h2.m1,h2.m4,td.1,kb,nX _,λq E0 H5 nq s5 pE sq ok=>?_⟩⟩;exact gS E' E0 q H5 (s34.trans s5) (yW s34 nq) (fn (s4.trans s5)) t pE sq ok
  refine⟨uX,λl H1 n1 s1 e1=>?_⟩;have T:=h2.same s1;have ret:∀(p:Addr) (E':List Ent) (H2:Hp) (zz:Sz),H1 p=none->Same H1 H2->H2 p=some (.dT (E'.map Ent.kv))->DB H2 ad zz E'->zz.D<=32->zz.n<=3000->KB (λ_=>7900) E'->(∀m,cf (pl E') m=cfW way (pl EE) (pl FF) m)->
    ∀o,DuI H way ad d1 d2 EE FF [some (.int way),some (.int ad),some (.ref d1),some (.ref d2),some (.ref p)] (upd H2 p (.frz o (.dT (E'.map Ent.kv)))):=λp E' H2 zz np s2 e2 db D32 n3 kb c o=>
   .mk (kD (s1.trans s2) (yW s1 np)) jE (yW s1 np) (db.kp (Kp.upd e2 trivial)) D32 n3 kb c
  have hw:way=0∨way=1:=by have:=h2.w;omega
  rcases hw with rfl | rfl
  ·refine⟨_,rfl,l,_,_,_,rfl,rfl,SqL.of e1,rfl,.inl ⟨rfl,_,rfl,_,rfl,d1,d2,ad,z,y,EE,FF,_,_,rfl,T.h1,T.h2,T.m1,T.m4,T.yD,T.yv,T.D,T.h1.db.kb,T.h2.db.kb,(λm=>by have:=T.S1;omega),(λm=>by have:=T.S2;omega),by have:=T.v;omega,T.n,λp E' H2 np s2 e2 db kb c=>?_⟩⟩;exact⟨p,_,rfl,e2,λo=>go _ _ (ret p E' H2 _ np s2 e2 db (by have:=T.D;show z.D<=32;omega) T.n (kb.up λm=>by have:=T.S1;have:=T.S2;omega) c o)⟩
  ·obtain⟨v1,n1⟩:=T.p rfl;refine⟨_,rfl,l,_,_,_,rfl,rfl,SqL.of e1,rfl,.inr ⟨rfl,_,rfl,_,rfl,d1,d2,ad,z,y,EE,FF,rfl,T.h1,T.h2,T.m4,T.S1,T.S2,v1,n1,λp E' H2 np s2 e2 db kb c=>?_⟩⟩;exact⟨p,_,rfl,e2,λo=>go _ _ (ret p E' H2 _ np s2 e2 db (by have:=T.D;have:=T.yD;show z.D+y.D<=32;omega) n1 (kb.up λm=>by have:=T.S1;have:=T.S2;omega) c o)⟩
def sl1(l:Nat)(x:List Int×Rat):Option (List Int×Rat):=if 0<x.1.getD l 0 then some (vO x.1 l,x.2*((x.1.getD l 0:Int):Rat))else none
def HZ(P:Pl)(l:Nat):Pl:=P.filterMap (sl1 l)
theorem RQ{E:List Ent}{i l:Nat}{e:Ent}(he:E[i]? = some e):HZ (pl (E.take (i+1))) l=HZ (pl (E.take i)) l++(if 0<e.ns.getD l 0 then [(vO e.ns l,((e.t:Rat)/(e.b:Rat))*((e.ns.getD l 0:Int):Rat))]else []):=by
 rw[wQ he];unfold HZ;rw[List.filterMap_append]
 congr 1
 by_cases c:0<e.ns.getD l 0
 ·rw[tK c,List.filterMap_cons_some (show sl1 l e.pr=_ from tK c)]
  rfl
 ·rw[tJ c,List.filterMap_cons_none (show sl1 l e.pr=none from tJ c)]
  rfl
def spSloped:Sp:=λvs H Q _=>∃(d:Addr) (l ad:Nat) (z:Sz) (E:List Ent),vs=[.ref d,.int l]/\FQ H d ad z E/\l<ad/\ad<=4/\z.D<=16/\z.v<=4000/\z.S<=7900/\z.n<=3000/\
 ∀(p:Addr) (E':List Ent) (H':Hp),H p=none->Same H H'->H' p=some (.dT (E'.map Ent.kv))->DB H' ad ⟨z.D,z.v+5,z.S,z.n⟩ E'->pl E'=HZ (pl E) l->Q (.ref p) H'
inductive SoI(H H1:Hp)(d p:Addr)(l ad:Nat)(z:Sz)(E:List Ent)(i:Nat):L2.St->Hp->Prop where
 | mk {u v:Option V} {H':Hp} {E':List Ent} (s:Same H H') (k:Kp H1 H') (e:H' p=some (.dT (E'.map Ent.kv))) (db:DB H' ad ⟨z.D,z.v+5,((E.take i).map Ent.k).sum,i⟩ E') (ky:∀n∈E'.map Ent.ns,∃m∈(E.take i).map Ent.ns,n=vO m l) (c:pl E'=HZ (pl (E.take i)) l):SoI H H1 d p l ad z E i [some (.ref d),some (.int l),some (.ref p),u,v] H'
theorem low_ok{ad l:Nat}{ns:List Int}(h1:ns.length=ad)(h2:∀n∈ns,0<=n)(hl:l<ad)(hp:0<ns.getD l 0):(vO ns l).length=ad/\(∀n∈vO ns l,0<=n)/\(vO ns l).sum<=ns.sum:=by
 refine⟨by unfold vO;rw[List.length_set];exact h1,λn hn=>?_, ?_⟩
 ·rcases List.mem_or_eq_of_mem_set hn with hn | rfl
  ·exact h2 n hn
  ·omega
 ·have:=DF (ns:=ns) (l:=l) (ns.getD l 0-1) #[0];unfold vO;omega
theorem scSloped:FnScope ["one","letter","found","powers","lower"] ["one","letter"] (jK BW):=scK (by decide +kernel)
theorem ok_sloped(F:Fun K "_law_sloped" "_law_sloped" BW f fd)(GM:DG P w K mg base 1 "_law_mul" FO ["one","other"] (HW K)):FnOk P w K mg base CX0 2 f fd ["one","letter"] spSloped:=by
 refine F.ok scSloped (λvs H Q E h=>?_) #[3]
 ·obtain⟨d,l,ad,z,E1,rfl,_⟩:=h
  rfl
 ·obtain⟨d,l,ad,z,EE,rfl,h1,hl,m4,hD,hv,hS,hn,go⟩:=h;have hu:_+1<cLine:=gU (Nat.add_le_add_left (by decide:1<=64) _) hr.units;refine⟨_,jD (jL (i:=2) scSloped.nd rfl (Or.inl rfl) (zY)) (jD (kU PassesOwn.never rfl (LwD.wR (pv 0)) (jJ (i:=3) scSloped.nd rfl (Or.inl rfl)) (jF (kT (jS xF (jR jU (pv 3) (pv 1) (λ_ _=>rfl)) jB (jZ _)) (jD (jL (i:=4) scSloped.nd rfl (Or.inl rfl) (jH AC (jH AC (vS BU (pv 3) xZ (vR (pv 1))) (jW (jA (jH xA (jR jU (pv 3) (pv 1) (λ_ _=>rfl)) jB) jC))) (vS BU (pv 3) (vR (jH kJ (pv 1) jB)) xZ))) (jF (yV hu (pv 2) (pv 4) (cal GM hr (jA (vT hu (pv 0) (pv 3) (λ_ _=>rfl)) (jA (jW (jA (jR jU (pv 3) (pv 1) (λ_ _=>rfl)) (jA jB jC))) jC))) rfl))) jV))) (jF (jO (pv 2)))), ?_⟩;try dsimp only[cxK]
  intro p np;have s1:Same H (upd H p (.dT [])):=jY _ np;generalize hH1:upd H p (.dT [])=H1 at s1;have e1:H1 p=some (.dT (([]:List Ent).map Ent.kv)):=hH1▸jE;obtain⟨o2,f2⟩:=(h1.kp (Kp.of s1)).fr;have few:=h1.db.few;refine⟨_,rfl,d,o2,_,rfl,f2,wS EE,λks hks=>?_⟩;refine wJ hks (SoI H H1 d p l ad z EE) (.mk s1 (Kp.of (Same.refl _)) e1 ⟨mU,(λe h=>nomatch h),nY _,nY _⟩ (λn h=>nomatch h) rfl) (λi σ H2 h=>?_) (λi e b σ H2 he eM hb h=>?_) (fun σ H2 h=>?_)
  ·obtain⟨s2,k,e2,db,ky,c⟩:=h;exact⟨k.frz _ _ _ f2,k⟩
  ·obtain⟨s2,k,e2,db,ky,c⟩:=h;rename_i E0;have kE:=h1.db.each e eM;have ke:=h1.db.k eM;have hi:i<EE.length:=(gB.mp he).1;have sk:=AE he;have ly:=kE.len;have st:=RQ (l:=l) he;have at0:atI (e.ns.map V.int) (l:Int)=some (.int (e.ns.getD l 0)):=AN (by rw[hU,Lw.wT (show l<e.ns.length by omega)];rfl);refine⟨_,rfl,_,rfl,b,_,_,_,rfl,rfl,SqT.of hb,at0,_,_,rfl,rfl,_,rfl, ?_⟩;refine wH (λc0=>?_) (λc0=>?_)
   ·have c0:0<e.ns.getD l 0:=hX c0;have kyl:=low_ok ly kE.nn hl c0;rw[tK c0]at st;refine⟨_,rfl,_,rfl,_,rfl,b,_,rfl,hb,λt1 H3 s3 e3=>⟨_,rfl,_,rfl,b,_,_,_,rfl,rfl,SqT.of (s3 _ _ hb),at0,_,_,rfl,rfl,uW,λt2 H4 n4 s4 e4=>?_⟩⟩;have lc:(vF (e.ns.map V.int) none (some (l:Int))).length<=4:=by
     have:=congrArg List.length (xK (ns:=e.ns) (l:=l) #[0]);rw[List.length_append,List.length_append,mL,kyl.1]at this;omega
    have ld:(vF (e.ns.map V.int) (some ((l:Int)+1)) none).length<=4:=by
     have:=congrArg List.length (xK (ns:=e.ns) (l:=l) #[0]);rw[List.length_append,List.length_append,mL,kyl.1]at this;omega
    refine⟨t1,t2,_,_,rfl,rfl,s4 _ _ e3,e4,by rw[sizeLine_eq];show _+1<=_;omega,λt3 H5 s5 e5=>?_⟩;have s25:=s3.trans (s4.trans s5);refine⟨_,rfl,_,rfl,_,_,rfl,rfl,_,rfl,b,_,rfl,s25 _ _ hb,λt4 H6 s6 e6=>?_⟩;refine⟨t3,t4,_,_,rfl,rfl,s6 _ _ e5,e6,by rw[sizeLine_eq,List.length_append];show _+1+_<=_;omega,λt5 H7 s7 e7=>?_⟩;rw[xK #[0]]at e7;have s27:=s25.trans (s6.trans s7);have F7:=h1.kp (Kp.of (s2.trans s27));dsimp only[jT];refine⟨_,rfl,_,rfl,d,_,rfl,F7.get eM (s27 _ _ hb),_,rfl,_,rfl,b,_,_,_,rfl,rfl,SqT.of (s27 _ _ hb),at0,uX,λt6 H8 n8 s8 e8=>?_⟩;have g16:e.ns.getD l 0<=16:=by
     have m0:e.ns.getD l 0∈e.ns:=gM (Lw.wT (show l<e.ns.length by omega));have:=(vD kE.nn m0).1;have:=kE.deg;omega
    have g5:(e.ns.getD l 0).natAbs<=2^5*(1:Int).natAbs:=by
     show _<=32*1;omega
    refine⟨e.c,t6,e.t,e.b,_,1,rfl,SqT.of ((F7.db.each e eM).kp (Kp.of s8)).at',SqT.of e8,xV kE.st kE.sb #[0],xI kE.sb #[0],xV (S:=0) (b:=1) g5 #[1] #[1],xI (b:=1) (S:=0) #[1] #[1],λr H9 n9 s9 e9=>?_⟩;have s29:=s27.trans (s8.trans s9);have nw:vO e.ns l∉E0.map Ent.ns:=λhh=>by
     obtain⟨m,hm,em⟩:=ky _ hh;obtain⟨y,hy,rfl⟩:=nP.mp hm;have yl:=(h1.db.each y (gR hy)).len;have:=PQ (by rw[ly,yl]) #[0] em;exact CF h1.db.nd he (by rw[this];exact List.mem_map_of_mem hy)
    have hd9:=s29 _ _ e2;have kz:(List.map Ent.kv E0).length<sizeLine:=gU (by rw[mL];exact nN db.few (show i<=3000 by omega)) #[1];refine⟨_,rfl,_,rfl,p,_,rfl,DPut.t (k:=LwD.ik (vO e.ns l)) hd9 (by rw[LwD.yH];exact(s8.trans s9) _ _ e7) kz, ?_⟩;have k9:Kp H2 (upd H9 p (.dT (qU (List.map Ent.kv E0) (LwD.ik (vO e.ns l)) (.ref r)))):=(Kp.of s29).trans (Kp.upd hd9 trivial);have rp:r≠p:=λzz=>by rw[zz,(s27.trans s8) _ _ e2]at n9;cases n9
    have em:((e.t*e.ns.getD l 0:Int):Rat)/((e.b*1:Int):Rat)=(e.t:Rat)/(e.b:Rat)*((e.ns.getD l 0:Int):Rat):=by
     rw[Rat.intCast_mul,Int.mul_one]
     grind
    refine .mk (E':=E0++[⟨vO e.ns l,r,e.t*e.ns.getD l 0,e.b*1,e.k⟩]) (kD (s2.trans s29) np) (k.trans k9) ?_ ⟨?_,λy hy=>?_, ?_, ?_⟩ (λn hn'=>?_) ?_
    ·rw[jE,BZ (xR nw),mM]
     rfl
    ·rw[mM,mB];refine⟨db.nd,by simp,λa ha b hb=>?_⟩;have:b=vO e.ns l:=by simpa using hb
     rintro rfl;rw[this]at ha;exact nw ha
    ·rcases mO.mp hy with hy | hy
     ·exact(db.each y hy).kp k9
     ·rw[gY]at hy;subst hy;refine⟨kyl.1,kyl.2.1,Int.le_trans kyl.2.2 kE.deg,by show At2 _ r _ _;rw[At2,jG rp];exact e9,nZ kE.pos #[1],Int.mul_ne_zero kE.nz #[0], ?_, ?_⟩
      ·show(e.b*1).natAbs<=2^e.k;rw[Int.mul_one];exact kE.sb
      ·show(e.t*e.ns.getD l 0).natAbs<=2^(z.v+5)*(e.b*1).natAbs;rw[mQ,mQ];exact EN kE.st g5
    ·rw[mM,List.sum_append,sk];have:(List.map Ent.k E0).sum<=((EE.take i).map Ent.k).sum:=db.sum;show _+(e.k+0)<=_+e.k;omega
    ·rw[List.length_append];exact Nat.succ_le_succ db.few
    ·rw[hW,he,mM];rw[mM]at hn';rcases mO.mp hn' with hn' | hn'
     ·obtain⟨m,hm,e⟩:=ky n hn';exact⟨m,List.mem_append_left _ hm,e⟩
     ·exact⟨e.ns,gJ _ (gY.mpr rfl),gY.mp hn'⟩
    ·rw[st,<-c];unfold pl;rw[mM]
     congr 1
     show [(vO e.ns l,((e.t*e.ns.getD l 0:Int):Rat)/((e.b*1:Int):Rat))]=_;rw[em]
   ·rw[tJ (λz=>c0 (mP z)),List.append_nil]at st;refine .mk s2 k e2 (db.up uU uU (by show _<=((EE.take (i+1)).map Ent.k).sum;rw[sk];exact Nat.le_add_right ..) (Nat.le_succ _)) (λn hn'=>?_) (by rw[st];exact c);obtain⟨m,hm,e'⟩:=ky n hn';rw[hW,he,mM];exact⟨m,List.mem_append_left _ hm,e'⟩
  ·obtain⟨s2,k,e2,db,ky,c⟩:=h;rw[mG]at db c;exact⟨_,rfl,go p _ H2 np s2 e2 (db.up uU uU h1.db.sum few) c⟩
def gk(a c k:Nat):List Int:=(([0,0,0,0]:List Int).set a ((k:Int)%5)).set c ((k:Int)/5)
def gkb(a c k:Nat):Bool:=(gk a c k).all (λn=>decide (0<=n))&&decide ((gk a c k).sum<=8)&&decide ((gk a c k).getD a 0=((k%5:Nat):Int))&&decide ((gk a c k).getD c 0=((k/5:Nat):Int))
theorem gk_all:((List.range 4).all λa=>(List.range 4).all λc=>a==c||(List.range 25).all λk=>gkb a c k)=true:=by decide +kernel
theorem YC(a:Nat)(ha:a<4)(c:Nat)(hc:c<4)(n:a≠c)(k:Nat)(hk:k<25):(∀n∈gk a c k,0<=n)/\(gk a c k).sum<=8/\(gk a c k).getD a 0=((k%5:Nat):Int)/\(gk a c k).getD c 0=((k/5:Nat):Int):=by
 have h:=List.all_eq_true.mp (List.all_eq_true.mp gk_all a (mR.mpr ha)) c (mR.mpr hc);rw[Bool.or_eq_true]at h;rcases h with h | h
 ·exact absurd (hX h) n
 have h:=List.all_eq_true.mp h k (mR.mpr hk);unfold gkb at h;rw[mI,mI,mI]at h;exact⟨λn hn=>hX (List.all_eq_true.mp h.1.1.1 n hn),hX h.1.1.2,hX h.1.2,hX h.2⟩
theorem gk_inj{a c j k:Nat}(ha:a<4)(hc:c<4)(n:a≠c)(hj:j<25)(hk:k<25)(e:gk a c j=gk a c k):j=k:=by
 obtain⟨_,_,h1,h2⟩:=YC a ha c hc n j hj;obtain⟨_,_,h3,h4⟩:=YC a ha c hc n k hk;rw[e]at h1 h2;have h1:=Int.ofNat_inj.mp (h1.symm.trans h3);have h2:=Int.ofNat_inj.mp (h2.symm.trans h4);omega
abbrev zG:Sz:=⟨8,5,50,25⟩
def spGrid:Sp:=λvs H Q _=>∃(a c n:Nat),vs=[.int a,.int c,.int n]/\a<4/\c<4/\a≠c/\n<=25/\
 ∀(p:Addr) (E':List Ent) (H':Hp),H p=none->Same H H'->H' p=some (.dT (E'.map Ent.kv))->DB H' 4 zG E'->Q (.ref p) H'
inductive GrI(H H1:Hp)(p:Addr)(a c n:Nat)(i:Nat):L2.St->Hp->Prop where
 | mk {u v:Option V} {H':Hp} {E':List Ent} (s:Same H H') (s1:Kp H1 H') (e:H' p=some (.dT (E'.map Ent.kv))) (db:DB H' 4 ⟨8,5,2*i,i⟩ E') (ky:∀m∈E'.map Ent.ns,∃j,j<i/\m=gk a c j):GrI H H1 p a c n i [some (.int a),some (.int c),some (.int n),some (.ref p),u,v] H'
theorem scGrid:FnScope ["first","second","many","found","k","powers"] ["first","second","many"] (jK ON):=scK (by decide +kernel)
theorem ok_grid(F:Fun K "_law_grid" "_law_grid" ON f fd)(T:Txt mg):FnOk P w K mg base CX0 1 f fd ["first","second","many"] spGrid:=by
 refine F.ok scGrid (λvs H Q E h=>?_) #[3]
 ·obtain⟨a,c,n,rfl,_⟩:=h
  rfl
 ·obtain⟨a,c,n,rfl,ha,hc,hac,hn,go⟩:=h;have hu:_+1<cLine:=gU (Nat.add_le_add_left (by decide:1<=64) _) hr.units;refine⟨_,jD (jL (i:=3) scGrid.nd rfl (Or.inl rfl) (zY)) (jD (kU PassesOwn.never rfl (qV (by rfl) T.rng (jA (pv 2) jC)) (jJ (i:=4) scGrid.nd rfl (Or.inl rfl)) (jD (jL (i:=5) scGrid.nd rfl (Or.inl rfl) (vL (jA jB (jA jB (jA jB (jA jB jC)))))) (jD (vQ (jH vA (pv 4) jB) (zX (pv 5) (pv 0) xE)) (jD (vQ (jH qQ (pv 4) jB) (zX (pv 5) (pv 1) xE)) (jF (yV hu (pv 3) (qF qX (by rfl) T.tup boot_tuple (jA (pv 5) jC)) (jW (jA (jH kJ jB (pv 4)) (jA (jH kJ jB (jH vA (pv 4) jB)) jC))) rfl)))))) (jF (jO (pv 3)))), ?_⟩;try dsimp only[cxK]
  intro p np;have s1:Same H (upd H p (.dT [])):=jY _ np;generalize hH1:upd H p (.dT [])=H1 at s1;have e1:H1 p=some (.dT (([]:List Ent).map Ent.kv)):=hH1▸jE;refine⟨_,rfl,_,rfl,by omega,by omega, ?_⟩;refine qW (GrI H H1 p a c n) (.mk s1 (Kp.of (Same.refl _)) e1 ⟨mU,(λe h=>nomatch h),nY _,nY _⟩ (λn h=>nomatch h)) (λi σ H2 hi h=>?_) (fun σ H2 h=>?_)
  ·obtain⟨s2,k2,e2,db,ky⟩:=h;rename_i E2;have hi25:i<25:=by omega
   have g:=YC a ha c hc hac i hi25;refine⟨(by show 4<=sizeLine;decide),λl H3 n3 s3 e3=>?_⟩;have ei:(0:Int)+(i:Int)=(i:Int):=by omega
   dsimp only[jT];have e3:H3 l=some (.lst (([0,0,0,0]:List Int).map V.int)):=e3;have ix:∀{x:Nat} {ns:List Int},x<4->ns.length=4->ixN (ns.map V.int).length (x:Int)=some x:=fun {x ns} hx hl=>by
    unfold ixN;rw[tK #[0],tK (by rw[mL,hl];omega)]
    rfl
   refine⟨_,rfl,_,_,rfl,rfl,(by show(0:Int)<5;decide),_,rfl,_,rfl,l,_,_,a,rfl,rfl,e3,ix ha rfl, ?_⟩;refine⟨_,rfl,_,_,rfl,rfl,⟨by decide,by decide⟩,_,rfl,_,rfl,l,_,_,c,rfl,rfl,by rw[<-List.map_set];exact jE,ix hc (by rw[List.length_set];rfl), ?_⟩;rw[ei];rw[<-List.map_set];have hl:H l=none:=yW s2 n3;generalize hH4:upd (upd H3 l _) l _=H4;have e4:H4 l=some (.lst ((gk a c i).map V.int)):=by
    rw[<-hH4,jE];unfold gk;rw[List.map_set (l:=([0,0,0,0]:List Int).set a ((i:Int)%5))]
   have s4:Same H2 H4:=λx o hx=>by rw[<-hH4];exact kD (kD s3 n3) n3 x o hx
   refine⟨_,rfl,_,_,rfl,rfl,_,rfl,_,_,rfl,rfl,(by show(0:Int)<3;decide),_,_,rfl,rfl,uX,λr H5 n5 s5 e5=>?_⟩;refine⟨_,rfl,_,rfl,l,_,rfl,.inl ⟨SqL.of (s5 _ _ e4),λq nq=>?_⟩⟩;have sq:Same H5 (upd H5 q (.tup ((gk a c i).map V.int))):=jY _ nq;have eq:(upd H5 q (.tup ((gk a c i).map V.int))) q=some (.tup ((gk a c i).map V.int)):=jE;generalize upd H5 q (.tup ((gk a c i).map V.int))=H6 at sq eq;have s46:=s5.trans sq;have s26:=s4.trans s46;have nw:gk a c i∉E2.map Ent.ns:=λhh=>by
    obtain⟨j,hj,e⟩:=ky _ hh;have:=gk_inj ha hc hac hi25 #[0] e;omega
   have e6:=s26 _ _ e2;have kz:(List.map Ent.kv E2).length<sizeLine:=gU (by rw[mL];exact nN db.few (show i<=3000 by omega)) #[1];refine⟨p,_,rfl,DPut.t (k:=LwD.ik (gk a c i)) e6 (by rw[LwD.yH];exact eq) kz, ?_⟩;have k6:Kp H2 (upd H6 p (.dT (qU (List.map Ent.kv E2) (LwD.ik (gk a c i)) (.ref r)))):=(Kp.of s26).trans (Kp.upd e6 trivial);have rp:r≠p:=λzz=>by rw[zz,s4 _ _ e2]at n5;cases n5
   have gl:(gk a c i).length=4:=by unfold gk;rw[List.length_set,List.length_set];rfl
   refine .mk (E':=E2++[⟨gk a c i,r,1+i,1+(i:Int)%3,2⟩]) (kD (s2.trans s26) np) (k2.trans k6) ?_ ⟨?_,λy hy=>?_, ?_, ?_⟩ (λn hn'=>?_)
   ·rw[jE,BZ (xR nw),mM]
    rfl
   ·rw[mM,mB];refine⟨db.nd,by simp,λx hx b hb=>?_⟩;have:b=gk a c i:=by simpa using hb
    rintro rfl;rw[this]at hx;exact nw hx
   ·rcases mO.mp hy with hy | hy
    ·exact(db.each y hy).kp k6
    ·rw[gY]at hy;subst hy;refine⟨gl,g.1,g.2.1,by show At2 _ r _ _;rw[At2,jG rp];exact sq _ _ e5,by show 0<1+(i:Int)%3;omega,by show 1+(i:Int)≠0;omega, ?_, ?_⟩
     ·show(1+(i:Int)%3).natAbs<=4;omega
     ·show(1+(i:Int)).natAbs<=32*(1+(i:Int)%3).natAbs;omega
   ·rw[mM,List.sum_append];have:(List.map Ent.k E2).sum<=2*i:=db.sum;show _+(2+0)<=2*(i+1);omega
   ·rw[List.length_append];exact Nat.succ_le_succ db.few
   ·rw[mM]at hn';rcases mO.mp hn' with hn' | hn'
    ·obtain⟨j,hj,e⟩:=ky n hn';exact⟨j,by omega,e⟩
    ·exact⟨i,by omega,gY.mp hn'⟩
  ·obtain⟨s2,k2,e2,db,ky⟩:=h;exact⟨_,rfl,go p _ H2 np s2 e2 (db.up uU uU (by show 2*(n:Int).toNat<=50;omega) (by show(n:Int).toNat<=25;omega))⟩
end LwK
namespace LwD
open PySem PySem.Spec PyProof.Rows L2 Lw
theorem MS:typeLookup (.type "list") "keys" = pure none:=am_miss_of_fast (by decide +kernel)
theorem XE:typeLookup (.type "list") "__getattr__" = pure none:=by rw[typeLookup_type,builtinLookup_eq_fast];kernel_rfl
section
variable{prog:Program}{w:World}{A:Around}{E:Value->Shared->Prop}{h:Heap}{g:Array GenState}{d:Drawn}{t:Nat}{os:OsState}{a:Addr}{o:Obj}
theorem KW{tk:Tok}{Q:Fin->Shared->Prop}(hx:h.get? a=some o)(hc:o.cls=.type "list")(hd:o.dict=none)(n:Nat)(its:Array Value)(hs:o.data=.seq its n)(hh:A.handled=none)
  (hq:∀h' tk' e,Heap.NewAttrErr h h' e (.ref a) "keys"->E (.ref e) ⟨h',g,d,tk',os⟩) :
  wpAny #[4] A (Builtin.«object.__getattribute__» ⟨[.ref a,.str "keys" tk],[]⟩) Q E ⟨h,g,d,t,os⟩:=by
 have hT:(⟨h,g,d,t,os⟩:Shared).TypeIs (.ref a) "list":=⟨_,hx,hc⟩;have f4:=MS;obtain⟨c,dd,dt,sl⟩:=o
 replace hc:c=.type "list":=hc
 replace hd:dd=none:=hd
 replace hs:dt=.seq its n:=hs
 subst hc hd hs;unfold Builtin.«object.__getattribute__»
 repeat (any_goals (first | assumption | wp_step))
 exact wpAny_raiseAttrError hh hq (attrMsg_fits (by decide +kernel) (by size_fits))
theorem MZ{tk:Tok}{R:Result->Shared->Prop}(hx:h.get? a=some o)(hc:o.cls=.type "list")(hd:o.dict=none)(n:Nat)(its:Array Value)(hs:o.data=.seq its n)(hh:A.handled=none)
  (hq:∀h' tk' e,Heap.NewAttrErr h h' e (.ref a) "keys"->R (.error (.ref e)) ⟨h',g,d,tk',os⟩) :
  codeAny #[4] A (.call (.builtin "list.__getattribute__") ⟨[.ref a,.str "keys" tk],[]⟩) R ⟨h,g,d,t,os⟩:=
 codeAny_call_builtin F.slot_list_getattribute.plain F.entry_list_ga (F.slot_list_getattribute.check _ _ _ _ _ _ _ _ (show(⟨h,g,d,t,os⟩:Shared).TypeIs (.ref a) "list" from⟨_,hx,hc⟩) (F.args_list_getattribute_2 _ _) (KW hx hc hd n its hs (show A.in1.handled=none from hh) hq))
theorem MY{Q:Option Value->Shared->Prop}(hx:h.get? a=some o)(hc:o.cls=.type "list")(hd:o.dict=none)(n:Nat)(its:Array Value)(hs:o.data=.seq its n)(hh:A.handled=none)
  (hq:∀h' tk',(∀b u,h.get? b=some u->h'.get? b=some u)->Q none ⟨h',g,d,tk',os⟩):wpAny #[4] A (getAttr? (.ref a) "keys") Q E ⟨h,g,d,t,os⟩:=by
 have hT:(⟨h,g,d,t,os⟩:Shared).TypeIs (.ref a) "list":=⟨_,hx,hc⟩;have f2:=F.slot_list_getattribute.lookup;have f3:=F.slot_list_getattribute.bind (.ref a);have f1:=sub_AttributeError;have kc:=λ(A:Around) (t:Nat) (tk:Tok) (R:Result->Shared->Prop) (hh:A.handled=none)=>MZ (prog:=prog) (w:=w) (A:=A) (g:=g) (d:=d) (t:=t) (os:=os) (tk:=tk) (R:=R) hx hc hd n its hs hh;obtain⟨c,dd,dt,sl⟩:=o
 replace hc:c=.type "list":=hc
 replace hd:dd=none:=hd
 replace hs:dt=.seq its n:=hs
 subst hc hd hs;unfold getAttr? getAttrBy?
 repeat (any_goals (first | assumption | wp_step))
 refine kc _ _ _ _ hh λh' tk' e ne=>?_;obtain⟨t',u',he⟩:=ne.there;have f5:=XE
 repeat (any_goals (first | assumption | wp_step))
 exact hq h' tk' ne.keeps
end
section
variable{prog:Program}{w:World}{A:Around}{E:Value->Shared->Prop}
theorem QQ{h h':Heap}{d it t:Addr}{i:Nat}{xs:List (List Key×Addr×Value)}(D:h.DictOfH (tkd prog w) d xs)(I:h.IsListIter it t i)(hdi:d≠it)(k:∀b u,b≠it->h.get? b=some u->h'.get? b=some u):h'.DictOfH (tkd prog w) d xs:=by
 obtain⟨o,es,ep,h1,h2,h3,h4,h5,h6⟩:=D;refine⟨o,es,ep,k _ _ hdi h1,h2,h3,h4,λx hx=>?_,h6⟩;obtain⟨q,its,n,g1,g2,g3⟩:=h5 x hx;refine⟨q,its,n,k _ _ (λe=>?_) g1,g2,g3⟩;obtain⟨u,u1,u2,_⟩:=I;rw[e,u1]at g1;cases g1;rw[u2]at g2;exact absurd g2 #[1]
theorem NG{Q:Shared->Prop}{h0:Heap}{d it t:Addr}{items:Array Value}(hh:A.handled=none)(hu:A.units+1<cLine)(hd:h0.objs.size<=d)(hi:h0.objs.size<=it)(hdi:d≠it)(ht:h0.IsList t items) :
  ∀(ps xs:List (List Key×Addr×Value)) (i:Nat) (tk:Tok) (s:Shared),(∀j,Option.Rel (PairAt prog w h0) items[i+j]? ps[j]?)->xs.length+ps.length<=sizeLine->(∀b u,h0.get? b=some u->s.heap.get? b=some u)->s.heap.DictOfH (tkd prog w) d xs->s.heap.IsListIter it t i->
   (∀h' tk',(∀b u,h0.get? b=some u->h'.get? b=some u)->h'.DictOfH (tkd prog w) d (ZZ xs ps)->Q { s with heap:=h',toks:=tk' })->
   codeAny #[4] A (.builtin "dict.update.loop" ⟨[.ref d,.ref it,.int i tk,.none],[]⟩) (wants (λr s₂=>r=.none/\Q s₂) E) s:=by
 intro ps;induction ps with
 | nil=>
  intro xs i tk s hp hz hk hD hI q;have hn:items[i]? = none:=by have:=hp 0;revert this;rw[nV];cases items[i]? <;>intro z<;>cases z;rfl
  refine codeAny_builtin EO ?_;rw[Around.under_plainId zC _];have ht':s.heap.IsList t items:=let ⟨o,ho,r⟩:=ht;⟨o,hk _ _ ho,r⟩;unfold Builtin.«dict.update.loop»;refine tF (wpAny_pyNext_list_end (A:=A.in1) hh hI ht' hn λh' hx=>?_);refine tG ⟨rfl,q h' s.toks ?_ ?_⟩
  ·exact λb u e=>hx b u (nO (gX (nJ e) hi)) (hk b u e)
  ·exact QQ hD hI hdi λb u hb e=>hx b u hb e
 | cons p ps ih=>
  intro xs i tk s hp hz hk hD hI q;have hp0:=hp 0;rw[nV]at hp0;obtain⟨v,hv,pa⟩:∃v,items[i]? = some v/\PairAt prog w h0 v p:=by
   revert hp0;cases items[i]? with
   | none=>intro z;cases z
   | some v=>intro z;cases z with | some y=>exact⟨v,rfl,y⟩
  refine codeAny_builtin EO ?_;rw[Around.under_plainId zC _];have ht':s.heap.IsList t items:=let ⟨o,ho,r⟩:=ht;⟨o,hk _ _ ho,r⟩;unfold Builtin.«dict.update.loop»;refine tF (wpAny_pyNext_list_item (A:=A.in1) hI ht' hv λh' hI' hs=>?_);have k1:∀b u,h0.get? b=some u->h'.get? b=some u:=λb u e=>(hs.2 b (nO (gX (nJ e) hi))).trans (hk b u e);have D1:=QQ hD hI hdi λb u hb e=>(hs.2 b hb).trans e;obtain⟨r,rfl,tp,ky⟩:=pa.keep k1;obtain⟨o,ho,hc,n,hdt⟩:=id tp;have hT:(⟨h',s.gens,s.drawn,s.toks,s.os⟩:Shared).TypeIs (.ref r) "tuple":=⟨o,ho,hc⟩;unfold Builtin.Dict.pairItems;dsimp only;refine tF (wpAny_holding (tF (wpAny_tryCatch (tF (wpAny_typeOf hT ?_)))));rw[tK #[1]];unfold seqItems?;refine tF (tF (wpAny_load ho ?_));rw[hdt];refine tG ?_;refine tG (wpAny_holding ?_);refine wpAny_dictSet_heap (hsz:=by simp only[mH]at hz;omega) (knd:=tkd prog w) (tupleKind_room_in1 hu) ky D1 λh2 D2 hs2=>?_;have nt:t≠d:=λe=>by obtain⟨u,hu,_⟩:=ht;exact absurd (nJ hu) (by rw[e];exact Nat.not_lt.mpr hd)
  refine tG ⟨plainId_quiet zC _, ?_⟩;refine ih (storedH xs p.1 p.2.1 p.2.2) (i+1) 0 _ (λj=>?_) ?_ (λb u e=>?_) D2 ?_ λh3 tk3 k3 D3=>?_
  ·have:=hp (j+1);rw[List.getElem?_cons_succ]at this;rw[show i+1+j=i+(j+1) by omega];exact this
  ·have:=LZ xs p.1 p.2.1 p.2.2;simp only[mH]at hz;omega
  ·exact(hs2.2 b (nO (gX (nJ e) hd))).trans (k1 b u e)
  ·obtain⟨u,u1,u2⟩:=hI';exact⟨u,(hs2.2 it (Ne.symm hdi)).trans u1,u2⟩
  ·exact q h3 tk3 k3 D3
end
section
variable{prog:Program}{w:World}{A:Around}{E:Value->Shared->Prop}{s:Shared}
theorem YT{t:Addr}{o:Obj}{items:Array Value}{n:Nat}{ps:List (List Key×Addr×Value)}{Q:Value->Shared->Prop}(hh:A.handled=none)(hu:A.units+2<cLine)(ho:s.heap.get? t=some o)(hc:o.cls=.type "list")(hd:o.dict=none)(hs:o.data=.seq items n)
  (hp:∀j:Nat,Option.Rel (PairAt prog w s.heap) items[j]? ps[j]?) (hz:ps.length<=sizeLine)
  (q:∀h' tk',(∀b u,s.heap.get? b=some u->h'.get? b=some u)->h'.DictOfH (tkd prog w) s.heap.objs.size (ZZ [] ps)->Q (.ref s.heap.objs.size) { s with heap:=h',toks:=tk' }) :
  wpAny #[4] A (call (.type "dict") [.ref t]) Q E s:=by
 refine callType_codes (Q₁:=λobj s₁=>obj=.ref s.heap.objs.size/\s₁ = { s with heap:=s.heap.push { cls:=.type "dict",data:=.dict #[] } }) F.kt_called_dict (F.kt_typeCall_dict_1 _) F.entry_dict_init (kt_code_dict_new _ ⟨rfl,rfl⟩) ?_;rintro obj s₁ ⟨rfl,rfl⟩;have hT:(⟨s.heap.push { cls:=.type "dict",data:=.dict #[] },s.gens,s.drawn,s.toks,s.os⟩:Shared).TypeIs (.ref s.heap.objs.size) "dict":=⟨_,gT _ rfl,rfl⟩;have ho1:(s.heap.push { cls:=.type "dict",data:=.dict #[] }).get? t=some o:=gH _ ho;have hT1:(⟨s.heap.push { cls:=.type "dict",data:=.dict #[] },s.gens,s.drawn,s.toks,s.os⟩:Shared).TypeIs (.ref t) "list":=⟨_,ho1,hc⟩;refine⟨hT,F.args_dict_init_2 _ _, ?_⟩;unfold Builtin.«dict.__init__»;refine tF ?_;unfold Builtin.Dict.selfAndRest;refine tF (wpAny_notOrdered_dict hT ?_);show wpAny _ _ (pure (s.heap.objs.size,[Value.ref t])) _ _ _;refine tG ?_;show wpAny _ _ (Builtin.Dict.updateFrom "dict.__init__" s.heap.objs.size (.ref t) [] .none) _ _ _;unfold Builtin.Dict.updateFrom;refine tF (wpAny_typeOf hT1 ?_);rw[tK #[1]];refine tF (MY ho1 hc hd n items hs hh λh2 tk2 k2=>?_);have kk:∀b u,s.heap.get? b=some u->h2.get? b=some u:=λb u e=>k2 b u (gH _ e);have hi2:h2.IsList t items:=⟨o,kk _ _ ho,hc,n,hs⟩;have hd2:h2.get? s.heap.objs.size=some { cls:=.type "dict",data:=.dict #[] } :=k2 _ _ (gT _ rfl);have lt2:s.heap.objs.size<h2.objs.size:=nJ hd2;rw[tK #[1]]
 refine tF (wpAny_rule (tF (wpAny_pyIter_list hi2 (tG ⟨plainId_quiet zC _, ?_⟩))));refine NG (A:=A.in1) (E:=E) (Q:=λs₂=>Q (.ref s.heap.objs.size) s₂) (h0:=s.heap) (items:=items) (t:=t) hh hu uU (nU lt2) (nO lt2) ⟨o,ho,hc,n,hs⟩ ps [] 0 0 { s with heap:=h2.push { cls:=.type "list_iterator",data:=.fields #[.ref t,.int 0 0] },toks:=tk2 } (λj=>?_) (by simpa using hz) (λb u e=>?_) ?_ ?_ λh3 tk3 k3 D3=>q h3 tk3 k3 D3
 ·rw[Nat.zero_add];exact hp j
 ·exact gH _ (kk b u e)
 ·exact⟨_,#[],0,gH _ hd2,⟨rfl,rfl,rfl⟩,rfl,rfl,(λx hx=>nomatch hx),mU⟩
 ·exact⟨_,gT _ rfl,rfl,rfl⟩
end
section
variable{X:Cx}
def rDictL:List V->Hp->VK->Prop:=λxs H Q=>∃(t:Addr) (ys:List V) (ah:List (List Key×V)),xs=[.ref t]/\H t=some (.lst ys)/\PairsIn H ys ah/\(ah.map (·.1)).Nodup/\New H (.dT ah) Q
theorem uH(hc:X.calm=true)(hu:X.A.units+2<cLine):CallR X (.type "dict") rDictL:=by
 intro ae s σ H xs us Q I r h;obtain⟨t,ys,ah,rfl,ht,hp,hn,q⟩:=h;obtain⟨u,rfl,ru⟩:=xU r;cases ru;obtain⟨hz,its,n,rv,ho⟩:=(show ObjOk X.prog X.w H s.heap t (.lst ys)from I.hok t _ ht);have key:∀(ys:List V) (its:List Value) (ah:List (List Key×V)),Vals ys its->PairsIn H ys ah->∃ps:List (List Key×Addr×Value),KT H ah ps/\Paired (PairAt X.prog X.w s.heap) its ps:=by
  intro ys its ah rv hp;induction hp generalizing its with
  | nil=>cases rv;exact⟨[],.nil,.nil⟩
  | @cons y p ys ah h t ih=>
   cases rv with
   | cons r1 rt=>
    obtain⟨ps,k1,k2⟩:=ih _ rt;obtain⟨r,b,rfl,e1,e2⟩:=h;cases r1;obtain⟨_,il,rl,tp,_⟩:=(show ObjOk X.prog X.w H s.heap r (.tup [.ref b,p.2])from e1.ok I.hok);cases rl with
    | cons a1 a2=>cases a2 with
     | cons b1 b2=>
      cases b2;cases a1;rename_i vb;exact⟨(p.1,b,vb)::ps,.cons ⟨rfl,e2,b1⟩ k1,.cons ⟨r,rfl,tp,uE I.hok e2⟩ k2⟩
 obtain⟨ps,k1,k2⟩:=key ys its ah rv hp;have lz:ps.length=its.length:=(Paired.length k2).symm;have lz2:ah.length=ps.length:=Paired.length k1;have lz3:=rv.length;have hn2:(ps.map (·.1)).Nodup:=by
  have:ah.map (·.1)=ps.map (·.1):=KTkeys k1;rw[<-this];exact hn
 refine YT (ps:=ps) (I.ok.hd hc) hu ho rfl rfl rfl (λj=>?_) #[0] λh' tk' kk D=>?_
 ·have pr:∀(l:List Value) (m:List (List Key×Addr×Value)),Paired (PairAt X.prog X.w s.heap) l m->∀j:Nat,Option.Rel (PairAt X.prog X.w s.heap) l[j]? m[j]? :=by
   intro l m h;induction h with
   | nil=>intro j;exact .none
   | cons a b ih=>intro j;cases j with
    | zero=>exact .some a
    | succ j=>exact ih j
  simpa using pr its ps k2 j
 ·rw[JX ps [] (by simpa using hn2),List.nil_append]at D;obtain⟨ob,es,ep,g1,g2,g3,g4,_,g5⟩:=D;refine⟨.ref s.heap.objs.size,_,I.laid (a:=s.heap.objs.size) (o:=.dT ah) kk uU ⟨by omega,beq_eq_false_iff_ne.mpr (Ne.symm (nO I.big)),ps,(KT.keeps k1 λc ys e=>?_),ob,es,ep,g1,g2,g3,g4,g5⟩,rfl,q.at (I.hok.fresh uU)⟩;rw[jG (λz=>by rw[z,I.hok.fresh uU]at e;cases e)];exact e
end
end LwD
namespace LwK
open PySem PySem.Spec PyProof.Rows L2 LwQ LwV Lw
abbrev Tri:=Nat×Nat×Nat
def rwC(i j k:Nat):List Tri:=(List.range k).map λu=>(i,j,u)
def rwB(i j:Nat):List Tri:=(List.range j).flatMap λt=>rwC i t (17-i-t)
def rwA(i:Nat):List Tri:=(List.range i).flatMap λo=>rwB o (17-o)
def tri(x:Tri):List Int:=[(x.1:Int),(x.2.1:Int),(x.2.2:Int)]
theorem ED(i:Nat):rwA (i+1)=rwA i++rwB i (17-i):=by
 unfold rwA;rw[List.range_succ,List.flatMap_append];simp
theorem EC(i j:Nat):rwB i (j+1)=rwB i j++rwC i j (17-i-j):=by
 unfold rwB;rw[List.range_succ,List.flatMap_append];simp
theorem VL(i j k:Nat):rwC i j (k+1)=rwC i j k++[(i,j,k)]:=by
 unfold rwC;rw[List.range_succ,mM]
 rfl
def inc:List Nat->Bool
 | []=>true
 | [_]=>true
 | a::b::r=>Nat.blt a b&&inc (b::r)
theorem XY:∀{l:List Nat},inc l=true->l.Pairwise (· < ·)
 | [],_=>.nil
 | [a],_=>List.pairwise_singleton _ _
 | a::b::r,h=>by
  have h:(Nat.blt a b&&inc (b::r))=true:=h;rw[mI]at h;have ih:=XY h.2;have ab:a<b:=Nat.blt_eq.mp h.1;refine List.pairwise_cons.mpr ⟨λc hc=>?_,ih⟩;rcases mX.mp hc with rfl | hc
  ·exact ab
  ·exact Nat.lt_trans ab ((List.pairwise_cons.mp ih).1 c hc)
set_option maxRecDepth 100000 in
theorem rw_inc:inc ((rwA 17).map λx=>x.1*289+x.2.1*17+x.2.2)=true:=by decide +kernel
theorem rw_nd:((rwA 17).map tri).Nodup:=List.pairwise_map.mpr ((List.pairwise_map.mp (XY rw_inc)).imp fun {a b} h e=>by
 unfold tri at e;simp only[List.cons.injEq,and_true]at e;omega)
set_option maxRecDepth 100000 in
theorem ME:(rwA 17).length=969:=by decide +kernel
set_option maxRecDepth 100000 in
theorem rw_all:(rwA 17).all (λx=>decide (x.1+x.2.1+x.2.2<=16))=true:=by decide +kernel
def RowQ(H:Hp)(v:V)(x:Tri):Prop:=∃r b c,v=.ref r/\H r=some (.tup [.ref b,.ref c])/\H b=some (.tup ((tri x).map V.int))/\At2 H c (1+(x.2.2:Int)) (1+(x.1:Int))
theorem RowQ.kp{H H':Hp}{v:V}{x:Tri}(h:RowQ H v x)(k:Kp H H'):RowQ H' v x:=by
 obtain⟨r,b,c,e,h1,h2,h3⟩:=h;exact⟨r,b,c,e,k.tup _ _ h1,k.tup _ _ h2,k.tup _ _ h3⟩
def spRows:Sp:=λvs H Q _=>∃(n:Nat),vs=[.int n]/\1<=n/\n<=900/\∀(p:Addr) (xs:List V) (H':Hp),H p=none->Same H H'->H' p=some (.lst xs)->Paired (RowQ H') xs ((rwA 17).take n)->Q (.ref p) H'
structure RwP(H:Hp)(l:Addr)(L:List Tri)(H':Hp):Prop where
 s:Same H H'
 e:∃xs,H' l=some (.lst xs)/\Paired (RowQ H') xs L
inductive RwI(H:Hp)(l:Addr)(n:Nat)(i:Nat):L2.St->Hp->Prop where
 | mk {a b c:Option V} {H':Hp} (p:RwP H l (rwA i) H'):RwI H l n i [some (.int n),some (.ref l),a,b,c] H'
inductive RwJ(H:Hp)(l:Addr)(n i:Nat)(j:Nat):L2.St->Hp->Prop where
 | mk {b c:Option V} {H':Hp} (p:RwP H l (rwA i++rwB i j) H'):RwJ H l n i j [some (.int n),some (.ref l),some (.int (0+(i:Int))),b,c] H'
inductive RwK(H:Hp)(l:Addr)(n i j:Nat)(k:Nat):L2.St->Hp->Prop where
 | mk {c:Option V} {H':Hp} (p:RwP H l (rwA i++rwB i j++rwC i j k) H'):RwK H l n i j k [some (.int n),some (.ref l),some (.int (0+(i:Int))),some (.int (0+(j:Int))),c] H'
theorem VJ:∀i<17,∀j<17-i,∀k<17-i-j,(rwA i++rwB i j++rwC i j k).length<=969:=λi hi j hj k hk=>by
 have h1:(rwA i++rwB i (17-i)).length<=969:=by
  rw[<-ED,<-ME];have:∀a b,a<=b->(rwA a).length<=(rwA b).length:=λa b h=>by
   induction b with
   | zero=>rw[show a=0 by omega];exact nX _
   | succ b ih=>
    by_cases c:a=b+1
    ·rw[c];exact nX _
    ·rw[ED,List.length_append];have:=ih #[0];omega
  exact this _ _ #[0]
 have h2:(rwB i j++rwC i j (17-i-j)).length<=(rwB i (17-i)).length:=by
  rw[<-EC];have:∀a b,a<=b->(rwB i a).length<=(rwB i b).length:=λa b h=>by
   induction b with
   | zero=>rw[show a=0 by omega];exact nX _
   | succ b ih=>
    by_cases c:a=b+1
    ·rw[c];exact nX _
    ·rw[EC,List.length_append];have:=ih #[0];omega
  exact this _ _ #[0]
 have h3:(rwC i j k).length<=(rwC i j (17-i-j)).length:=by
  unfold rwC;rw[mL,mL,List.length_range,List.length_range];omega
 rw[List.length_append]at h1 h2 ⊢;rw[List.length_append];omega
variable{P:Program}{w:World}{K:tL}{mg:Str->Option Value}{base:Heap}{f fd:_}
theorem scRows:FnScope ["many","found","one","other","third"] ["many"] (jK IB):=scK (by decide +kernel)
theorem ok_rows(F:Fun K "_law_rows" "_law_rows" IB f fd)(T:Txt mg):FnOk P w K mg base CX0 1 f fd ["many"] spRows:=by
 refine F.ok scRows (λvs H Q E h=>?_) #[3]
 ·obtain⟨n,rfl,_⟩:=h
  rfl
 ·obtain⟨n,rfl,n1,n9,go⟩:=h;refine⟨_,jD (jL (i:=1) scRows.nd rfl (Or.inl rfl) (vL jC)) (jD (kU PassesOwn.never rfl (qV (by rfl) T.rng (jA jB jC)) (jJ (i:=2) scRows.nd rfl (Or.inl rfl)) (jF (kU PassesOwn.never rfl (qV (by rfl) T.rng (jA (jH xA jB (pv 2)) jC)) (jJ (i:=3) scRows.nd rfl (Or.inl rfl)) (jF (kU PassesOwn.never rfl (qV (by rfl) T.rng (jA (jH xA (jH xA jB (pv 2)) (pv 3)) jC)) (jJ (i:=4) scRows.nd rfl (Or.inl rfl)) (jF (xY (WB PySem.F.plainAttrs_list PySem.F.slot_list_append PySem.F.type_list_append yS (pv 1) (jA (jW (jA (jW (jA (pv 2) (jA (pv 3) (jA (pv 4) jC)))) (jA (jW (jA (jH kJ jB (pv 4)) (jA (jH kJ jB (pv 2)) jC))) jC))) jC))))))))) (jF (jO (vS zM (pv 1) xZ (vR (pv 0)))))), ?_⟩;try dsimp only[cxK]
  refine⟨uV,λl H1 nl s1 e1=>?_⟩;refine⟨_,rfl,by decide,by decide, ?_⟩;refine qW (RwI H l n) (.mk ⟨s1,[],e1,.nil⟩) (λi σ H2 hi h=>?_) (fun σ H2 h=>?_)
  ·obtain⟨p2⟩:=h;have hi:i<17:=by omega
   refine⟨_,rfl,_,_,rfl,rfl,_,rfl,by omega,by omega, ?_⟩;refine qW (RwJ H l n i) (.mk (by rw[show rwB i 0=[]from rfl,List.append_nil];exact p2)) (λj σ H3 hj h=>?_) (fun σ H3 h=>?_)
   ·obtain⟨p3⟩:=h;have hj:j<17-i:=by omega
    refine⟨_,rfl,_,_,rfl,rfl,_,rfl,_,_,rfl,rfl,_,rfl,by omega,by omega, ?_⟩;refine qW (RwK H l n i j) (.mk (by rw[show rwC i j 0=[]from rfl,List.append_nil];exact p3)) (λk σ H4 hk h=>?_) (fun σ H4 h=>?_)
    ·obtain⟨s4,xs,e4,pr⟩:=h;have hk:k<17-i-j:=by omega
     have lx:xs.length=_:=Paired.length pr;have lt:=VJ i hi j hj k hk;refine⟨_,rfl,.inl ⟨rfl,_,SqL.of e4⟩,_,rfl,_,rfl,_,rfl,(by show 3<=sizeLine;decide),λb H5 n5 s5 e5=>⟨_,rfl,_,_,rfl,rfl,_,rfl,_,_,rfl,rfl,uX,λc H6 n6 s6 e6=>⟨uX,λr H7 n7 s7 e7=>?_⟩⟩⟩;have s47:=s5.trans (s6.trans s7);have el:=s47 _ _ e4;refine⟨l,_,_,rfl,rfl,el,gU (show xs.length<=969 by omega) #[1], ?_⟩;have ku:∀o:HO,Kp H7 (upd H7 l o):=λo=>Kp.upd el trivial;refine .mk ⟨kD (s4.trans s47) nl,_,jE, ?_⟩;rw[VL,<-List.append_assoc];have ei:∀m:Nat,(0:Int)+(m:Int)=(m:Int):=λm=>by omega
     rw[ei,ei,ei]at e5;rw[ei,ei]at e6;exact Paired.app (Paired.to (λ_ _ h=>(RowQ.kp h (Kp.of s47)).kp (ku _)) pr) (.cons ⟨r,b,c,rfl,(ku _).tup _ _ e7,(ku _).tup _ _ ((s6.trans s7) _ _ e5),(ku _).tup _ _ (s7 _ _ e6)⟩ .nil)
    ·obtain⟨p4⟩:=h;refine .mk ?_;rw[EC,<-List.append_assoc];have:((17:Int)-(0+(i:Int))-(0+(j:Int))).toNat=17-i-j:=by omega
     rw[this]at p4;exact p4
   ·obtain⟨p3⟩:=h;refine .mk ?_;rw[ED];have:((17:Int)-(0+(i:Int))).toNat=17-i:=by omega
    rw[this]at p3;exact p3
  ·obtain⟨s2,xs,e2,pr⟩:=h;have pr:Paired (RowQ H2) xs (rwA 17):=pr;have lx:xs.length=969:=(Paired.length pr).trans ME;refine⟨_,rfl,_,rfl,_,rfl,l,xs,rfl,SqL.of e2,λp H3 n3 s3 e3=>go p (xs.take n) H3 (yW s2 n3) (s2.trans s3) ?_ ?_⟩
   ·have:vF xs none (some (n:Int))=xs.take n:=by
     unfold vF;rw[HT.sIx_nat,HT.sIx_none,Nat.min_eq_left #[0],List.drop_zero,Nat.sub_zero]
    rw[<-this];exact e3
   ·have:∀{xs:List V} {L:List Tri} (n:Nat),Paired (RowQ H3) xs L->Paired (RowQ H3) (xs.take n) (L.take n):=λn h=>by
     induction h generalizing n with
     | nil=>rw[List.take_nil,List.take_nil];exact .nil
     | cons a b ih=>cases n with
      | zero=>exact .nil
      | succ n=>exact .cons a (ih n)
    exact this n (Paired.to (λ_ _ h=>h.kp (Kp.of s3)) pr)
def JQ(K:tL):Sp:=λvs H Q _=>∃(p:Addr) (ad:Nat) (P:Pl),vs=[.ref p]/\SumQ K H p ad P/\PlOk ad P/\∀H',Same H H'->Q (.bl true) H'
inductive WpI(H:Hp)(p:Addr)(i:Nat):L2.St->Hp->Prop where
 | mk {a b c:Option V} {H':Hp} (s:Same H H'):WpI H p i [some (.ref p),a,b,c] H'
theorem all_int{ns:List Int}{t b:Int}{i:Nat}{x:V}(h:(ns.map V.int++[V.int t,V.int b])[i]? = some x):∃n:Int,x=.int n:=by
 have:ns.map V.int++[V.int t,V.int b]=(ns++[t,b]).map V.int:=by rw[mM];rfl
 rw[this,hU]at h;obtain⟨n,_,e⟩:=Option.map_eq_some_iff.mp h;exact⟨n,e.symm⟩
theorem scWp:FnScope ["made","powers","number","one"] ["made"] (jK BV):=scK (by decide +kernel)
theorem ok_wholeP(F:Fun K "_law_whole_parts" "_law_whole_parts" BV f fd)(T:Txt mg):FnOk P w K mg base CX0 1 f fd ["made"] (JQ K):=by
 refine F.ok scWp (λvs H Q E h=>?_) #[3]
 ·obtain⟨p,ad,PP,rfl,_⟩:=h
  rfl
 ·obtain⟨p,ad,PP,rfl,hP,ok,go⟩:=h;refine⟨_,jD (kU PassesOwn.never rfl (AU (jR jU (pv 0) jB (λ_ _=>rfl))) (qD rfl (jM (jJ (i:=1) scWp.nd rfl (Or.inl rfl)) (jM (jJ (i:=2) scWp.nd rfl (Or.inl rfl)) kP))) (jF (kU PassesOwn.never rfl (AU (jH AC (pv 1) (pv 2))) (jJ (i:=3) scWp.nd rfl (Or.inl rfl)) (jF (kT (PW.pt (JW (IG (yU (MP isi_int T.isi T.int boot_int (pv 3)))) (EF (yU (MP LA T.isi T.bool boot_bool (pv 3)))))) (jF (jO KC)) jV))))) (jF (jO (pe_not (MP LA T.isi T.bool boot_bool (jR jU (pv 0) jB (λ_ _=>rfl)))))), ?_⟩;try dsimp only[cxK]
  obtain⟨q,xs,e1,e2,pr⟩:=hP.ex;refine⟨_,rfl,p,_,_,_,rfl,rfl,SqT.of e1,rfl,q,rfl,⟨xs,SqT.of e2⟩, ?_⟩;refine CO (K:=K) (a:=q) (xs:=xs) (WpI H p) (.mk (Same.refl _)) (λi σ H2 _ h=>?_) (λi x σ H2 hx h=>?_) (fun σ H2 h=>?_)
  ·obtain⟨s2⟩:=h;exact SqT.of (s2 _ _ e2)
  ·obtain⟨s2⟩:=h;obtain⟨y,hy,r,b,c,rfl,r1,r2,r3⟩:=Paired.at pr hx;have ym:=gM hy;have ly:=ok.len y ym;have m4:=ok.m4;obtain⟨c',ec,hc⟩:=r3;cases ec;refine gT2 (SqT.of (s2 _ _ r1)) rfl ?_;refine⟨_,rfl,_,rfl,b,c,_,_,rfl,rfl,s2 _ _ r2,s2 _ _ hc, ?_,λt H3 s3 e3=>⟨t,rfl,⟨_,SqT.of e3⟩, ?_⟩⟩
   ·rw[mL,sizeLine_eq];show _+2<=_;omega
   have s23:=s2.trans s3;refine CO (K:=K) (a:=t) (xs:=y.1.map V.int++[V.int y.2.num,V.int y.2.den]) (WpI H3 p) (.mk (Same.refl _)) (λi σ H4 _ h=>?_) (λi x σ H4 hx h=>?_) (fun σ H4 h=>?_)
   ·obtain⟨s4⟩:=h;exact SqT.of (s4 _ _ e3)
   ·obtain⟨s4⟩:=h;obtain⟨n,rfl⟩:=all_int hx;dsimp only[jT];refine⟨_,rfl,rfl,_,.int n,_,rfl, ?_⟩;refine xB rfl ⟨_,rfl,rfl,_,.int n,_,rfl, ?_⟩;refine xB rfl ?_;exact .mk s4
   ·obtain⟨s4⟩:=h;exact .mk (s23.trans s4)
  ·obtain⟨s2⟩:=h;refine⟨_,rfl,p,_,_,_,rfl,rfl,SqT.of (s2 _ _ e1),rfl,rfl,_,.int ad,_,rfl,go H2 s2⟩
end LwK
namespace LwE
open PySem PySem.W PySem.Spec PyProof.Rows L2
section
variable{X:Cx}{k1 k2:Nat}{f1 f2:Addr}{fd1 fd2:FuncData}{ps1 ps2:List Str}{sp1 sp2:Sp}{q pos:Pos}{o i e:Expr}{es:List Expr}{tf:TE}{t:TA}
theorem run_x{k:Nat}{f:Addr}{fd:FuncData}{ps:List Str}{sp:Sp}(F:FnOk X.prog X.w X.K X.mg X.base (CXF X.prog X.w) k f fd ps sp)(hr:Room k X.A)(hb:Binds X.K fd ps []){ae:List (Addr×Obj)}{s1:Shared}{σ:L2.St}{H1:Hp}{Q:VK}{E:XK}{us:List Value}{vs:List V}
  (I1:Inv X ae σ H1 s1) (r:Vals vs us) (q:sp vs H1 Q E):wpAny #[2] X.A (call (.ref f) us) (EP X ae σ Q) (XP X ae σ E) s1:=by
 have hl:us.length=ps.length:=by rw[<-r.length];exact F.len _ _ _ _ q
 have z:=hb s1 us I1.kIn (by rw[List.append_nil];exact hl);rw[List.append_nil]at z;refine wpAny_call (codeAny_mono (F.run X.A X.stack s1 H1 ⟨us,[]⟩ us vs Q E hr I1.env0 z r q) λr s' hq=>?_);cases r with
 | error y=>exact⟨H1,s1,I1,hq⟩
 | ok fl=>
  cases fl with
  | ret u=>exact I1.after hq
  | next=>exact False.elim hq
  | brk=>exact False.elim hq
  | cont=>exact False.elim hq
theorem YM(hxe:X.xe=λ_ _=>False)(hf:PE X (.Subscript o i q) tf)(F1:FnOk X.prog X.w X.K X.mg X.base (CXF X.prog X.w) k1 f1 fd1 ps1 sp1)(F2:FnOk X.prog X.w X.K X.mg X.base (CXF X.prog X.w) k2 f2 fd2 ps2 sp2)(hr1:Room k1 X.A)(hr2:Room k2 X.A)
  (hk1:PySem.W.keepIn X.K (.ref f1)=true) (hk2:PySem.W.keepIn X.K (.ref f2)=true) (hb1:Binds X.K fd1 ps1 []) (hb2:Binds X.K fd2 ps2 []) (ha:PA X (e::es) t) {ae:List (Addr×Obj)} {s:Shared} {σ:L2.St} {H:Hp} {Q:VK} {E:XK} (I:Inv X ae σ H s) (h:Lw.LY f1 f2 sp1 sp2 E tf t σ H Q)
  (he:starEach (e::es) X.env=(false,eval e X.env)::starEach es X.env:=by rfl) (hpl:(backTo pos (starEach es X.env)).any (·.1)=false:=by rfl) :
  wpAny #[2] X.A (eval (.Call (.Subscript o i q) (e::es) [] pos) X.env) (EP X ae σ Q) (XP X ae σ E) s:=by
 rw[Lw.GZ];refine tF (tH (hf ae s σ H _ I h) (λu s1 ⟨v,H1,I1,r,q1⟩=>?_) λ_ _ z=>?_)
 ·rcases q1 with⟨rfl,q1⟩ | ⟨rfl,q1⟩
  ·cases r;refine PySem.W.callWith_K (h₀:=X.base) I1.ok.mod.kin hk1 (tH (ha pos ae s1 σ H1 _ I1 q1) (λus s2 ⟨vs,H2,I2,r2,q2⟩=>⟨I2.kIn,run_x F1 hr1 hb1 I2 r2 q2⟩) λ_ _ z=>?_) he hpl;rw[hxe]at z;exact z.elim
  ·cases r;refine PySem.W.callWith_K (h₀:=X.base) I1.ok.mod.kin hk2 (tH (ha pos ae s1 σ H1 _ I1 q1) (λus s2 ⟨vs,H2,I2,r2,q2⟩=>⟨I2.kIn,run_x F2 hr2 hb2 I2 r2 q2⟩) λ_ _ z=>?_) he hpl;rw[hxe]at z;exact z.elim
 ·rw[hxe]at z;exact z.elim
theorem pbx_set2{pos' pos2:Pos}{j:Nat}{y:Str}(hxe:X.xe=λ_ _=>False)(hN:X.N.Nodup)(hi:X.N[j]? = some y)(hy:X.env.scope.names.lookup y=some .local)(hf:PE X (.Subscript o i q) tf)(F1:FnOk X.prog X.w X.K X.mg X.base (CXF X.prog X.w) k1 f1 fd1 ps1 sp1)(F2:FnOk X.prog X.w X.K X.mg X.base (CXF X.prog X.w) k2 f2 fd2 ps2 sp2)
  (hr1:Room k1 X.A) (hr2:Room k2 X.A) (hk1:PySem.W.keepIn X.K (.ref f1)=true) (hk2:PySem.W.keepIn X.K (.ref f2)=true) (hb1:Binds X.K fd1 ps1 []) (hb2:Binds X.K fd2 ps2 []) (ha:PA X (e::es) t)
  (he:starEach (e::es) X.env=(false,eval e X.env)::starEach es X.env:=by rfl) (hpl:(backTo pos (starEach es X.env)).any (·.1)=false:=by rfl) (hs:swapsWith (.Call (.Subscript o i q) (e::es) [] pos) (some (.Name y pos2)) pos'.line X.env=pure false:=by rfl) :
  PBx X [.Assign [.Name y pos2] (.Call (.Subscript o i q) (e::es) [] pos) pos'] (λE=>yK (Lw.LY f1 f2 sp1 sp2 E tf t) (jT j)):=by
 intro ae s σ H D E I h;refine wpAny_execs_cons (wpAny_Assign_Name (tH (YM hxe hf F1 F2 hr1 hr2 hk1 hk2 hb1 hb2 ha I h he hpl) (λv s1 ⟨z,H1,I1,r1,q1⟩=>?_) λ_ _ z=>z) hs);exact yL I1 hN hi (Or.inl hy) r1 (λs2 I2=>wpAny_execs_nil ⟨_,H1,I2,q1⟩) (.inr hy)
def rIsE(K:Frag):List V->Hp->VK->Prop:=λxs H Q=>rIsXT K xs H Q∨∃(tp:Addr) (ys:List V) (cs:List Value) (b:Bool),xs=[.non,.ref tp]/\H tp=some (.tup ys)/\Paired VCls ys cs/\kitAny K (.type "NoneType") cs=some b/\Q (.bl b) H
theorem call_isE:CallR X (.builtin "isinstance") (rIsE X.K):=by
 intro ae s σ H xs us Q I r h;rcases h with h | h
 ·exact UB ae s σ H xs us Q I r h
 ·obtain⟨tp,ys,cs,b,rfl,ht,hy,hb,q⟩:=h;obtain⟨u1,u2,rfl,r1,r2⟩:=NQ r;cases r1;cases r2;obtain⟨_,its,rv,it,_⟩:=(show ObjOk X.prog X.w H s.heap tp (.tup ys)from I.hok tp _ ht);have e:=CV hy rv;subst e;obtain⟨o,h1,h2,n,h3⟩:=it;obtain⟨oc,od,odt,osl⟩:=o;cases h2;cases h3;exact kia_tup kitx_none I.kIn trivial h1 hb (λz=>nomatch z) λtk=>⟨.bl b,H,I.tok tk,rfl,q⟩
end
end LwE
namespace LwK
open PySem PySem.Spec PyProof.Rows L2 LwQ LwV Lw
def UD(way:Nat)(P1 P2:Pl)(ns:List Int):Rat:=if way=0 then cf P1 ns+cf P2 ns else tv (uC (jI P1) (jI P2)) (pk ns)
structure AskS(K:tL)(H:Hp)(p1 p2:Addr)(ad:Nat)(P1 P2:Pl):Prop where
 q1:SumQ K H p1 ad P1
 q2:SumQ K H p2 ad P2
 o1:PlOk ad P1
 o2:PlOk ad P2
 z1:∀x∈P1,SzR 7900 x.2
 z2:∀x∈P2,SzR 7900 x.2
theorem AskS.same{K:tL}{H H':Hp}{p1 p2:Addr}{ad:Nat}{P1 P2:Pl}(h:AskS K H p1 p2 ad P1 P2)(s:Same H H'):AskS K H' p1 p2 ad P1 P2:=⟨h.q1.same s,h.q2.same s,h.o1,h.o2,h.z1,h.z2⟩
def AskOk(way:Nat)(P1 P2:Pl):Prop:=(way=0/\Few (λk=>tv (jI P1) k+tv (jI P2) k))∨(way=1/\P1.length*P2.length<=3000/\Few (tv (uC (jI P1) (jI P2)))/\vH P1+vH P2<=16/\∃D1 D2,PlB P1 D1/\PlB P2 D2)
def AskNo(way:Nat)(P1 P2:Pl):Prop:=(way=0/\Many (λk=>tv (jI P1) k+tv (jI P2) k))∨(way=1/\(16<vH P1+vH P2∨P1.length*P2.length<=3000/\Many (tv (uC (jI P1) (jI P2)))/\∃D1 D2,PlB P1 D1/\PlB P2 D2))
def xW(K:tL):Sp:=λvs H Q _=>∃(way:Nat) (p1 p2:Addr) (ad:Nat) (P1 P2:Pl),vs=[.int way,.ref p1,.ref p2]/\AskS K H p1 p2 ad P1 P2/\
 ((AskOk way P1 P2/\∀(p:Addr) (P:Pl) (H':Hp),H p=none->Same H H'->SumQ K H' p ad P->PlOk ad P->(∀ns:List Int,ns.length=ad->Byt ns->cf P ns=UD way P1 P2 ns)->Q (.ref p) H')∨(AskNo way P1 P2/\∀H',Same H H'->Q (.str "great") H'))
structure ClsN(K:tL)(mg:Str->Option Value)(fI C D c1 c2 c3 c4 c5 c6 c7:Addr)(bl bd:List Value):Prop where
 c:Cls8 K mg fI C D c1 c2 c3 c4 c5 c6 c7 bl bd
 nn:PySem.W.kitAny K (.type "NoneType") [.ref c1,.ref c2,.ref c3,.ref c4,.ref c5,.ref c6,.ref c7]=some false
variable{P:Program}{w:World}{K:tL}{mg:Str->Option Value}{base:Heap}{f fd:_}
theorem scAsk:FnScope ["way","one","other","caught","found","e"] ["way","one","other"] (jK EA):=scK (by decide +kernel)
theorem ok_asked{fP fT fI C D c1 c2 c3 c4 c5 c6 c7:Addr}{fdP fdT:FuncData}{bl bd:List Value}(F:Fun K "_law_asked" "_law_asked" EA f fd)(T:Txt mg)(DP:Df K mg "plus" DZ ["one","other"] fP fdP)(P0:FnOk P w K mg base CX0 4 fP fdP ["one","other"] (OE K))(PX:FnOk P w K mg base (LwE.CXF P w) 5 fP fdP ["one","other"] (OD K C))
 (DT:Df K mg "times" DY ["one","other"] fT fdT) (T0:FnOk P w K mg base CX0 6 fT fdT ["one","other"] (OC K)) (TX:FnOk P w K mg base (LwE.CXF P w) 6 fT fdT ["one","other"] (JR K C)) (cN:ClsN K mg fI C D c1 c2 c3 c4 c5 c6 c7 bl bd):FnOk P w K mg base CX0 7 f fd ["way","one","other"] (xW K):=by
 have GP:=FnOk.both P0 PX (n:=6) #[1] #[1];have GT:=FnOk.both T0 TX (n:=6) #[1] #[1];have c:=cN.c;refine F.ok scAsk (λvs H Q E h=>?_) #[3]
 ·obtain⟨way,p1,p2,ad,P1,P2,rfl,_⟩:=h
  rfl
 ·obtain⟨way,p1,p2,ad,P1,P2,rfl,S0,go⟩:=h;refine⟨_,jD (jL (i:=3) scAsk.nd rfl (Or.inl rfl) IK) (jD (jL (i:=4) scAsk.nd rfl (Or.inl rfl) IK)
   (jD (LwE.ps_catch (j:=5) rfl rfl rfl rfl c.d rfl c.md scAsk.nd rfl rfl (LwE.pbx_set2 (j:=4) rfl scAsk.nd rfl rfl (jR kZ (vL (jA (kF (v:=.ref fP) rfl DP.m rfl) (jA (kF (v:=.ref fT) rfl DT.m rfl) jC))) (pv 0) (λ_ _=>rfl)) GP GT hr hr DP.F.kp DT.F.kp DP.b DT.b (jA (pv 1) (jA (pv 2) jC))) (λe=>jF (jL (i:=3) scAsk.nd rfl (Or.inl rfl) (pv 5))))
   (jD (kT (yU (kR LwE.call_isE (by rfl) T.isi boot_isinstance (jA (pv 3) (jA (jW (jA (kF (v:=.ref c1) rfl c.m1 rfl) (jA (kF (v:=.ref c2) rfl c.m2 rfl) (jA (kF (v:=.ref c3) rfl c.m3 rfl) (jA (kF (v:=.ref c4) rfl c.m4 rfl)
    (jA (kF (v:=.ref c5) rfl c.m5 rfl) (jA (kF (v:=.ref c6) rfl c.m6 rfl) (jA (kF (v:=.ref c7) rfl c.m7 rfl) jC)))))))) jC)))) (jF (jO IK)) jV)
   (jD (kT (VR (pc_isN (pv 3))) (jF (jO (pv 4))) jV)
   (jD (kT (PW.pt (VQ (yU (kR LwE.call_isX (by rfl) T.isi boot_isinstance (jA (pv 3) (jA (kF (v:=.ref C) rfl c.mq rfl) jC))))
    (OR (yU (kR LwE.call_isX (by rfl) T.isi boot_isinstance (jA (pv 3) (jA (OT (v:=.ty "ValueError") rfl T.verr PyProof.Rows.Boot.«ValueError» rfl) jC))))))) (jF (jO MO)) jV)
   (jF (jO IK))))))), ?_⟩
  try dsimp only[cxK]
  rcases go with⟨hs,go⟩ | ⟨hb,go⟩
  ·refine⟨λ_ _ _=>False,⟨uX,λl H1 n1 s1 e1=>?_⟩,λ_ _ h=>h.elim⟩;have S1:=S0.same s1;rcases hs with⟨rfl,fw⟩ | ⟨rfl,ll,fw,dg,D1,D2,b1,b2⟩
   ·refine⟨_,rfl,l,_,_,_,rfl,rfl,SqL.of e1,rfl,.inl ⟨rfl,_,rfl,_,rfl,.inl ⟨p1,p2,ad,P1,P2,rfl,S1.q1,S1.q2,S1.o1,S1.o2,fw,S1.z1,S1.z2,λp PP H2 n2 s2 SQ ok vl=>?_⟩⟩⟩;refine⟨_,rfl,(by show 7<=sizeLine;decide),λtp H3 n3 s3 e3=>?_⟩;refine .inr ⟨tp,_,_,false,rfl,e3,.cons rfl (.cons rfl (.cons rfl (.cons rfl (.cons rfl (.cons rfl (.cons rfl .nil)))))),cN.nn, ?_⟩;refine⟨_,rfl,XX ?_⟩;refine⟨_,rfl,_,rfl,AF (by rfl) ⟨_,rfl, ?_⟩⟩;exact go p PP H3 (yW s1 n2) (s1.trans (s2.trans s3)) (SQ.same s3) ok vl
   ·refine⟨_,rfl,l,_,_,_,rfl,rfl,SqL.of e1,rfl,.inr ⟨rfl,_,rfl,_,rfl,.inl ⟨p1,p2,ad,P1,P2,D1,D2,rfl,S1.q1,S1.q2,S1.o1,S1.o2,ll,fw,dg,b1,b2,λp PP H2 n2 s2 SQ ST=>?_⟩⟩⟩;refine⟨_,rfl,(by show 7<=sizeLine;decide),λtp H3 n3 s3 e3=>?_⟩;refine .inr ⟨tp,_,_,false,rfl,e3,.cons rfl (.cons rfl (.cons rfl (.cons rfl (.cons rfl (.cons rfl (.cons rfl .nil)))))),cN.nn, ?_⟩;refine⟨_,rfl,XX ?_⟩;refine⟨_,rfl,_,rfl,AF (by rfl) ⟨_,rfl, ?_⟩⟩;exact go p PP H3 (yW s1 n2) (s1.trans (s2.trans s3)) (SQ.same s3) ST.ok ST.vl
  ·refine⟨λx _ H'=>x=.ref C/\Same H H',⟨uX,λl H1 n1 s1 e1=>?_⟩, ?_⟩
   ·have S1:=S0.same s1;rcases hb with⟨rfl,mn⟩ | ⟨rfl,mn⟩
    ·exact⟨_,rfl,l,_,_,_,rfl,rfl,SqL.of e1,rfl,.inl ⟨rfl,_,rfl,_,rfl,.inr ⟨p1,p2,ad,P1,P2,rfl,S1.q1,S1.q2,S1.o1,S1.o2,mn,S1.z1,S1.z2,λH' s'=>⟨rfl,s1.trans s'⟩⟩⟩⟩
    ·exact⟨_,rfl,l,_,_,_,rfl,rfl,SqL.of e1,rfl,.inr ⟨rfl,_,rfl,_,rfl,.inr ⟨p1,p2,ad,P1,P2,rfl,S1.q1,S1.q2,S1.o1,S1.o2,mn,λH' s'=>⟨rfl,s1.trans s'⟩⟩⟩⟩
   rintro x H' ⟨rfl,s'⟩;refine⟨C,fI,bl,_,rfl,c.q,c.up,λe hn=>?_⟩;have s1:Same H' (upd H' e (LwE.excH e C)):=jY _ hn;have e1:(upd H' e (LwE.excH e C)) e=some (LwE.excH e C):=jE;generalize upd H' e (LwE.excH e C)=H1 at s1 e1;refine⟨_,rfl,_,rfl,(by show 7<=sizeLine;decide),λtp H3 n3 s3 e3=>?_⟩;refine .inl ⟨e,C,fI,tp,bl,_,_,_,false,rfl,s3 _ _ e1,c.q,e3,.cons rfl (.cons rfl (.cons rfl (.cons rfl (.cons rfl (.cons rfl (.cons rfl .nil)))))),c.no, ?_⟩;refine⟨_,rfl,XX ?_⟩;refine⟨_,rfl,_,rfl,xB (by rfl) ?_⟩;refine⟨_,rfl,e,C,fI,bl,_,_,_,true,rfl,s3 _ _ e1,c.q,rfl,(by unfold PySem.W.kitOne;simp),⟨_,rfl,iteT ?_⟩⟩;refine⟨_,rfl,e,C,fI,bl,_,_,_,true,rfl,s3 _ _ e1,c.q,rfl,c.ve,⟨_,rfl,iteT ?_⟩⟩;exact go H3 (s'.trans (s1.trans s3))
end LwK
namespace Lw
open PySem PySem.Spec PyProof.Rows L2 LwQ LwV
theorem WZ{α:Type}(f:α->Int):∀{l:List α},l≠[]->∃a∈l,∀b∈l,f b<=f a
 | [],h=>absurd rfl h
 | [a],_=>⟨a,gZ ..,λb hb=>by rw[gY.mp hb];exact tD _⟩
 | a::c::l,_=>by
  obtain⟨x,hx,h⟩:=WZ f (l:=c::l) (by simp);by_cases q:f x<=f a
  ·exact⟨a,gZ ..,λb hb=>by
    rcases mX.mp hb with rfl | hb
    ·exact tD _
    ·exact Int.le_trans (h b hb) q⟩
  ·exact⟨x,gN _ hx,λb hb=>by
    rcases mX.mp hb with rfl | hb
    ·omega
    ·exact h b hb⟩
def kap(x:List Int×Rat):Int:=x.1.sum*2^40+pk x.1
theorem PlOk.pkb{ad:Nat}{P:Pl}(o:PlOk ad P){x:List Int×Rat}(hx:x∈P):0<=pk x.1/\pk x.1<2^32:=by
 have h1:=VT (o.byt hx);have h2:=zW (o.byt hx) (by rw[o.len x hx];exact o.m4);exact⟨h1,by omega⟩
theorem PlOk.top{ad:Nat}{P:Pl}(o:PlOk ad P)(ne:P≠[]):∃a∈P,(∀b∈P,kap b<=kap a)/\a.1.sum=vH P:=by
 obtain⟨a,ha,h⟩:=WZ kap ne;refine⟨a,ha,h,YU (List.mem_map_of_mem (f:=λx:List Int×Rat=>x.1.sum) ha) (λy hy=>?_) ?_⟩
 ·obtain⟨b,hb,rfl⟩:=nP.mp hy;have p1:=o.pkb ha;have p2:=o.pkb hb;have:=h b hb;unfold kap at this;omega
 ·match hh:a.1 with
  | []=>exact tD _
  | n::r=>rw[<-hh];exact(vD (n:=n) (o.nn a ha) (by rw[hh];exact gZ ..)).2
end Lw
namespace LwK
open PySem PySem.Spec PyProof.Rows L2 LwQ LwV Lw
theorem RA{x:List Int×Rat}{m:List Int} :∀{Q:Pl},(∀y∈Q,kW x.1 y.1≠m)->cf (row x Q) m=0
 | [],_=>rfl
 | y::Q,h=>by
  show(if kW x.1 y.1=m then x.2*y.2 else 0)+cf (row x Q) m=0;rw[tJ (h y (gZ ..)),RA λz hz=>h z (gN _ hz),nQ]
theorem RB{x:List Int×Rat}{n:List Int}(hn:n.length=x.1.length):∀{Q:Pl},(∀y∈Q,y.1.length=x.1.length)->cf (row x Q) (kW x.1 n)=x.2*cf Q n
 | [],_=>by show(0:Rat)=x.2*0;rw[Rat.mul_zero]
 | y::Q,h=>by
  have ih:=RB (x:=x) hn λz hz=>h z (gN _ hz);have hy:=h y (gZ ..);show(if kW x.1 y.1=kW x.1 n then x.2*y.2 else 0)+cf (row x Q) (kW x.1 n)=x.2*((if y.1=n then y.2 else 0)+cf Q n);rw[ih];by_cases q:y.1=n
  ·rw[tK q,tK (by rw[q])];grind
  ·rw[tJ q,tJ λe=>q (zZ hy hn e)];grind
theorem CU{m:List Int}{Q:Pl} :∀{P:Pl},(∀x∈P,∀y∈Q,kW x.1 y.1≠m)->cf (mul P Q) m=0
 | [],_=>rfl
 | x::P,h=>by
  show cf (row x Q++mul P Q) m=0;rw[qE,RA (h x (gZ ..)),CU λz hz=>h z (gN _ hz),nQ]
theorem TW{m:List Int}{P Q:Pl}(h:cf (mul P Q) m≠0):∃x∈P,∃y∈Q,kW x.1 y.1=m:=by
 refine gA λz=>h (CU λx hx y hy e=>z ⟨x,hx,y,hy,e⟩)
theorem VS{ad:Nat}{P1 P2:Pl}(o1:PlOk ad P1)(o2:PlOk ad P2)(n1:P1≠[])(n2:P2≠[]):∃m,cf (mul P1 P2) m≠0/\m.sum=vH P1+vH P2:=by
 obtain⟨a,ha,ma,da⟩:=o1.top n1;obtain⟨b,hb,mb,db⟩:=o2.top n2;have la:=o1.len a ha;have lb:=o2.len b hb;have uq:∀x∈P1,x.1≠a.1->∀y∈P2,kW x.1 y.1≠kW a.1 b.1:=λx hx ne y hy e=>by
  have lx:=o1.len x hx;have ly:=o2.len y hy;have e1:pk x.1+pk y.1=pk a.1+pk b.1:=by
   rw[<-AT ad lx ly,<-AT ad la lb];exact congrArg pk e
  have e2:x.1.sum+y.1.sum=a.1.sum+b.1.sum:=by
   rw[<-vU #[0],<-vU #[0],e]
  have k1:=ma x hx;have k2:=mb y hy;have p1:=o1.pkb ha;have p2:=o2.pkb hb;have p3:=o1.pkb hx;have p4:=o2.pkb hy;unfold kap at k1 k2;exact ne (uA ad lx la (o1.byt hx) (o1.byt ha) #[0])
 refine⟨kW a.1 b.1, ?_,by rw[vU #[0],da,db]⟩;obtain⟨L,R,eP⟩:=List.append_of_mem ha;have nd:=o1.ndn;rw[eP,mM,mW]at nd;have nL:∀x∈L,x.1≠a.1:=λx hx e=>(mB.mp nd).2.2 _ (List.mem_map_of_mem hx) _ (gZ ..) e;have nR:∀x∈R,x.1≠a.1:=λx hx e=>(List.nodup_cons.mp (mB.mp nd).2.1).1 (e▸List.mem_map_of_mem (f:=λx:List Int×Rat=>x.1) hx);have c1:cf (mul P1 P2) (kW a.1 b.1)=a.2*b.2:=by
  rw[eP,IP,qE,CU λx hx=>uq x (by rw[eP];exact List.mem_append_left _ hx) (nL x hx)];show 0+cf (row a P2++mul R P2) _=_;rw[qE,CU λx hx=>uq x (by rw[eP];exact gJ _ (gN _ hx)) (nR x hx),RB #[0] (λy hy=>by rw[o2.len y hy,la]),FB o2.ndn hb]
  grind
 rw[c1];have h1:=o1.nz a ha;have h2:=o2.nz b hb;intro z;rcases Rat.mul_eq_zero.mp z with z | z
 ·exact h1 z
 ·exact h2 z
theorem JL(e1:Int×Rat)(k:Int):∀(T A:Tb),tv (T.foldl (AD e1) A) k=tv A k+(T.map λe2=>if e1.1+e2.1=k then e1.2*e2.2 else 0).sum
 | [],A=>by show tv A k=tv A k+0;rw[nQ]
 | e2::T,A=>by
  show tv (T.foldl (AD e1) (AD e1 A e2)) k=tv A k+((if e1.1+e2.1=k then e1.2*e2.2 else 0)+(T.map λe2=>if e1.1+e2.1=k then e1.2*e2.2 else 0).sum);rw[JL e1 k T];unfold AD;rw[LQ];by_cases q:e1.1+e2.1=k
  ·rw[tK q.symm,tK q,q];grind
  ·rw[tJ λz=>q z.symm,tJ q];grind
theorem JM(T2:Tb)(k:Int):∀(T A:Tb),tv (T.foldl (IQ T2) A) k=tv A k+(T.map λe1=>(T2.map λe2=>if e1.1+e2.1=k then e1.2*e2.2 else 0).sum).sum
 | [],A=>by show tv A k=tv A k+0;rw[nQ]
 | e1::T,A=>by
  show tv (T.foldl (IQ T2) (IQ T2 A e1)) k=tv A k+((T2.map λe2=>if e1.1+e2.1=k then e1.2*e2.2 else 0).sum+(T.map λe1=>(T2.map λe2=>if e1.1+e2.1=k then e1.2*e2.2 else 0).sum).sum);rw[JM T2 k T];unfold IQ;rw[JL]
  grind
theorem RE{ad:Nat}{P1 P2:Pl}(o1:PlOk ad P1)(o2:PlOk ad P2){x y:List Int×Rat}(hx:x∈P1)(hy:y∈P2):(kW x.1 y.1).length=ad/\Byt (kW x.1 y.1):=by
 have lx:=o1.len x hx;have ly:=o2.len y hy;refine⟨by unfold kW;rw[List.length_zipWith];omega,λn hn=>?_⟩;refine⟨uT (o1.nn x hx) (o2.nn y hy) n hn, ?_⟩;obtain⟨i,hi⟩:=gL.mp hn;unfold kW at hi;rw[List.getElem?_zipWith]at hi;split at hi
 ·rename_i u v h1 h2;cases hi;have:=(vD (o1.nn x hx) (gM h1)).1;have:=(vD (o2.nn y hy) (gM h2)).1;have:=o1.deg x hx;have:=o2.deg y hy;omega
 ·cases hi
theorem NS{ad:Nat}{P1 P2:Pl}(o1:PlOk ad P1)(o2:PlOk ad P2){ns:List Int}(hl:ns.length=ad)(hb:Byt ns):tv (uC (jI P1) (jI P2)) (pk ns)=cf (mul P1 P2) ns:=by
 have key:∀x∈P1,∀y∈P2,(pk x.1+pk y.1=pk ns↔kW x.1 y.1=ns):=λx hx y hy=>by
  have b:=RE o1 o2 hx hy;rw[<-AT ad (o1.len x hx) (o2.len y hy)];exact⟨λe=>uA ad b.1 hl b.2 hb e,λe=>congrArg pk e⟩
 have rw1:∀x∈P1,∀Q:Pl,(∀y∈Q,y∈P2)->((jI Q).map λe2=>if pk x.1+e2.1=pk ns then x.2*e2.2 else 0).sum=cf (row x Q) ns:=λx hx Q=>by
  induction Q with
  | nil=>exact λ_=>rfl
  | cons y Q ih=>
   intro h;have k:=key x hx y (h y (gZ ..));show(if pk x.1+pk y.1=pk ns then x.2*y.2 else 0)+((jI Q).map λe2=>if pk x.1+e2.1=pk ns then x.2*e2.2 else 0).sum=(if kW x.1 y.1=ns then x.2*y.2 else 0)+cf (row x Q) ns;rw[ih λz hz=>h z (gN _ hz)];by_cases q:kW x.1 y.1=ns
   ·rw[tK q,tK (k.mpr q)]
   ·rw[tJ q,tJ λz=>q (k.mp z)]
 have all:∀P:Pl,(∀x∈P,x∈P1)->((jI P).map λe1=>((jI P2).map λe2=>if e1.1+e2.1=pk ns then e1.2*e2.2 else 0).sum).sum=cf (mul P P2) ns:=λP=>by
  induction P with
  | nil=>exact λ_=>rfl
  | cons x P ih=>
   intro h;show((jI P2).map λe2=>if pk x.1+e2.1=pk ns then x.2*e2.2 else 0).sum+((jI P).map λe1=>((jI P2).map λe2=>if e1.1+e2.1=pk ns then e1.2*e2.2 else 0).sum).sum=cf (row x P2++mul P P2) ns;rw[qE,ih λz hz=>h z (gN _ hz),rw1 x (h x (gZ ..)) P2 λ_ h=>h]
 unfold uC;rw[JM,all P1 λ_ h=>h];show(0:Rat)+_=_;rw[Rat.zero_add]
theorem cf_mul1{P P':Pl}(h:P.Perm P')(Q:Pl)(m:List Int):cf (mul P Q) m=cf (mul P' Q) m:=by
 induction h with
 | nil=>rfl
 | @cons x P P' _ ih=>
  show cf (row x Q++mul P Q) m=cf (row x Q++mul P' Q) m;rw[qE,qE,ih]
 | swap x y l=>
  show cf (row y Q++(row x Q++mul l Q)) m=cf (row x Q++(row y Q++mul l Q)) m;rw[qE,qE,qE,qE];grind
 | trans _ _ a b=>rw[a,b]
theorem RC{Q Q':Pl}(h:Q.Perm Q')(m:List Int):∀P:Pl,cf (mul P Q) m=cf (mul P Q') m
 | []=>rfl
 | x::P=>by
  show cf (row x Q++mul P Q) m=cf (row x Q'++mul P Q') m;rw[qE,qE,RC h m P,zI (show(row x Q).Perm (row x Q')from h.map _)]
theorem xG{E E0:List Ent}(h:E0.Perm E):(pl E0).Perm (pl E):=h.map _
theorem ZI{way:Nat}{E F E0 F0:List Ent}(pE:E0.Perm E)(pF:F0.Perm F)(m:List Int):cfW way (pl E0) (pl F0) m=cfW way (pl E) (pl F) m:=by
 unfold cfW;rw[zI (xG pE),zI (xG pF),cf_mul1 (xG pE),RC (xG pF)]
section
variable{ad:Nat}{P:Pl}
theorem HQ(hP:∀x∈P,x.1.length=ad/\Byt x.1)(nd:(P.map (·.1)).Nodup){f:Int->Rat}(h1:∀ns:List Int,ns.length=ad->Byt ns->f (pk ns)=cf P ns)(h0:∀k,(∀ns:List Int,ns.length=ad->Byt ns->k≠pk ns)->f k=0)(k:Int):tv (jI P) k=f k:=by
 by_cases q:∃ns:List Int,ns.length=ad/\Byt ns/\k=pk ns
 ·obtain⟨ns,hl,hb,rfl⟩:=q;rw[CZ hP nd hl hb,h1 ns hl hb]
 ·rw[h0 k λns a b c=>q ⟨ns,a,b,c⟩];refine xL λhk=>?_;rw[qT]at hk;obtain⟨x,hx,rfl⟩:=nP.mp hk;exact q ⟨x.1,(hP x hx).1,(hP x hx).2,rfl⟩
theorem UU(hP:∀x∈P,x.1.length=ad/\Byt x.1)(nd:(P.map (·.1)).Nodup):((jI P).map (·.1)).Nodup:=by
 rw[qT];exact List.pairwise_map.mpr (List.Pairwise.imp_of_mem (fun {a b} ha hb h e=>h (uA ad (hP a ha).1 (hP b hb).1 (hP a ha).2 (hP b hb).2 e)) (List.pairwise_map.mp nd))
theorem QY(hP:∀x∈P,x.1.length=ad/\Byt x.1)(nd:(P.map (·.1)).Nodup)(nz:∀x∈P,x.2≠0):AY (jI P)=P.length:=by
 unfold AY;rw[List.filter_eq_self.mpr λk hk=>?_,qT,mL];rw[qT]at hk;obtain⟨x,hx,rfl⟩:=nP.mp hk;unfold nzb;rw[CZ hP nd (hP x hx).1 (hP x hx).2,FB nd hx];exact mP (nz x hx)
end
structure PlE(ad:Nat)(P:Pl):Prop where
 b:∀x∈P,x.1.length=ad/\Byt x.1
 nd:(P.map (·.1)).Nodup
 nz:∀x∈P,x.2≠0
theorem DB.ple{H:Hp}{ad:Nat}{z:Sz}{E:List Ent}(h:DB H ad z E)(hD:z.D<=200):PlE ad (pl E):=by
 refine⟨λx hx=>?_,by rw[OS];exact h.nd,λx hx=>?_⟩
 ·obtain⟨e,he,rfl⟩:=nP.mp hx;have k:=h.each e he;refine⟨k.len,λn hn=>⟨k.nn n hn, ?_⟩⟩;have:=(vD k.nn hn).1;have:=k.deg;omega
 ·obtain⟨e,he,rfl⟩:=nP.mp hx;have k:=h.each e he;have h1:(e.t:Rat)≠0:=by simpa using k.nz
  have h2:(e.b:Rat)≠0:=by simpa using (show e.b≠0 by have:=k.pos;omega)
  show(e.t:Rat)/(e.b:Rat)≠0
  grind
theorem PlE.few{ad:Nat}{P:Pl}{f:Int->Rat}(h:PlE ad P)(e:∀k,tv (jI P) k=f k)(l:P.length<=500):Few f:=Few.of (UU h.b h.nd) e (by rw[QY h.b h.nd h.nz];exact l)
theorem PlE.ad{ad:Nat}{P:Pl}{f:Int->Rat}(h:PlE ad P)(e:∀k,tv (jI P) k=f k)(l:500<P.length):Many f:=Many.of (UU h.b h.nd) e (by rw[QY h.b h.nd h.nz];exact l)
theorem BQ{ad:Nat}{P:Pl}(o:PlOk ad P){k:Int}(h:∀ns:List Int,ns.length=ad->Byt ns->k≠pk ns):tv (jI P) k=0:=xL λhk=>by
 rw[qT]at hk;obtain⟨x,hx,rfl⟩:=nP.mp hk;exact h x.1 (o.len x hx) (o.byt hx) rfl
theorem OA{ad:Nat}{P P1 P2:Pl}(h:PlE ad P)(o1:PlOk ad P1)(o2:PlOk ad P2)(c:∀m,cf P m=cf P1 m+cf P2 m)(k:Int):tv (jI P) k=tv (jI P1) k+tv (jI P2) k:=
 HQ (f:=λk=>tv (jI P1) k+tv (jI P2) k) h.b h.nd (λns hl hb=>by show tv _ _+tv _ _=_;rw[o1.tv hl hb,o2.tv hl hb,c]) (λk hk=>by show tv _ _+tv _ _=_;rw[BQ o1 hk,BQ o2 hk,nQ]) k
theorem KA{ad:Nat}{P P1 P2:Pl}(h:PlE ad P)(o1:PlOk ad P1)(o2:PlOk ad P2)(c:∀m,cf P m=cf (mul P1 P2) m)(k:Int):tv (jI P) k=tv (uC (jI P1) (jI P2)) k:=
 HQ (f:=tv (uC (jI P1) (jI P2))) h.b h.nd (λns hl hb=>by rw[NS o1 o2 hl hb,c]) (λk hk=>xL λhm=>by
  obtain⟨e1,h1,e2,h2,ek⟩:=(FU (jI P1) (jI P2)).ks k hm;obtain⟨x,hx,rfl⟩:=nP.mp h1;obtain⟨y,hy,rfl⟩:=nP.mp h2;have b:=RE o1 o2 hx hy;exact hk _ b.1 b.2 (ek.trans (AT ad (o1.len x hx) (o2.len y hy)).symm)) k
theorem AX{ad:Nat}{P:Pl}(o:PlOk ad P):vH P<=16:=by
 by_cases n:P=[]
 ·rw[n];decide
 ·obtain⟨a,ha,_,d⟩:=o.top n;rw[<-d];exact o.deg a ha
theorem XQ{P:Pl}{x:List Int×Rat}(hx:x∈P):x.1.sum<=vH P:=wD (List.mem_map_of_mem (f:=λz=>z.1.sum) hx)
section
variable{H:Hp}{way ad:Nat}{E F E' E0 F0:List Ent}
theorem Fnd.cc(fn:Fnd H way ad E F E')(pE:E0.Perm E)(pF:F0.Perm F)(m:List Int):cf (pl E') m=cfW way (pl E0) (pl F0) m:=by rw[fn.c,ZI pE pF]
theorem II(E:List Ent):(pl E).length=E.length:=mL ..
theorem ask_ok(w:way<=1)(fn:Fnd H way ad E F E')(t:tgE E'=false)(pE:E0.Perm E)(pF:F0.Perm F)(o1:PlOk ad (pl E0))(o2:PlOk ad (pl F0))(b:way=1->(pl E0).length*(pl F0).length<=3000/\∃D1 D2,PlB (pl E0) D1/\PlB (pl F0) D2):AskOk way (pl E0) (pl F0):=by
 obtain⟨z,db,hD⟩:=fn.db;have pe:=db.ple #[0];have cc:=fn.cc pE pF;have td:=US t;have l5:(pl E').length<=500:=by rw[II];exact td.1
 have hw:way=0∨way=1:=by omega
 rcases hw with rfl | rfl
 ·exact .inl ⟨rfl,pe.few (OA pe o1 o2 λm=>cc m) l5⟩
 ·obtain⟨b1,b2⟩:=b rfl;refine .inr ⟨rfl,b1,pe.few (KA pe o1 o2 λm=>cc m) l5, ?_,b2⟩;by_cases n1:pl E0=[]
  ·rw[n1];have:=AX o2;show vH []+_<=_;have:vH []=0:=rfl;omega
  by_cases n2:pl F0=[]
  ·rw[n2];have:=AX o1;have:vH []=0:=rfl;omega
  obtain⟨m,hm,sm⟩:=VS o1 o2 n1 n2;have:cf (pl E') m≠0:=by rw[cc];exact hm
  have:=RD this;rw[OS]at this;obtain⟨e,he,rfl⟩:=nP.mp this;have:=td.2 e he;omega
theorem ask_no(w:way<=1)(fn:Fnd H way ad E F E')(t:tgE E'=true)(pE:E0.Perm E)(pF:F0.Perm F)(o1:PlOk ad (pl E0))(o2:PlOk ad (pl F0))(b:way=1->(pl E0).length*(pl F0).length<=3000/\∃D1 D2,PlB (pl E0) D1/\PlB (pl F0) D2):AskNo way (pl E0) (pl F0):=by
 obtain⟨z,db,hD⟩:=fn.db;have pe:=db.ple #[0];have cc:=fn.cc pE pF;have big:(∀e∈E',e.ns.sum<=16)->500<(pl E').length:=λh=>by
  unfold tgE at t;rw[Bool.or_eq_true]at t;rcases t with t | t
  ·rw[II];exact hX t
  ·obtain⟨e,he,k⟩:=List.any_eq_true.mp t;have:=hX k;have:=h e he;omega
 have nz:∀e∈E',cf (pl E') e.ns≠0:=λe he=>by
  have c:cf (pl E') e.ns=e.pr.2:=FB pe.nd (x:=e.pr) (List.mem_map_of_mem he);rw[c];exact pe.nz e.pr (List.mem_map_of_mem he)
 have hw:way=0∨way=1:=by omega
 rcases hw with rfl | rfl
 ·refine .inl ⟨rfl,pe.ad (OA pe o1 o2 λm=>cc m) (big λe he=>?_)⟩;have h:=nz e he;rw[cc]at h;have h:cf (pl E0) e.ns+cf (pl F0) e.ns≠0:=h;by_cases q:cf (pl E0) e.ns=0
  ·have:cf (pl F0) e.ns≠0:=λz=>h (by rw[q,z,nQ]);obtain⟨x,hx,ex⟩:=nP.mp (RD this);rw[<-ex];exact o2.deg x hx
  ·obtain⟨x,hx,ex⟩:=nP.mp (RD q);rw[<-ex];exact o1.deg x hx
 ·obtain⟨b1,b2⟩:=b rfl;refine .inr ⟨rfl, ?_⟩;by_cases q:16<vH (pl E0)+vH (pl F0)
  ·exact .inl q
  refine .inr ⟨b1,pe.ad (KA pe o1 o2 λm=>cc m) (big λe he=>?_),b2⟩;have h:=nz e he;rw[cc]at h;obtain⟨x,hx,y,hy,exy⟩:=TW (show cf (mul (pl E0) (pl F0)) e.ns≠0 from h);rw[<-exy,vU (by rw[o1.len x hx,o2.len y hy])];have:=XQ hx;have:=XQ hy;omega
theorem ask_val(w:way<=1)(fn:Fnd H way ad E F E')(pE:E0.Perm E)(pF:F0.Perm F)(o1:PlOk ad (pl E0))(o2:PlOk ad (pl F0)){ns:List Int}(hl:ns.length=ad)(hb:Byt ns):UD way (pl E0) (pl F0) ns=cf (pl E') ns:=by
 rw[fn.cc pE pF];unfold UD cfW;have hw:way=0∨way=1:=by omega
 rcases hw with rfl | rfl
 ·rfl
 ·exact NS o1 o2 hl hb
theorem ask_eq(w:way<=1)(fn:Fnd H way ad E F E')(pE:E0.Perm E)(pF:F0.Perm F)(o1:PlOk ad (pl E0))(o2:PlOk ad (pl F0)){P:Pl}{G:List Ent}(oP:PlOk ad P)(vP:∀ns:List Int,ns.length=ad->Byt ns->cf P ns=UD way (pl E0) (pl F0) ns)(pG:G.Perm E')(oG:PlOk ad (pl G)):P=pl G:=
 CA oP oG λns hl hb=>by rw[vP ns hl hb,ask_val w fn pE pF o1 o2 hl hb,zI (xG pG)]
end
section
variable{H:Hp}{ad:Nat}{z:Sz}{E E0 E' G:List Ent}
theorem IZ{D v:Nat}{e:Ent}(k:EntOk H ad D v e):(e.pr.2.den:Int)∣e.b/\e.pr.2.num.natAbs<=e.t.natAbs:=QR k.pos (show(e.t:Rat)/(e.b:Rat)=fv e.t e.b from rfl)
theorem ent_szr{D v K:Nat}{e:Ent}(k:EntOk H ad D v e)(hk:e.k<=K)(h:v+K<7900):SzR 7900 e.pr.2:=by
 have q:=IZ k;have tb:=nN k.st (Nat.mul_le_mul_left _ k.sb);rw[<-Nat.pow_add]at tb;have l:e.pr.2.den<=e.b.natAbs:=by
  have:=Int.natAbs_dvd_natAbs.mpr q.1;rw[Int.natAbs_natCast]at this;exact Nat.le_of_dvd (by have:=k.pos;omega) this
 exact⟨gU (nN q.2 tb) (gP #[1] #[0]),gU (nN l k.sb) (gP #[1] #[0])⟩
theorem DB.szr(h:DB H ad z E)(pE:E0.Perm E){K:Nat}(kb:KB (λ_=>K) E)(hv:z.v+K<7900):∀x∈pl E0,SzR 7900 x.2:=λx hx=>by
 obtain⟨e,he,rfl⟩:=nP.mp hx;have he:=pE.mem_iff.mp he;exact ent_szr (h.each e he) (kb e he) hv
theorem DB.plb(h:DB H ad z E)(pE:E0.Perm E)(hS:z.S<1400)(hv:z.v+z.S<2400):PlB (pl E0) (pbE E0):=by
 have mE:∀{e:Ent},e∈E0->e∈E:=λhe=>pE.mem_iff.mp he;refine⟨OU λe he=>(h.each e (mE he)).pos, ?_,λx hx=>?_,λx hx=>?_⟩
 ·refine gU (WD λe he=>(h.each e (mE he)).sb) (gP #[1] ?_);have:(E0.map Ent.k).sum=(E.map Ent.k).sum:=(pE.map Ent.k).sum_nat;have:=h.sum;omega
 ·obtain⟨e,he,rfl⟩:=nP.mp hx;obtain⟨r,hr⟩:=OV he;exact Int.dvd_trans (IZ (h.each e (mE he))).1 ⟨r,hr⟩
 ·obtain⟨e,he,rfl⟩:=nP.mp hx;have k:=h.each e (mE he);have tb:=nN k.st (Nat.mul_le_mul_left _ k.sb);rw[<-Nat.pow_add]at tb;have:=h.k (mE he);exact gU (nN (IZ k).2 tb) (gP #[1] #[0])
theorem RS(pE:E0.Perm E)(pG:G.Perm E'){y:Rat}{P:Pl}(oP:PlOk ad P)(oG:PlOk ad (pl G))(vP:∀ns:List Int,ns.length=ad->Byt ns->cf P ns=cf (pl E0) ns*y)(c:∀m,cf (pl E') m=y*cf (pl E) m):P=pl G:=
 CA oP oG λns hl hb=>by rw[vP ns hl hb,zI (xG pG),c,zI (xG pE),Rat.mul_comm]
theorem ZX(P:Pl)(l:Nat):slT P l=jI (HZ P l):=by
 unfold slT HZ jI;rw[List.map_filterMap]
 congr 1
 funext x
 unfold slE sl1;by_cases q:0<x.1.getD l 0
 ·rw[tK q,tK q];rfl
 ·rw[tJ q,tJ q];rfl
theorem VB{l:Nat}(pE:E0.Perm E)(pG:G.Perm E'){P:Pl}(st:SumT ad (slT (pl E0) l) P)(oG:PlOk ad (pl G))(c:pl E'=HZ (pl E) l):P=pl G:=by
 have pp:(HZ (pl E0) l).Perm (pl G):=by
  refine List.Perm.trans ?_ (xG pG).symm;rw[c];exact(xG pE).filterMap _
 refine CA st.ok oG λns hl hb=>?_;rw[st.vl ns hl hb,ZX,CZ (λx hx=>?_) ?_ hl hb,zI pp]
 ·exact(List.Perm.nodup_iff (pp.map _)).mpr oG.ndn
 ·have hx:=pp.mem_iff.mp hx;exact⟨oG.len x hx,oG.byt hx⟩
end
theorem KD{α β:Type}{R:α->β->Prop}{xs:List α}{L:List β}(n:Nat)(h:Paired R xs L):Paired R (xs.take n) (L.take n):=by
 induction h generalizing n with
 | nil=>rw[List.take_nil,List.take_nil];exact .nil
 | cons a b ih=>cases n with
  | zero=>exact .nil
  | succ n=>exact .cons a (ih n)
theorem KE{α β:Type}{R:α->β->Prop}{xs:List α}{L:List β}(n:Nat)(h:Paired R xs L):Paired R (xs.drop n) (L.drop n):=by
 induction h generalizing n with
 | nil=>rw[List.drop_nil,List.drop_nil];exact .nil
 | cons a b ih=>cases n with
  | zero=>exact .cons a b
  | succ n=>exact ih n
structure RowsL(H:Hp)(xs:List V)(n:Nat):Prop where
 ex:∃L:List Tri,Paired (RowQ H) xs L/\(L.map tri).Nodup/\∀x∈L,x.1+x.2.1+x.2.2<=16
 ln:xs.length=n
theorem RowsL.kp{H H':Hp}{xs:List V}{n:Nat}(h:RowsL H xs n)(k:Kp H H'):RowsL H' xs n:=by
 obtain⟨L,p,a,b⟩:=h.ex;exact⟨⟨L,Paired.to (λ_ _ h=>h.kp k) p,a,b⟩,h.ln⟩
theorem RowsL.cut{H:Hp}{xs:List V}{n:Nat}(h:RowsL H xs n)(i j:Nat):RowsL H ((xs.drop i).take j) (min j (n-i)):=by
 obtain⟨L,p,a,b⟩:=h.ex;refine⟨⟨(L.drop i).take j,KD j (KE i p), ?_,λx hx=>b x (List.mem_of_mem_drop (gR hx))⟩,by rw[mD,List.length_drop,h.ln]⟩;rw[nA,List.map_drop];exact(a.sublist (List.drop_sublist ..)).sublist (List.take_sublist ..)
theorem RowsL.of{H:Hp}{xs:List V}{n:Nat}(p:Paired (RowQ H) xs ((rwA 17).take n))(hn:n<=900):RowsL H xs n:=by
 refine⟨⟨_,p, ?_,λx hx=>hX (List.all_eq_true.mp rw_all x (gR hx))⟩, ?_⟩
 ·rw[nA];exact rw_nd.sublist (List.take_sublist ..)
 ·rw[Paired.length p,mD,ME];omega
theorem RX{H:Hp}{xs:List V}{L:List Tri}(p:Paired (RowQ H) xs L):(∀x∈L,x.1+x.2.1+x.2.2<=16)->∃E:List Ent,LwD.PairsIn H xs (E.map Ent.kv)/\E.map Ent.ns=L.map tri/\(∀e∈E,EntOk H 3 16 5 e)/\E.map Ent.k=L.map λ_=>5:=by
 induction p with
 | nil=>exact λ_=>⟨[],.nil,rfl,(λe h=>nomatch h),rfl⟩
 | @cons v x xs L h t ih=>
  intro b;obtain⟨E,e1,e2,e3,e4⟩:=ih λy hy=>b y (gN _ hy);obtain⟨r,b0,c,rfl,h1,h2,h3⟩:=h;have hx:=b x (gZ ..);refine⟨⟨tri x,c,1+(x.2.2:Int),1+(x.1:Int),5⟩::E,.cons ⟨r,b0,rfl,.inl h1,by show H b0=some (.tup ((LwD.ik (tri x)).map kV));rw[LwD.yH];exact h2⟩ e1,by rw[mW,mW,e2],λe he=>?_,by rw[mW,mW,e4]⟩;rcases mX.mp he with rfl | he
  ·refine⟨rfl,λn hn=>?_, ?_,h3,by show 0<1+(x.1:Int);omega,by show 1+(x.2.2:Int)≠0;omega, ?_, ?_⟩
   ·have:n=(x.1:Int)∨n=(x.2.1:Int)∨n=(x.2.2:Int):=by simpa [tri]using hn
    omega
   ·show(tri x).sum<=((16:Nat):Int);have:(tri x).sum=(x.1:Int)+((x.2.1:Int)+((x.2.2:Int)+0)):=rfl;omega
   ·show(1+(x.1:Int)).natAbs<=32;omega
   ·show(1+(x.2.2:Int)).natAbs<=32*(1+(x.1:Int)).natAbs;omega
  ·exact e3 e he
theorem RowsL.ents{H:Hp}{xs:List V}{n:Nat}(h:RowsL H xs n):∃E:List Ent,LwD.PairsIn H xs (E.map Ent.kv)/\((E.map Ent.kv).map (·.1)).Nodup/\DB H 3 ⟨16,5,5*n,n⟩ E/\KB (λ_=>5) E:=by
 obtain⟨L,p,nd,b⟩:=h.ex;obtain⟨E,e1,e2,e3,e4⟩:=RX p b;have ll:L.length=n:=by rw[<-Paired.length p];exact h.ln
 have le:E.length=n:=by
  have:=congrArg List.length e2;rw[mL,mL]at this;omega
 have ndE:(E.map Ent.ns).Nodup:=by rw[e2];exact nd
 refine⟨E,e1, ?_,⟨ndE,e3, ?_,by rw[le];exact nX _⟩,λe he=>?_⟩
 ·rw[nT];exact List.pairwise_map.mpr ((List.pairwise_map.mp ndE).imp λh e=>h (EV e))
 ·rw[e4];have:∀l:List Tri,(l.map λ_=>5).sum=5*l.length:=λl=>by
   induction l with
   | nil=>rfl
   | cons a l ih=>rw[mW,mZ,ih,mH];omega
  show((L.map λ_=>5).sum:Nat)<=5*n;rw[this,ll];exact nX _
 ·have:e.k∈E.map Ent.k:=List.mem_map_of_mem he;rw[e4]at this;obtain⟨_,_,h⟩:=nP.mp this;show e.k<=5;omega
def trD(x:List Int×Rat):PyData:=.tuple [.tuple (x.1.map PyData.int),.tuple [.int x.2.num,.int x.2.den]]
def FE(ad:Nat)(P:Pl):PyData:=.tuple [.int ad,.tuple (P.map trD)]
theorem GE{H:Hp} :∀ns:List Int,DecVs H (ns.map V.int) (ns.map PyData.int)
 | []=>.nil
 | n::r=>.cons (.int n) (GE r)
theorem TmQ.dec{K:tL}{H:Hp}{v:V}{x:List Int×Rat}(h:TmQ K H v x):DecV H v (trD x):=by
 obtain⟨r,b,c,rfl,e1,e2,c',ec,e3⟩:=h;cases ec;exact .tup e1 (.cons (.tup e2 (GE _)) (.cons (.tup e3 (.cons (.int _) (.cons (.int _) .nil))) .nil))
theorem QT{K:tL}{H:Hp} :∀{xs:List V} {P:Pl},Paired (TmQ K H) xs P->DecVs H xs (P.map trD)
 | _,_,.nil=>.nil
 | _,_,.cons h t=>.cons (TmQ.dec h) (QT t)
theorem SumQ.dec{K:tL}{H:Hp}{p:Addr}{ad:Nat}{P:Pl}(h:SumQ K H p ad P):DecV H (.ref p) (FE ad P):=by
 obtain⟨q,xs,e1,e2,e3⟩:=h.ex;exact .tup e1 (.cons (.int _) (.cons (.tup e2 (QT e3)) .nil))
theorem FX:∀ns:List Int,PyData.canLayAll0 (ns.map PyData.int)=true/\PyData.depthAll (ns.map PyData.int)<=5
 | []=>⟨by simp [PyData.canLayAll0],by simp [PyData.depthAll]⟩
 | n::r=>by
  have:=FX r;exact⟨by simp [PyData.canLayAll0,PyData.canLay0,this.1],by simp [PyData.depthAll,PyData.depth];omega⟩
theorem QC:∀P:Pl,PyData.canLayAll0 (P.map trD)=true/\PyData.depthAll (P.map trD)<=20
 | []=>⟨by simp [PyData.canLayAll0],by simp [PyData.depthAll]⟩
 | x::r=>by
  have h1:=QC r;have h2:=FX x.1;exact⟨by simp [PyData.canLayAll0,PyData.canLay0,trD,h1.1,h2.1],by simp [PyData.depthAll,PyData.depth,trD];omega⟩
theorem zL(ad:Nat)(P:Pl):DataOk (FE ad P):=by
 have h1:=QC P;exact⟨by simp [PyData.canLayAll0,PyData.canLay0,FE,h1.1],by simp [PyData.depthAll,PyData.depth,FE];omega⟩
theorem great_ok:DataOk (.str "great"):=⟨by decide +kernel,by decide +kernel⟩
theorem DH(ad:Nat)(P:Pl):PyData.eqv (FE ad P) (FE ad P)=true:=SeqAt.eqv_refl _ (zL _ _).1
theorem NE:PyData.eqv (.str "great") (.str "great")=true:=SeqAt.eqv_refl _ great_ok.1
theorem JP(ad:Nat)(P:Pl)(x:Str):PyData.eqv (FE ad P) (.str x)=false:=by
 simp [PyData.eqv,FE]
def LP(A:Tb)(e:Int×Rat):Tb:=xM A e.1 (tv A e.1+e.2)
theorem JN(k:Int):∀(T A:Tb),(T.map (·.1)).Nodup->tv (T.foldl LP A) k=tv A k+tv T k
 | [],A,_=>by show tv A k=tv A k+0;rw[nQ]
 | e::T,A,nd=>by
  obtain⟨ne,nd⟩:=List.nodup_cons.mp nd;show tv (T.foldl LP (LP A e)) k=_;rw[JN k T _ nd,kX];unfold LP;rw[LQ];by_cases q:e.1=k
  ·rw[tK q.symm,tK q,<-q,xL ne,nQ]
  ·rw[tJ λz=>q z.symm,tJ q]
theorem KL:∀(T A:Tb),(A.map (·.1)).Nodup->((T.foldl LP A).map (·.1)).Nodup
 | [],_,h=>h
 | _::T,_,h=>KL T _ (yQ h)
section
variable{ad way:Nat}{P1 P2:Pl}
theorem UZ(o1:PlOk ad P1)(o2:PlOk ad P2):∃T:Tb,(T.map (·.1)).Nodup/\∀k,tv T k=tv (jI P1) k+tv (jI P2) k:=
 ⟨_,KL (jI P2) (jI P1) o1.nd,λk=>JN k _ _ o2.nd⟩
theorem LH{f:Int->Rat}{T:Tb}(nd:(T.map (·.1)).Nodup)(e:∀k,tv T k=f k):Few f∨Many f:=by
 by_cases q:AY T<=500
 ·exact .inl (Few.of nd e q)
 ·exact .inr (Many.of nd e #[0])
theorem QL{f:Int->Rat}{T:Tb}(nd:(T.map (·.1)).Nodup)(e:∀k,tv T k=f k)(h1:Few f)(h2:Many f):False:=by
 have:=h1 T nd e;have:=h2 T nd e;omega
theorem UC(w:way<=1)(o1:PlOk ad P1)(o2:PlOk ad P2)(b:way=1->P1.length*P2.length<=3000/\∃D1 D2,PlB P1 D1/\PlB P2 D2):AskOk way P1 P2∨AskNo way P1 P2:=by
 have hw:way=0∨way=1:=by omega
 rcases hw with rfl | rfl
 ·obtain⟨T,nd,e⟩:=UZ o1 o2;exact(LH nd e).elim (λh=>.inl (.inl ⟨rfl,h⟩)) λh=>.inr (.inl ⟨rfl,h⟩)
 ·obtain⟨b1,b2⟩:=b rfl;by_cases q:vH P1+vH P2<=16
  ·exact(LH (FU (jI P1) (jI P2)).nd λ_=>rfl).elim (λh=>.inl (.inr ⟨rfl,b1,h,q,b2⟩)) λh=>.inr (.inr ⟨rfl,.inr ⟨b1,h,b2⟩⟩)
  ·exact .inr (.inr ⟨rfl,.inl #[0]⟩)
theorem RG(o1:PlOk ad P1)(o2:PlOk ad P2)(h:AskOk way P1 P2)(k:AskNo way P1 P2):False:=by
 rcases h with⟨rfl,h⟩ | ⟨rfl,h1,h2,h3,h4⟩
 ·rcases k with⟨_,k⟩ | ⟨z,_⟩
  ·obtain⟨T,nd,e⟩:=UZ o1 o2;exact QL nd e h k
  ·cases z
 ·rcases k with⟨z,_⟩ | ⟨_,k | ⟨_,k,_⟩⟩
  ·cases z
  ·omega
  ·exact QL (FU (jI P1) (jI P2)).nd (λ_=>rfl) h2 k
end
inductive AnsO(K:tL)(H:Hp)(ad way:Nat)(P1 P2:Pl):V->PyData->Prop where
 | great (h:AskNo way P1 P2):AnsO K H ad way P1 P2 (.str "great") (.str "great")
 | sum {p:Addr} {P:Pl} (h:AskOk way P1 P2) (q:SumQ K H p ad P) (o:PlOk ad P) (v:∀ns:List Int,ns.length=ad->Byt ns->cf P ns=UD way P1 P2 ns):AnsO K H ad way P1 P2 (.ref p) (FE ad P)
theorem AnsO.same{K:tL}{H H':Hp}{ad way:Nat}{P1 P2:Pl}{v:V}{da:PyData}(h:AnsO K H ad way P1 P2 v da)(s:Same H H'):AnsO K H' ad way P1 P2 v da:=by
 cases h with
 | great h=>exact .great h
 | sum h q o v=>exact .sum h (q.same s) o v
theorem AnsO.dec{K:tL}{H:Hp}{ad way:Nat}{P1 P2:Pl}{v:V}{da:PyData}(h:AnsO K H ad way P1 P2 v da):DecV H v da/\DataOk da:=by
 cases h with
 | great h=>exact⟨.str _,great_ok⟩
 | sum h q o v=>exact⟨SumQ.dec q,zL _ _⟩
theorem AZ{K:tL}{H:Hp}{way ad:Nat}{p1 p2:Addr}{P1 P2:Pl}{Q:VK}{X:XK}(w:way<=1)(h:AskS K H p1 p2 ad P1 P2)(b:way=1->P1.length*P2.length<=3000/\∃D1 D2,PlB P1 D1/\PlB P2 D2)
  (go:∀(v:V) (da:PyData) (H':Hp),Same H H'->AnsO K H' ad way P1 P2 v da->Q v H'):xW K [.int way,.ref p1,.ref p2] H Q X:=by
 refine⟨way,p1,p2,ad,P1,P2,rfl,h, ?_⟩;rcases UC w h.o1 h.o2 b with k | k
 ·exact .inl ⟨k,λp P H' _ s q o v=>go _ _ H' s (.sum k q o v)⟩
 ·exact .inr ⟨k,λH' s=>go _ _ H' s (.great k)⟩
theorem QP{K:tL}{H:Hp}{way ad:Nat}{d1 d2:Addr}{z y:Sz}{E F E0 F0:List Ent}{v:V}{da:PyData}{Q:VK}{X:XK}(T:Two H way ad d1 d2 z y E F)(pE:E0.Perm E)(pF:F0.Perm F)(o1:PlOk ad (pl E0))(o2:PlOk ad (pl F0))
  (b:way=1->(pl E0).length*(pl F0).length<=3000/\∃D1 D2,PlB (pl E0) D1/\PlB (pl F0) D2) (a:AnsO K H ad way (pl E0) (pl F0) v da) (go:∀(u:V) (H':Hp),Same H H'->DecV H' u da->Q u H'):DU K [.int way,.int ad,.ref d1,.ref d2] H Q X:=by
 refine⟨way,ad,d1,d2,z,y,E,F,rfl,T,λE' H' s fn t=>?_,λE' G p H' s n fn t pG q o=>?_⟩
 ·have k:=ask_no T.w fn t pE pF o1 o2 b;cases a with
  | great h=>exact go _ H' s (.str _)
  | sum h q o v=>exact(RG o1 o2 h k).elim
 ·have k:=ask_ok T.w fn t pE pF o1 o2 b;cases a with
  | great h=>exact(RG o1 o2 k h).elim
  | sum h qP oP vP=>
   have e:=ask_eq T.w fn pE pF o1 o2 oP vP pG o;exact go _ H' s (by rw[e];exact SumQ.dec q)
structure Fin2(H:Hp)(way ad:Nat)(d1 d2:Addr)(z y:Sz)(E F:List Ent):Prop where
 t:Two H way ad d1 d2 z y E F
 v1:z.v+z.S<7900
 v2:y.v+y.S<7900
 l1:E.length<=500
 l2:F.length<=500
 b:way=1->z.S<1400/\z.v+z.S<2400/\y.S<1400/\y.v+y.S<2400
theorem Fin2.two{H:Hp}{way ad:Nat}{d1 d2:Addr}{z y:Sz}{E F E0 F0:List Ent}(h:Fin2 H way ad d1 d2 z y E F)(pE:E0.Perm E)(pF:F0.Perm F):way=1->(pl E0).length*(pl F0).length<=3000/\∃D1 D2,PlB (pl E0) D1/\PlB (pl F0) D2:=λw=>by
 obtain⟨a,b,c,d⟩:=h.b w;refine⟨?_,_,_,h.t.h1.db.plb pE a b,h.t.h2.db.plb pF c d⟩;rw[II,II,pE.length_eq,pF.length_eq];exact nN (mS h.t.h1.db.few h.t.h2.db.few) (h.t.p w).2
abbrev tRight(K:tL)(X1 X2 X3 X4:XK)(w n:Int)(i j:Nat):TE:=tOp rEqD (DE (xW K) [] X1 (qO (tC (.int w)) (qO (DE (AS K) [] X2 (qO (tC (.int n)) (qO (kH i) tNil))) (qO (DE (AS K) [] X3 (qO (tC (.int n)) (qO (kH j) tNil))) tNil)))) (DE (DU K) [] X4 (qO (tC (.int w)) (qO (tC (.int n)) (qO (kH i) (qO (kH j) tNil)))))
theorem YZ{K:tL}{X1 X2 X3 X4:XK}{way ad i j:Nat}{σ:L2.St}{H:Hp}{d1 d2:Addr}{z y:Sz}{E F:List Ent}{Q:VK}(e1:σ[i]? = some (some (.ref d1)))(e2:σ[j]? = some (some (.ref d2)))(h:Fin2 H way ad d1 d2 z y E F)
  (q:∀H',Same H H'->Q (.bl true) H'):tRight K X1 X2 X3 X4 way ad i j σ H Q:=by
 have T:=h.t;have S1:=T.S1;have S2:=T.S2;have D2:=T.yD;have D1:=T.D;refine⟨_,e1,d1,ad,z,E,rfl,T.h1.rd,T.h1.db,T.m1,T.m4,h.l1,T.h1.db.kb.up λm=>by show z.S<=7900;omega,T.D,λp1 E0 H1 n1 s1 pE sq1 ok1=>?_⟩;refine⟨_,e2,d2,ad,y,F,rfl,(T.same s1).h2.rd,(T.same s1).h2.db,T.m1,T.m4,h.l2,T.h2.db.kb.up λm=>by show y.S<=7900;omega,by omega,λp2 F0 H2 n2 s2 pF sq2 ok2=>?_⟩;have b:=h.two pE pF;dsimp only[tNil];show xW K [.int way,.ref p1,.ref p2] H2 _ _;refine AZ T.w ⟨sq1.same s2,sq2,ok1,ok2,T.h1.db.szr pE T.h1.db.kb h.v1,T.h2.db.szr pF T.h2.db.kb h.v2⟩ b λv da H3 s3 a=>?_;have s13:=s1.trans (s2.trans s3);refine⟨_,e1,_,e2, ?_⟩;dsimp only[tNil];show DU K [.int way,.int ad,.ref d1,.ref d2] H3 _ _;refine QP (T.same s13) pE pF ok1 ok2 b a λu H4 s4 du=>?_;have a4:=(a.same s4).dec;refine⟨da,da,a4.1,du,a4.2,a4.2, ?_⟩;rw[SeqAt.eqv_refl _ a4.2.1];exact q H4 (s13.trans s4)
abbrev zH:Sz:=⟨8,30,100,50⟩
abbrev zR:Sz:=⟨16,60,2600,500⟩
theorem BO{H H':Hp}{p:Addr}{ad:Nat}{z:Sz}{E:List Ent}(n:H p=none)(s:Same H H')(e:H' p=some (.dT (E.map Ent.kv)))(db:DB H' ad z E)(o:Obj):Same H (upd H' p (.frz o (.dT (E.map Ent.kv))))/\FQ (upd H' p (.frz o (.dT (E.map Ent.kv)))) p ad z E:=
 ⟨kD s n,⟨⟨o,jE⟩,db.kp (Kp.upd e trivial)⟩⟩
theorem FQ.up{H:Hp}{d:Addr}{ad:Nat}{z z':Sz}{E:List Ent}(h:FQ H d ad z E)(hD:z.D<=z'.D)(hv:z.v<=z'.v)(hS:z.S<=z'.S)(hn:z.n<=z'.n):FQ H d ad z' E:=⟨h.fr,h.db.up hD hv hS hn⟩
inductive GtI(H0:Hp)(tp:Addr)(way:Int)(ad:Nat)(z:Sz):L2.St->Hp->Prop where
 | mk {u v:Option V} {H':Hp} {d1 d2:Addr} {E F:List Ent} (b:But tp H0 H') (f1:FQ H' d1 ad z E) (f2:FQ H' d2 ad z F):GtI H0 tp way ad z [some (.ref tp),some (.int way),some (.ref d1),some (.ref d2),u,v] H'
theorem zH_fin{H:Hp}{d1 d2:Addr}{E F:List Ent}(f1:FQ H d1 4 zH E)(f2:FQ H d2 4 zH F):Fin2 H 1 4 d1 d2 zH zH E F:=⟨⟨f1,f2,by decide,by decide,by decide,by decide,by decide,by decide,by decide,by decide,by decide,by decide,λ_=>⟨by decide,by decide⟩⟩,by decide,by decide,nN f1.db.few #[1],nN f2.db.few #[1],λ_=>⟨by decide,by decide,by decide,by decide⟩⟩
theorem zR_fin{H:Hp}{d1 d2:Addr}{E F:List Ent}(f1:FQ H d1 3 zR E)(f2:FQ H d2 3 zR F):Fin2 H 0 3 d1 d2 zR zR E F:=⟨⟨f1,f2,by decide,by decide,by decide,by decide,by decide,by decide,by decide,by decide,by decide,by decide,λz=>nomatch z⟩,by decide,by decide,f1.db.few,f2.db.few,λz=>nomatch z⟩
theorem IY{H:Hp}{d:Addr}{m M:Nat}{E:List Ent}(h:FQ H d 3 ⟨16,5,5*m,m⟩ E)(l:m<=M):FQ H d 3 ⟨16,5,5*M,M⟩ E:=h.up uU uU (Nat.mul_le_mul_left _ l) l
theorem RowsL.sub{H:Hp}{xs:List V}{n:Nat}(h:RowsL H xs n)(lo hi:Option Int):RowsL H (vF xs lo hi) (vF xs lo hi).length:=⟨(h.cut _ _).ex,rfl⟩
theorem ZD{xs:List V}{k:Nat} :(vF xs none (some (k:Int))).length=min k xs.length:=by
 unfold vF;rw[HT.sIx_nat,HT.sIx_none,mD,List.length_drop];omega
theorem ZC{xs:List V}{k:Nat} :(vF xs (some (k:Int)) none).length=xs.length-k:=by
 unfold vF;rw[HT.sIx_nat,HT.sIx_none,mD,List.length_drop];omega
theorem ZB{xs:List V}(j k:Nat):(vF xs (some (j:Int)) (some (k:Int))).length<=k-j:=by
 unfold vF;rw[HT.sIx_nat,HT.sIx_nat,mD,List.length_drop];omega
def spGreat:Sp:=λvs H Q _=>∃(tp:Addr) (B:Int),vs=[.ref tp]/\∃cl,Tape cl H tp B/\B<2^31/\∀H',But tp H H'->Q (.bl true) H'
variable{P:Program}{w:World}{K:tL}{mg:Str->Option Value}{base:Heap}{f fd:_}
theorem scGreat:FnScope ["tape","way","one","other","rows","cut"] ["tape"] (jK ID):=scK (by decide +kernel)
theorem ok_great(F:Fun K "_law_great_right" "_law_great_right" ID f fd)(T:Txt mg)(GW:DG P w K mg base 1 "_law_draw" BC ["tape","many"] spDraw)
 (GG:DG P w K mg base 1 "_law_grid" ON ["first","second","many"] spGrid) (GC:DG P w K mg base 2 "_law_scaled" zQ ["one","number"] (LwK.spScaled K))
 (GA:DG P w K mg base 3 "_law_added" EB ["one","other"] spAdded) (GS:DG P w K mg base 2 "_law_sum" FN ["many","one"] (AS K))
 (GQ:DG P w K mg base 7 "_law_asked" EA ["way","one","other"] (xW K)) (GD:DG P w K mg base 4 "_law_due" VH ["way","many","one","other"] (DU K))
 (GR:DG P w K mg base 1 "_law_rows" IB ["many"] spRows):FnOk P w K mg base CX0 8 f fd ["tape"] spGreat:=by
 refine F.ok scGreat (λvs H Q E h=>?_) #[3]
 ·obtain⟨tp,B,rfl,_⟩:=h
  rfl
 ·obtain⟨tp,B,rfl,cl,hT,hB,go⟩:=h;have hr1:Room 1 _:=hr.mono #[1];have hr2:Room 2 _:=hr.mono #[1];have hr3:Room 3 _:=hr.mono #[1];have hr4:Room 4 _:=hr.mono #[1];have hr7:Room 7 _:=hr;have hu64:_+64<cLine:=hr.units;have hu2:_+2<cLine:=gU (Nat.add_le_add_left (by decide:2<=64) _) hr.units;refine⟨_,jD (jL (i:=1) scGreat.nd rfl (Or.inl rfl) (cal GW hr1 (jA (pv 0) (jA jB jC)))) (jD (kT (jS FS (pv 1) jB (jZ _)) (jD (jL (i:=2) scGreat.nd rfl (Or.inl rfl) (LwD.vN (cal GG hr1 (jA jB (jA jB (jA jB jC)))))) (jD (jL (i:=3) scGreat.nd rfl (Or.inl rfl) (LwD.vN (cal GG hr1 (jA (jH vA (pv 1) jB) (jA (jH kJ jB (jH vA (pv 1) jB)) (jA (jH kJ jB (cal GW hr1 (jA (pv 0) (jA jB jC)))) jC)))))) (jD (kT (jS KF (pv 1) jB (jZ _)) (jD (jL (i:=3) scGreat.nd rfl (Or.inl rfl) (LwD.vN (cal GA hr3 (jA (pv 2) (jA (LwD.vN (cal GC hr2 (jA (LwD.vN (cal GG hr1 (jA jB (jA jB (jA jB jC))))) (jA (jW (jA (FR AQ jB) (jA jB jC))) jC)))) jC))))) (jF (jL (i:=2) scGreat.nd rfl (Or.inl rfl) (LwD.vN (cal GA hr3 (jA (pv 2) (jA (LwD.vN (cal GG hr1 (jA jB (jA jB (jA jB jC))))) jC))))))) jV) (jF (jO (uS (WG hu64) (cal GQ hr7 (jA jB (jA (cal GS hr2 (jA jB (jA (pv 2) jC))) (jA (cal GS hr2 (jA jB (jA (pv 3) jC))) jC)))) (cal GD hr4 (jA jB (jA jB (jA (pv 2) (jA (pv 3) jC))))) (jZ _))))))) jV) (jD (jL (i:=4) scGreat.nd rfl (Or.inl rfl) (cal GR hr1 (jA (jH kJ jB (cal GW hr1 (jA (pv 0) (jA jB jC)))) jC))) (jD (jL (i:=5) scGreat.nd rfl (Or.inl rfl) (jH kJ jB (cal GW hr1 (jA (pv 0) (jA jB jC))))) (jD (jL (i:=2) scGreat.nd rfl (Or.inl rfl) (LwD.vN (qF (LwD.uH rfl hu2) (by rfl) T.dct boot_dict (jA (vS zM (pv 4) xZ (vR (pv 5))) jC)))) (jD (jL (i:=3) scGreat.nd rfl (Or.inl rfl) (LwD.vN (qF (LwD.uH rfl hu2) (by rfl) T.dct boot_dict (jA (vS zM (pv 4) (vR (pv 5)) xZ) jC)))) (jD (kT (jS xF (pv 1) jB (jZ _)) (jF (jL (i:=3) scGreat.nd rfl (Or.inl rfl) (LwD.vN (cal GA hr3 (jA (pv 3) (jA (LwD.vN (cal GC hr2 (jA (LwD.vN (qF (LwD.uH rfl hu2) (by rfl) T.dct boot_dict (jA (vS zM (pv 4) (vR (jH xA (pv 5) jB)) (vR (pv 5))) jC))) (jA (jW (jA (FR AQ jB) (jA jB jC))) jC)))) jC)))))) jV) (jF (jO (uS (WG hu64) (cal GQ hr7 (jA jB (jA (cal GS hr2 (jA jB (jA (pv 2) jC))) (jA (cal GS hr2 (jA jB (jA (pv 3) jC))) jC)))) (cal GD hr4 (jA jB (jA jB (jA (pv 2) (jA (pv 3) jC))))) (jZ _)))))))))), ?_⟩
  try dsimp only[cxK]
  refine⟨_,rfl,tp,17,B,rfl,cl,hT,by omega,by decide,by decide,λway H1 c0 c1 T1 b1=>?_⟩;obtain⟨wn,rfl⟩:=gF c0;dsimp only[jT];refine zO (t:=RO _ _ _) (fun σ H'=>σ=[some (.ref tp),some (.int wn),none,none,none,none]/\H'=H1) (fun σ H' h=>?_) (λgo2=>?_)
  ·obtain⟨rfl,rfl⟩:=h;refine⟨_,rfl,tp,4,_,rfl,cl,T1,by omega,by decide,by decide,λa H2 a0 a1 T2 b2=>⟨_,_,rfl,rfl, ?_⟩⟩;have q1:499+a=((499+a.toNat:Nat):Int):=by omega
   refine⟨499+a.toNat,by show [V.int (499+a)]=_;rw[q1],by omega,by omega,λp xs H3 n3 s3 e3 pr=>?_⟩;have T3:=T2.mono s3 (tD _);have po:=(T2.off n3).1;refine⟨_,rfl,tp,300,_,rfl,cl,T3,by omega,by decide,by decide,λc H4 k0 k1 T4 b4=>⟨_,_,rfl,rfl, ?_⟩⟩;dsimp only[jT];have q2:100+c=((100+c.toNat:Nat):Int):=by omega
   generalize hk:100+c.toNat=k at q2;have e4:=b4 _ _ e3 po;have R4:=(RowsL.of pr #[0]).kp (Kp.butT b4 T3);have ln:=R4.ln;have B4:But tp H H4:=b1.trans (b2.trans ((But.of s3).trans b4));refine⟨_,rfl,_,rfl,_,rfl,p,xs,rfl,SqL.of e4,λl1 H5 n5 s5 e5=>?_⟩;obtain⟨E1,pi1,nd1,db1,kb1⟩:=((R4.sub none (some (100+c))).kp (Kp.of s5)).ents;refine⟨l1,_,_,rfl,e5,pi1,nd1,λd1 H6 n6 s6 e6=>⟨d1,_,rfl,e6,λo1=>?_⟩⟩;obtain⟨s7,f7⟩:=BO n6 s6 e6 (db1.kp (Kp.of s6)) o1;generalize upd H6 d1 _=H7 at s7 f7;have s47:=s5.trans s7;refine⟨_,rfl,_,rfl,_,rfl,p,xs,rfl,SqL.of (s47 _ _ e4),λl2 H8 n8 s8 e8=>?_⟩;have s48:=s47.trans s8;obtain⟨E2,pi2,nd2,db2,kb2⟩:=((R4.sub (some (100+c)) none).kp (Kp.of s48)).ents;refine⟨l2,_,_,rfl,e8,pi2,nd2,λd2 H9 n9 s9 e9=>⟨d2,_,rfl,e9,λo2=>?_⟩⟩;obtain⟨s10,f10⟩:=BO n9 s9 e9 (db2.kp (Kp.of s9)) o2;generalize upd H9 d2 _=H10 at s10 f10;have s410:=s48.trans s10;have L1:(vF xs none (some (100+c))).length<=399:=by rw[q2,ZD,ln];omega
   have L2:(vF xs (some (100+c)) none).length<=402:=by rw[q2,ZC,ln];omega
   have g1:FQ H10 d1 3 zR E1:=(IY (f7.kp (Kp.of (s8.trans s10))) L1).up #[1] #[1] #[1] #[1];have g2:FQ H10 d2 3 ⟨16,5,2010,402⟩ E2:=IY f10 L2;have B10:=B4.trans (But.of s410);dsimp only[jT];refine zO (t:=RO _ _ _) (GtI H tp wn 3 zR) (fun σ H' h=>?_) (λgo3=>?_)
   ·obtain⟨b,u1,u2⟩:=h;exact YZ (way:=0) (ad:=3) rfl rfl (zR_fin u1 u2) λH' s=>go H' (b.trans (But.of s))
   refine⟨_,rfl,_,_,rfl,rfl,_,rfl, ?_⟩;refine wH (λ_=>?_) (λ_=>go3 _ _ (.mk B10 g1 (g2.up #[1] #[1] #[1] #[1])));refine⟨_,rfl,_,rfl,_,rfl,_,_,rfl,rfl,_,rfl,_,rfl,_,rfl,p,xs,rfl,SqL.of (s410 _ _ e4),λl3 H11 n11 s11 e11=>?_⟩;obtain⟨E3,pi3,nd3,db3,kb3⟩:=((R4.sub (some (100+c-50)) (some (100+c))).kp (Kp.of (s410.trans s11))).ents;refine⟨l3,_,_,rfl,e11,pi3,nd3,λd3 H12 n12 s12 e12=>⟨d3,_,rfl,e12,λo3=>?_⟩⟩;obtain⟨s13,f13⟩:=BO n12 s12 e12 (db3.kp (Kp.of s12)) o3;generalize upd H12 d3 _=H13 at s13 f13;have L3:(vF xs (some (100+c-50)) (some (100+c))).length<=50:=by
    rw[q2,show((k:Int)-50)=((k-50:Nat):Int) by omega];exact nN (ZB ..) #[0]
   have f13:FQ H13 d3 3 ⟨16,5,250,50⟩ E3:=IY f13 L3;refine⟨_,rfl,uX,λt H14 n14 s14 e14=>?_⟩;have f14:=f13.kp (Kp.of s14);refine⟨d3,t,3,0,0,_,E3,-1,1,_,rfl,f14,SqT.of e14,by decide,by decide,by decide,f14.db.kb,λ_=>by decide,by decide,by decide,by decide,by decide,λd4 E4 H15 n15 s15 e15 db15 _ _ _=>⟨d4,_,rfl,e15,λo4=>?_⟩⟩;obtain⟨s16,f16⟩:=BO n15 s15 e15 db15 o4;generalize upd H15 d4 _=H16 at s16 f16;have f16:FQ H16 d4 3 ⟨16,5,250,50⟩ E4:=f16;have s1016:=s11.trans (s13.trans (s14.trans s16));have u2:=g2.kp (Kp.of s1016);refine⟨d2,d4,3,_,_,E2,E4,_,_,rfl,u2,f16,by decide,by decide,by decide,by decide,by decide,u2.db.kb,f16.db.kb,λ_=>by decide,λ_=>by decide,by decide,by decide,λd5 E5 H17 n17 s17 e17 db17 _ _=>⟨d5,_,rfl,e17,λo5=>?_⟩⟩;obtain⟨s18,f18⟩:=BO n17 s17 e17 db17 o5;generalize upd H17 d5 _=H18 at s18 f18;have f18:FQ H18 d5 3 ⟨16,55,2260,452⟩ E5:=f18;exact go3 _ _ (.mk (B10.trans (But.of (s1016.trans s18))) (g1.kp (Kp.of (s1016.trans s18))) (f18.up #[1] #[1] #[1] #[1]))
  refine⟨_,rfl,_,_,rfl,rfl,_,rfl, ?_⟩;refine wH (λ_=>?_) (λ_=>go2 _ _ ⟨rfl,rfl⟩);refine⟨0,2,25,rfl,by decide,by decide,by decide,by decide,λp1 E1 H2 n2 s2 e2 db2=>⟨p1,_,rfl,e2,λo1=>?_⟩⟩;obtain⟨s3,f3⟩:=BO n2 s2 e2 db2 o1;generalize upd H2 p1 _=H3 at s3 f3;have T3:=T1.mono s3 (tD _);refine⟨_,rfl,_,_,rfl,rfl,(by show(0:Int)<2;decide),_,rfl,_,_,rfl,rfl,(by show(0:Int)<2;decide),_,_,rfl,rfl,_,rfl,tp,5,_,rfl,cl,T3,by omega,by decide,by decide,λc H4 a0 a1 T4 b4=>⟨_,_,rfl,rfl, ?_⟩⟩;have q1:(wn:Int)%2=((wn%2:Nat):Int):=by omega
  have q2:2+(wn:Int)%2=((2+wn%2:Nat):Int):=by omega
  have q3:19+c=((19+c.toNat:Nat):Int):=by omega
  refine⟨wn%2,2+wn%2,19+c.toNat,by show [V.int ((wn:Int)%2),V.int (2+(wn:Int)%2),V.int (19+c)]=_;rw[q3,q2,q1],by omega,by omega,by omega,by omega,λp2 E2 H5 n5 s5 e5 db5=>⟨p2,_,rfl,e5,λo2=>?_⟩⟩;obtain⟨s6,f6⟩:=BO n5 s5 e5 db5 o2;generalize upd H5 p2 _=H6 at s6 f6;have b6:But tp H H6:=(b1.trans (But.of s3)).trans (b4.trans (But.of s6));have f1:=(f3.kp (Kp.butT b4 T3)).kp (Kp.of s6);dsimp only[jT];refine zO (t:=RO _ _ _) (GtI H tp wn 4 zH) (fun σ H' h=>?_) (λgo3=>?_)
  ·obtain⟨b,g1,g2⟩:=h;exact YZ (way:=1) (ad:=4) rfl rfl (zH_fin g1 g2) λH' s=>go H' (b.trans (But.of s))
  refine⟨_,rfl,rfl,_,rfl, ?_⟩;refine wH (λ_=>?_) (λ_=>go3 _ _ (.mk b6 (f1.up #[1] #[1] #[1] #[1]) (f6.up #[1] #[1] #[1] #[1])));refine⟨_,rfl,1,3,25,rfl,by decide,by decide,by decide,by decide,λp3 E3 H7 n7 s7 e7 db7=>⟨p3,_,rfl,e7,λo3=>?_⟩⟩;obtain⟨s8,f8⟩:=BO n7 s7 e7 db7 o3;generalize upd H7 p3 _=H8 at s8 f8;refine⟨_,rfl,uX,λt H9 n9 s9 e9=>?_⟩;have f9:=f8.kp (Kp.of s9);refine⟨p3,t,4,0,0,zG,E3,-1,1,_,rfl,f9,SqT.of e9,by decide,by decide,by decide,f9.db.kb,λ_=>by decide,by decide,by decide,by decide,by decide,λp4 E4 H10 n10 s10 e10 db10 _ _ _=>⟨p4,_,rfl,e10,λo4=>?_⟩⟩;obtain⟨s11,f11⟩:=BO n10 s10 e10 db10 o4;generalize upd H10 p4 _=H11 at s11 f11;have f11:FQ H11 p4 4 zG E4:=f11;have s611:=s8.trans (s9.trans s11);have g1:=f1.kp (Kp.of s611);refine⟨p1,p4,4,zG,zG,E1,E4,_,_,rfl,g1,f11,by decide,by decide,by decide,by decide,by decide,g1.db.kb,f11.db.kb,λ_=>by decide,λ_=>by decide,by decide,by decide,λp5 E5 H12 n12 s12 e12 db12 _ _=>⟨p5,_,rfl,e12,λo5=>?_⟩⟩;obtain⟨s13,f13⟩:=BO n12 s12 e12 db12 o5;generalize upd H12 p5 _=H13 at s13 f13;have f13:FQ H13 p5 4 zH E5:=f13;refine⟨_,rfl,1,3,25,rfl,by decide,by decide,by decide,by decide,λp6 E6 H14 n14 s14 e14 db14=>⟨p6,_,rfl,e14,λo6=>?_⟩⟩;obtain⟨s15,f15⟩:=BO n14 s14 e14 db14 o6;generalize upd H14 p6 _=H15 at s15 f15;have s1115:=s13.trans s15;have g2:=g1.kp (Kp.of s1115);refine⟨p1,p6,4,zG,zG,E1,E6,_,_,rfl,g2,f15,by decide,by decide,by decide,by decide,by decide,g2.db.kb,f15.db.kb,λ_=>by decide,λ_=>by decide,by decide,by decide,λp7 E7 H16 n16 s16 e16 db16 _ _=>⟨p7,_,rfl,e16,λo7=>?_⟩⟩
  obtain⟨s17,f17⟩:=BO n16 s16 e16 db16 o7;generalize upd H16 p7 _=H17 at s17 f17;have f17:FQ H17 p7 4 zH E7:=f17;exact go3 _ _ (.mk (b6.trans (But.of (s611.trans (s1115.trans s17)))) f17 (f13.kp (Kp.of (s15.trans s17))))
theorem nil_ok{ad:Nat}(m1:1<=ad)(m4:ad<=4):PlOk ad []:=⟨(λx h=>nomatch h),(λx h=>nomatch h),(λx h=>nomatch h),List.Pairwise.nil,(λx h=>nomatch h),nY _,m1,m4⟩
section
variable{ad:Nat}{P1 P2:Pl}
theorem neg_tab(o1:PlOk ad P1)(o2:PlOk ad P2)(c:∀ns:List Int,ns.length=ad->Byt ns->cf P2 ns=cf P1 ns * -1)(k:Int):tv ([]:Tb) k=tv (jI P1) k+tv (jI P2) k:=
 HQ (P:=[]) (f:=λk=>tv (jI P1) k+tv (jI P2) k) (λx h=>nomatch h) mU (λns hl hb=>by
  show tv _ _+tv _ _=(0:Rat);rw[o1.tv hl hb,o2.tv hl hb,c ns hl hb]
  grind) (λk hk=>by show tv _ _+tv _ _=_;rw[BQ o1 hk,BQ o2 hk,nQ]) k
theorem neg_no(o1:PlOk ad P1)(o2:PlOk ad P2)(c:∀ns:List Int,ns.length=ad->Byt ns->cf P2 ns=cf P1 ns * -1)(h:AskNo 0 P1 P2):False:=by
 rcases h with⟨_,h⟩ | ⟨z,_⟩
 ·have:=h [] mU (neg_tab o1 o2 c);exact absurd this #[1]
 ·cases z
theorem neg_nil(o1:PlOk ad P1)(o2:PlOk ad P2)(c:∀ns:List Int,ns.length=ad->Byt ns->cf P2 ns=cf P1 ns * -1){P:Pl}(o:PlOk ad P)(v:∀ns:List Int,ns.length=ad->Byt ns->cf P ns=UD 0 P1 P2 ns):P=[]:=
 CA o (nil_ok o.m1 o.m4) λns hl hb=>by
  rw[v ns hl hb];show cf P1 ns+cf P2 ns=0;rw[c ns hl hb]
  grind
theorem neg_szr(o1:PlOk ad P1)(o2:PlOk ad P2)(c:∀ns:List Int,ns.length=ad->Byt ns->cf P2 ns=cf P1 ns * -1)(z:∀x∈P1,SzR 7900 x.2):∀x∈P2,SzR 7900 x.2:=λx hx=>by
 have e:=c x.1 (o2.len x hx) (o2.byt hx);rw[FB o2.ndn hx]at e;have ne:cf P1 x.1≠0:=λq=>o2.nz x hx (by rw[e,q];grind);obtain⟨y,hy,ey⟩:=nP.mp (RD ne);have ey:y.1=x.1:=ey;rw[<-ey,FB o1.ndn hy]at e;have e:x.2 = -y.2:=by rw[e];grind
 have h:=z y hy;rw[e];unfold SzR at h ⊢;rw[Rat.neg_num,Rat.neg_den,mT];exact h
end
theorem KH{K:tL}{H:Hp}{p:Addr}{t:Int}(e:At2 H p t 1):NumK K H (.ref p) ((t:Int):Rat):=⟨p,rfl,HU (SqT.of e)⟩
theorem numk_fr{K:tL}{H:Hp}{p:Addr}{t b:Int}(fr:FrS t b)(e:At2 H p t b):NumK K H (.ref p) (fv t b)/\SzR 7900 (fv t b):=by
 have n:=WR fr.pos fr.low;refine⟨⟨p,rfl, ?_⟩, ?_⟩
 ·rw[n.1,n.2];exact SqT.of e
 ·have h1:=fr.st;have h2:=fr.sb;unfold SzR;rw[n.1];refine⟨jP h1 #[1], ?_⟩;have:(fv t b).den=b.natAbs:=by have:=n.2;omega
  rw[this];exact gX h2 (gO #[1] #[1])
theorem drw{H H':Hp}{cl tp d:Addr}{ad:Nat}{B B':Int}{z:Sz}{E:List Ent}{o:Obj}(T:Tape cl H tp B)(n:H d=none)(b:But tp H H')(T':Tape cl H' tp B')(e:H' d=some (.dT (E.map Ent.kv)))(db:DB H' ad z E) :
  But tp H (upd H' d (.frz o (.dT (E.map Ent.kv))))/\Tape cl (upd H' d (.frz o (.dT (E.map Ent.kv)))) tp B'/\FQ (upd H' d (.frz o (.dT (E.map Ent.kv)))) d ad z E:=by
 have od:=T.off n;exact⟨JD b n,T'.upd _ od.1 od.2 (tD _),⟨⟨o,jE⟩,db.kp (Kp.upd e trivial)⟩⟩
theorem cut63(ns:List Int):∃ms:List Int,vF (ns.map V.int) none (some 63)=ms.map V.int/\ms.length<=63:=by
 refine⟨ns.take 63, ?_,by simp;omega⟩;unfold vF;simp only[HT.sIx,List.drop_zero,Nat.sub_zero,mL];rw[tJ #[1],nA];by_cases h:ns.length<=63
 ·rw[Nat.min_eq_right (by simpa using h),gI (by simp),gI (by simpa using h)]
 ·rw[Nat.min_eq_left (by simp;omega)]
  rfl
structure Trn(K:tL)(H:Hp)(ad:Nat)(d1 d2 r l p1 p2:Addr)(t b:Int)(E F E0 F0:List Ent):Prop where
 m1:1<=ad
 m4:ad<=4
 f1:FQ H d1 ad zD E
 f2:FQ H d2 ad zD F
 fr:FrS t b
 at':At2 H r t b
 el:H l=some (.lst [.ref p1,.ref p2])
 pE:E0.Perm E
 pF:F0.Perm F
 q1:SumQ K H p1 ad (pl E0)
 q2:SumQ K H p2 ad (pl F0)
 o1:PlOk ad (pl E0)
 o2:PlOk ad (pl F0)
theorem Trn.same{K:tL}{H H':Hp}{ad:Nat}{d1 d2 r l p1 p2:Addr}{t b:Int}{E F E0 F0:List Ent}(h:Trn K H ad d1 d2 r l p1 p2 t b E F E0 F0)(s:Same H H'):Trn K H' ad d1 d2 r l p1 p2 t b E F E0 F0:=⟨h.m1,h.m4,h.f1.kp (Kp.of s),h.f2.kp (Kp.of s),h.fr,s _ _ h.at',s _ _ h.el,h.pE,h.pF,h.q1.same s,h.q2.same s,h.o1,h.o2⟩
theorem VF{A1 R:TS}{D:Ends}{σ:L2.St}{H:Hp}(J:L2.St->Hp->Prop)(h:∀TT:TS,(∀σ H,J σ H->TT D σ H)->vZ A1 TT D σ H)(tl:∀σ H,J σ H->R D σ H):vZ A1 R D σ H:=h R tl
theorem VE{A1 A2 A3 A4 R:TS}{D:Ends}{σ:L2.St}{H:Hp}(J:L2.St->Hp->Prop)(h:∀TT:TS,(∀σ H,J σ H->TT D σ H)->vZ A1 (vZ A2 (vZ A3 (vZ A4 TT))) D σ H)(tl:∀σ H,J σ H->R D σ H):vZ A1 (vZ A2 (vZ A3 (vZ A4 R))) D σ H:=h R tl
inductive DraI(K:tL)(cl a tp:Addr)(ad:Nat)(i:Nat):L2.St->Hp->Prop where
 | mk {u8 u9 u10 u11:Option V} {H:Hp} {d1 d2 r l p1 p2:Addr} {t b:Int} {E F E0 F0:List Ent} (W:Trn K H ad d1 d2 r l p1 p2 t b E F E0 F0) (T:Tape cl H tp (1+1000*(i+1:Nat))):DraI K cl a tp ad i [some (.ref a),some (.ref tp),some (.int ad),some (.int (0+(i:Int))),some (.ref d1),some (.ref d2),some (.ref r),some (.ref l),u8,u9,u10,u11] H
inductive OutI(cl a tp:Addr)(ad:Nat)(i:Nat):L2.St->Hp->Prop where
 | mk {u3 u4 u5 u6 u7 u8 u9 u10 u11:Option V} {H':Hp} (T:Tape cl H' tp (1+1000*i)):OutI cl a tp ad i [some (.ref a),some (.ref tp),some (.int ad),u3,u4,u5,u6,u7,u8,u9,u10,u11] H'
inductive InI(H:Hp)(a tp:Addr)(ad:Nat)(u3:Option V)(d1 d2 r l:Addr)(i:Nat):L2.St->Hp->Prop where
 | mk {u8 u9 u10 u11:Option V} {H':Hp} (s:Same H H'):InI H a tp ad u3 d1 d2 r l i [some (.ref a),some (.ref tp),some (.int ad),u3,some (.ref d1),some (.ref d2),some (.ref r),some (.ref l),u8,u9,u10,u11] H'
theorem zD_fin{H:Hp}{way ad:Nat}{d1 d2:Addr}{E F:List Ent}(m1:1<=ad)(m4:ad<=4)(w:way<=1)(f1:FQ H d1 ad zD E)(f2:FQ H d2 ad zD F):Fin2 H way ad d1 d2 zD zD E F:=⟨⟨f1,f2,m1,m4,w,by decide,by decide,by decide,by decide,by decide,by decide,by decide,λ_=>⟨by decide,by decide⟩⟩,by decide,by decide,nN f1.db.few #[1],nN f2.db.few #[1],λ_=>⟨by decide,by decide,by decide,by decide⟩⟩
abbrev nmLaw:List Str:=["script","tape","many","turn","one","other","number","handed","way","told","factor","letter"]
theorem scLaw:FnScope nmLaw ["script"] (jK MD):=scK (by decide +kernel)
theorem ok_law(F:Fun K "law" "law" MD f fd)(T:Txt mg)(GW:DG P w K mg base 1 "_law_draw" BC ["tape","many"] spDraw)
 (GF:DG P w K mg base 4 "_law_drawn" IE ["tape","many"] spFound) (GN:DG P w K mg base 3 "_law_fraction" yP ["tape"] (uL 7 (2^37)))
 (GS:DG P w K mg base 2 "_law_sum" FN ["many","one"] (AS K)) (GQ:DG P w K mg base 7 "_law_asked" EA ["way","one","other"] (xW K))
 (GD:DG P w K mg base 4 "_law_due" VH ["way","many","one","other"] (DU K)) (GC:DG P w K mg base 3 "scaled" BX ["one","number"] (Lw.spScaled K))
 (GP:DG P w K mg base 1 "_law_whole_parts" BV ["made"] (JQ K)) (GK:DG P w K mg base 2 "_law_scaled" zQ ["one","number"] (LwK.spScaled K))
 (GL:DG P w K mg base 3 "slope" IA ["one","letter"] (HV K)) (GM:DG P w K mg base 2 "_law_sloped" BW ["one","letter"] spSloped)
 (GR:DG P w K mg base 8 "_law_great_right" ID ["tape"] spGreat):FnOk P w K mg base CX0 9 f fd ["script"] (OG K):=by
 refine F.ok scLaw (λvs H Q E h=>?_) #[3]
 ·obtain⟨a,ns,rfl,_⟩:=h
  rfl
 ·obtain⟨a,ns,rfl,hS,hlen,go⟩:=h;have hr1:Room 1 _:=hr.mono #[1];have hr2:Room 2 _:=hr.mono #[1];have hr3:Room 3 _:=hr.mono #[1];have hr4:Room 4 _:=hr.mono #[1];have hr7:Room 7 _:=hr.mono #[1];have hr8:Room 8 _:=hr;have hu64:_+64<cLine:=hr.units;refine⟨_,jD (jL (i:=1) scLaw.nd rfl (Or.inl rfl) (vL (jA (qF NM (by rfl) T.lst boot_list (jA (vS zM (pv 0) xZ (vR jB)) jC)) (jA jB (jA jB (jA jB jC)))))) (jD (jL (i:=2) scLaw.nd rfl (Or.inl rfl) (jH kJ jB (cal GW hr1 (jA (pv 1) (jA jB jC))))) (jD (kU PassesOwn.never rfl (qV (by rfl) T.rng (jA jB jC)) (jJ (i:=3) scLaw.nd rfl (Or.inl rfl)) (jD (jL (i:=4) scLaw.nd rfl (Or.inl rfl) (LwD.vN (cal GF hr4 (jA (pv 1) (jA (pv 2) jC))))) (jD (jL (i:=5) scLaw.nd rfl (Or.inl rfl) (LwD.vN (cal GF hr4 (jA (pv 1) (jA (pv 2) jC))))) (jD (jL (i:=6) scLaw.nd rfl (Or.inl rfl) (cal GN hr3 (jA (pv 1) jC))) (jD (jL (i:=7) scLaw.nd rfl (Or.inl rfl) (vL (jA (cal GS hr2 (jA (pv 2) (jA (pv 4) jC))) (jA (cal GS hr2 (jA (pv 2) (jA (pv 5) jC))) jC)))) (jD (kU PassesOwn.never rfl (qV (by rfl) T.rng (jA jB jC)) (jJ (i:=8) scLaw.nd rfl (Or.inl rfl)) (jD (jL (i:=9) scLaw.nd rfl (Or.inl rfl) (cal GQ hr7 (jA (pv 8) (jA (jR kZ (pv 7) jB (λ_ _=>rfl)) (jA (jR kZ (pv 7) jB (λ_ _=>rfl)) jC))))) (jF (kT (PW.pt (JW (jS (EK hu64) (pv 9) (cal GD hr4 (jA (pv 8) (jA (pv 2) (jA (pv 4) (jA (pv 5) jC))))) (jZ _)) (EF (PW.pt (VQ (jS (EK hu64) (pv 9) (MO) (jZ _)) (OR (IG (yU (cal GP hr1 (jA (pv 9) jC)))))))))) (jF (jO KC)) jV)))) (jD (kT (jS (EK hu64) (cal GQ hr7 (jA jB (jA (jR kZ (pv 7) jB (λ_ _=>rfl)) (jA (cal GC hr3 (jA (jR kZ (pv 7) jB (λ_ _=>rfl)) (jA (jW (jA (FR AQ jB) (jA jB jC))) jC))) jC)))) (jW (jA (pv 2) (jA (jW jC) jC))) (jZ _)) (jF (jO KC)) jV) (jD (kU PassesOwn.never rfl (uQ (vL (jA (pv 6) (jA (jW (jA jB (jA jB jC))) jC)))) (jJ (i:=10) scLaw.nd rfl (Or.inl rfl)) (jD (jL (i:=9) scLaw.nd rfl (Or.inl rfl) (cal GC hr3 (jA (jR kZ (pv 7) jB (λ_ _=>rfl)) (jA (pv 10) jC)))) (jF (kT (PW.pt (JW (jS (EK hu64) (pv 9) (cal GS hr2 (jA (pv 2) (jA (cal GK hr2 (jA (pv 4) (jA (pv 10) jC))) jC))) (jZ _)) (EF (IG (yU (cal GP hr1 (jA (pv 9) jC))))))) (jF (jO KC)) jV)))) (jF (kU PassesOwn.never rfl (qV (by rfl) T.rng (jA (pv 2) jC)) (jJ (i:=11) scLaw.nd rfl (Or.inl rfl)) (jD (jL (i:=9) scLaw.nd rfl (Or.inl rfl) (cal GL hr3 (jA (jR kZ (pv 7) jB (λ_ _=>rfl)) (jA (pv 11) jC)))) (jF (kT (PW.pt (JW (jS (EK hu64) (pv 9) (cal GS hr2 (jA (pv 2) (jA (cal GM hr2 (jA (pv 4) (jA (pv 11) jC))) jC))) (jZ _)) (EF (IG (yU (cal GP hr1 (jA (pv 9) jC))))))) (jF (jO KC)) jV))))))))))))) (jF (jO (pe_or (uS xF (cal GW hr1 (jA (pv 1) (jA jB jC))) jB (jZ _)) (VW (cal GR hr8 (jA (pv 1) jC)))))))), ?_⟩
  try dsimp only[cxK]
  obtain⟨cs,em,hm⟩:=cut63 ns;refine⟨_,rfl,_,rfl,a,_,rfl,hS,λp1 H1 n1 s1 e1=>?_⟩;refine⟨p1,_,rfl,.inl (SqL.of e1),λcl H2 n2 s2 e2=>⟨(by show 4<=sizeLine;decide),λtp H3 n3 s3 e3=>?_⟩⟩;have T3:Tape cl H3 tp 0:=⟨cs,0,0,0,e3,by rw[s3 _ _ e2,em],hm,by decide,by decide⟩;refine dDraw rfl T3 #[1] #[1] #[1] λc H4 c0 c1 T4 b4=>⟨_,_,rfl,rfl, ?_⟩;obtain⟨ad,hmany⟩:∃ad:Nat,1+c=(ad:Int):=⟨(1+c).toNat,by omega⟩;have m1:1<=ad:=by omega
  have m4:ad<=4:=by omega
  dsimp only[jT];refine⟨_,rfl,by decide,by decide, ?_⟩;rw[hmany];refine qW (OutI cl a tp ad) (.mk (T4.mono (Same.refl _) #[0])) (λi σ H5 hi h=>?_) (fun σ H5 h=>?_)
  ·obtain⟨T5⟩:=h;have hi:i<2:=by omega
   have p30:(10000:Int)<2^30:=by decide
   have p37:(10000:Int)<2^37:=by decide
   refine VE (DraI K cl a tp ad i) (λTT hTT=>?_) ?_
   ·refine⟨_,rfl,_,rfl,tp,ad,_,rfl,m1,m4,cl,T5,by omega,λd1 E1 H6 n6 b6 T6 e6 db6=>⟨d1,_,rfl,e6,λo1=>?_⟩⟩;obtain⟨b7,T7,f7⟩:=drw (o:=o1) T5 n6 b6 T6 e6 db6;generalize upd H6 d1 _=H7 at b7 T7 f7;refine⟨_,rfl,_,rfl,tp,ad,_,rfl,m1,m4,cl,T7,by omega,λd2 E2 H8 n8 b8 T8 e8 db8=>⟨d2,_,rfl,e8,λo2=>?_⟩⟩;obtain⟨b9,T9,f9⟩:=drw (o:=o2) T7 n8 b8 T8 e8 db8;generalize upd H8 d2 _=H9 at b9 T9 f9;refine⟨_,rfl,tp,_,rfl,cl,T9,by omega,λr t b HA fr eA rne TA bA _=>?_⟩;have g1:FQ HA d1 ad zD E1:=(f7.kp (Kp.butT b9 T7)).kp (Kp.butT bA T9);have g2:FQ HA d2 ad zD E2:=f9.kp (Kp.butT bA T9);dsimp only[jT];refine⟨_,rfl,_,rfl,d1,ad,zD,E1,rfl,g1.rd,g1.db,m1,m4,nN g1.db.few #[1],g1.db.kb.up λm=>by decide,by decide,λp1 E3 HB nB sB pE sq1 ok1=>?_⟩;have g2:=g2.kp (Kp.of sB);refine⟨_,rfl,_,rfl,d2,ad,zD,E2,rfl,g2.rd,g2.db,m1,m4,nN g2.db.few #[1],g2.db.kb.up λm=>by decide,by decide,λp2 E4 HC nC sC pF sq2 ok2=>?_⟩;refine⟨uX,λl HD nD sD eD=>?_⟩;have s1:=sB.trans (sC.trans sD);have W:Trn K HD ad d1 d2 r l p1 p2 t b E1 E2 E3 E4:=⟨m1,m4,g1.kp (Kp.of s1),g2.kp (Kp.of (sC.trans sD)),fr,s1 _ _ eA,eD,pE,pF,sq1.same (sC.trans sD),sq2.same sD,ok1,ok2⟩;have TD:Tape cl HD tp (1+1000*(i+1:Nat)):=TA.mono s1 #[0];exact hTT _ _ (.mk W TD)
   clear T5;rintro _ HD ⟨W,TD⟩;rename_i d1 d2 r l p1 p2 t b E1 E2 E3 E4;refine VF (InI HD a tp ad (some (.int (0+(i:Int)))) d1 d2 r l 0) (λTT hTT=>?_) ?_;refine⟨_,rfl,by decide,by decide, ?_⟩;refine qW (InI HD a tp ad (some (.int (0+(i:Int)))) d1 d2 r l) (.mk (Same.refl _)) (λj σ HE hj h=>?_) (fun σ HE ⟨sE⟩=>hTT _ _ (.mk sE))
   ·obtain⟨sE⟩:=h;have WE:=W.same sE;have hj:j<=1:=by omega
    rw[Int.zero_add];have f2:=zD_fin WE.m1 WE.m4 hj WE.f1 WE.f2;refine⟨_,rfl,_,rfl,l,_,_,_,rfl,rfl,SqL.of WE.el,rfl,_,rfl,l,_,_,_,rfl,rfl,SqL.of WE.el,rfl, ?_⟩;dsimp only[tNil];show xW K [.int j,.ref p1,.ref p2] HE _ _;refine AZ hj ⟨WE.q1,WE.q2,WE.o1,WE.o2,WE.f1.db.szr WE.pE WE.f1.db.kb f2.v1,WE.f2.db.szr WE.pF WE.f2.db.kb f2.v2⟩ (f2.two WE.pE WE.pF) λv da HF sF ans=>?_;dsimp only[jT];refine⟨_,rfl,_,rfl,_,rfl,_,rfl,_,rfl, ?_⟩;dsimp only[tNil];show DU K [.int j,.int ad,.ref d1,.ref d2] HF _ _;refine QP (f2.t.same sF) WE.pE WE.pF WE.o1 WE.o2 (f2.two WE.pE WE.pF) ans λu HG sG du=>?_;have aG:=ans.same sG;have dG:=aG.dec;refine⟨da,da,dG.1,du,dG.2,dG.2,_,rfl, ?_⟩;rw[SeqAt.eqv_refl _ dG.2.1];refine xB #[1] ?_;refine⟨_,rfl,da,.str "great",dG.1,.str _,dG.2,great_ok,_,rfl, ?_⟩;cases aG with
    | great h=>
     rw[NE];refine xB #[1] ?_;exact xB #[1] (.mk (sE.trans (sF.trans sG)))
    | sum h q o v=>
     rw[JP];refine AF #[1] ?_;refine⟨_,rfl,_,ad,_,rfl,q,o,λHI sI=>?_⟩;exact⟨_,rfl,xB #[1] (.mk (sE.trans (sF.trans (sG.trans sI))))⟩
   ·rintro _ HE ⟨sE⟩;have WE:=W.same sE;have z1:=WE.f1.db.szr WE.pE WE.f1.db.kb (show zD.v+zD.S<7900 by decide);dsimp only;refine zO (t:=RO _ _ _) (InI HD a tp ad (some (.int (0+(i:Int)))) d1 d2 r l 0) (fun σ HF h=>?_) (λgo3=>?_)
    ·obtain⟨sF⟩:=h;have WF:=W.same sF;refine⟨_,rfl,uX,λy0 HG nG sG eG=>⟨uX,λlf HI nI sI eI=>⟨lf,rfl,⟨_,SqL.of eI⟩, ?_⟩⟩⟩;refine LF (K:=K) (a:=lf) (xs:=[.ref r,.ref y0]) (InI HI a tp ad (some (.int (0+(i:Int)))) d1 d2 r l) (.mk (Same.refl _)) (λj σ HJ _ h=>?_) (λj x σ HJ hx h=>?_) (fun σ HJ h=>?_)
     ·obtain⟨sJ⟩:=h;exact SqL.of (sJ _ _ eI)
     ·obtain⟨sJ⟩:=h;have WJ:=WF.same (sG.trans (sI.trans sJ));have fac:∃(q:Addr) (o u:Int),x=.ref q/\At2 HJ q o u/\0<u/\u.natAbs<=2^97/\o.natAbs<=2^100*u.natAbs/\NumK K HJ (.ref q) (fv o u)/\SzR 7900 (fv o u):=by
       match j,hx with
       | 0,hx=>
        cases hx;have n:=numk_fr (K:=K) WJ.fr WJ.at';exact⟨r,t,b,rfl,WJ.at',WJ.fr.pos,nU WJ.fr.sb,nN (nU WJ.fr.st) (Nat.le_mul_of_pos_right _ (by have:=WJ.fr.pos;omega)),n.1,n.2⟩
       | 1,hx=>
        cases hx;have e:At2 HJ y0 0 1:=(sI.trans sJ) _ _ eG;have v:fv 0 1=((0:Int):Rat):=by decide +kernel
        exact⟨y0,0,1,rfl,e,by decide,by decide,by decide,by rw[v];exact KH e,by rw[v];exact⟨by decide,by decide⟩⟩
       | j+2,hx=>simp at hx
      obtain⟨q,o,u,rfl,aq,pu,su,so,nk,sz⟩:=fac;dsimp only[jT];refine⟨_,rfl,l,_,_,_,rfl,rfl,SqL.of WJ.el,rfl,_,rfl, ?_⟩;dsimp only[tNil];show Lw.spScaled K [.ref p1,.ref q] HJ _ _;refine⟨p1,.ref q,ad,pl E3,fv o u,rfl,WJ.q1,WJ.o1,nk,z1,sz,λpN PN HK nK sK qN oN cN=>?_⟩;have f1:=WJ.f1.kp (Kp.of sK);dsimp only[jT];refine⟨_,rfl,_,rfl,_,rfl,_,rfl,d1,q,ad,97,100,zD,E1,o,u,_,rfl,f1,SqT.of (sK _ _ aq),pu,su,so,f1.db.kb,λ_=>by decide,by decide,by decide,by decide,by decide,λpS ES HS nS sS eS dbS kbS cS _=>?_⟩;refine⟨pS,ad,_,ES,rfl,.inl eS,dbS,m1,m4,nN dbS.few #[1],kbS.up λm=>by decide,by decide,λpG G HL nL sL pGm qG oG=>?_⟩;have e:PN=pl G:=RS WJ.pE pGm oN oG cN cS;subst e;have qL:=qN.same (sS.trans sL);refine⟨_,_,SumQ.dec qL,SumQ.dec qG,zL _ _,zL _ _,_,rfl, ?_⟩;rw[DH];refine xB #[1] ?_;refine⟨_,rfl,pN,ad,_,rfl,qL,oN,λHM sM=>?_⟩;exact⟨_,rfl,xB #[1] (.mk (sJ.trans (sK.trans (sS.trans (sL.trans sM)))))⟩
     ·obtain⟨sJ⟩:=h;have WJ:=WF.same (sG.trans (sI.trans sJ));have sDJ:=sF.trans (sG.trans (sI.trans sJ));refine⟨_,rfl,_,rfl,by omega,by omega, ?_⟩;refine qW (InI HJ a tp ad (some (.int (0+(i:Int)))) d1 d2 r l) (.mk (Same.refl _)) (λk σ HK hk h=>?_) (fun σ HK h=>?_)
      ·obtain⟨sK⟩:=h;have WK:=WJ.same sK;have hk:k<ad:=by omega
       rw[Int.zero_add];refine⟨_,rfl,l,_,_,_,rfl,rfl,SqL.of WK.el,rfl,_,rfl, ?_⟩;dsimp only[tNil];show HV K [.ref p1,.int k] HK _ _;refine⟨p1,k,ad,pl E3,rfl,WK.q1,WK.o1,hk,z1,λpN PN HL nL sL qN sT=>?_⟩;have f1:=WK.f1.kp (Kp.of sL);dsimp only[jT];refine⟨_,rfl,_,rfl,_,rfl,_,rfl,d1,k,ad,zD,E1,rfl,f1,hk,m4,by decide,by decide,by decide,by decide,λpS ES HS nS sS eS dbS cS=>?_⟩;refine⟨pS,ad,_,ES,rfl,.inl eS,dbS,m1,m4,nN dbS.few #[1],dbS.kb.up λm=>by decide,by decide,λpG G HM nM sM pGm qG oG=>?_⟩;have e:PN=pl G:=VB WK.pE pGm sT oG cS;subst e;have qM:=qN.same (sS.trans sM);refine⟨_,_,SumQ.dec qM,SumQ.dec qG,zL _ _,zL _ _,_,rfl, ?_⟩;rw[DH];refine xB #[1] ?_;refine⟨_,rfl,pN,ad,_,rfl,qM,oG,λHN sN=>?_⟩;exact⟨_,rfl,xB #[1] (.mk (sK.trans (sL.trans (sS.trans (sM.trans sN)))))⟩
      ·obtain⟨sK⟩:=h;exact .mk (TD.mono (sDJ.trans sK) (tD _))
    refine⟨_,rfl,l,_,_,_,rfl,rfl,SqL.of WE.el,rfl,_,rfl,l,_,_,_,rfl,rfl,SqL.of WE.el,rfl,_,rfl,uX,λq HF nF sF eF=>?_⟩;dsimp only[tNil];show Lw.spScaled K [.ref p1,.ref q] HF _ _;refine⟨p1,.ref q,ad,pl E3,((-1:Int):Rat),rfl,WE.q1.same sF,WE.o1,KH eF,z1,⟨by decide,by decide⟩,λpN PN HG nG sG qN oN cN=>?_⟩;have cN:∀ns:List Int,ns.length=ad->Byt ns->cf PN ns=cf (pl E3) ns * -1:=cN;dsimp only[tNil];show xW K [.int ((0:Nat):Int),.ref p1,.ref pN] HG _ _;refine AZ #[1] ⟨WE.q1.same (sF.trans sG),qN,WE.o1,oN,z1,neg_szr WE.o1 oN cN z1⟩ (λw=>nomatch w) λv da HH sH ans=>?_;refine⟨_,rfl,uV,λy0 HI n0 s0 e0=>⟨uX,λy1 HJ n1 s1 e1=>?_⟩⟩;have aJ:=ans.same (s0.trans s1);have sJ:=sF.trans (sG.trans (sH.trans (s0.trans s1)));cases aJ with
    | great h=>exact(neg_no WE.o1 oN cN h).elim
    | sum h q o v=>
     have e:=neg_nil WE.o1 oN cN o v;subst e;refine⟨_,_,SumQ.dec q,.tup e1 (.cons (.int _) (.cons (.tup (s1 _ _ e0) .nil) .nil)),zL _ _,zL ad [],_,rfl, ?_⟩;rw[show PyData.tuple [.int (ad:Int),.tuple []]=FE ad []from rfl,DH];exact xB #[1] (go3 _ _ (.mk (sE.trans sJ)))
  ·obtain⟨T5⟩:=h;refine dDraw rfl T5 #[1] #[1] #[1] λc H6 c0 c1 T6 b6=>⟨_,_,rfl,rfl,_,rfl, ?_⟩;refine wH (λ_=>go H6) (λ_=>?_);exact⟨_,rfl,tp,_,rfl,cl,T6,by decide,λH7 _=>go H7⟩
end LwK
namespace Lw
open PySem PySem.Spec PyProof.Rows L2 LwQ LwV
theorem len1{us:List Value}(h:us.length=1):∃a,us=[a]:=by cases us with | nil=>cases h | cons a r=>have e:r=[]:=List.length_eq_zero_iff.mp (by simpa using h);subst e;exact⟨a,rfl⟩
theorem len2{us:List Value}(h:us.length=2):∃a b,us=[a,b]:=by cases us with | nil=>cases h | cons a r=>obtain⟨b,rfl⟩:=len1 (us:=r) (by simpa using h);exact⟨a,b,rfl⟩
theorem len3{us:List Value}(h:us.length=3):∃a b c,us=[a,b,c]:=by cases us with | nil=>cases h | cons a r=>obtain⟨b,c,rfl⟩:=len2 (us:=r) (by simpa using h);exact⟨a,b,c,rfl⟩
theorem len4{us:List Value}(h:us.length=4):∃a b c d,us=[a,b,c,d]:=by cases us with | nil=>cases h | cons a r=>obtain⟨b,c,d,rfl⟩:=len3 (us:=r) (by simpa using h);exact⟨a,b,c,d,rfl⟩
abbrev fo(x:Str)(st:Stmt)(kV dc pm:Value)(an:Option Addr)(cd ct:Value):FuncData:=PySem.W.fnOf x x (vY st) (vM st) (jK st) .none kV dc pm an cd ct
abbrev BdA(x:Str)(st:Stmt)(ps:List Str)(us:List Value):Prop:=∀(kV dc pm:Value) (an:Option Addr) (cd ct:Value),bindArgs (fo x st kV dc pm an cd ct) ⟨us,[]⟩=pure (ps.zip us)
theorem bd1{x:Str}{st:Stmt}{ps:List Str}(hp:ps.length=1)(h:∀a,BdA x st ps [a]):∀us:List Value,us.length=ps.length->BdA x st ps us:=λus e=>by obtain⟨_,rfl⟩:=len1 (e.trans hp);exact λ_ _ _ _ _ _=>h ..
theorem bd2{x:Str}{st:Stmt}{ps:List Str}(hp:ps.length=2)(h:∀a b,BdA x st ps [a,b]):∀us:List Value,us.length=ps.length->BdA x st ps us:=λus e=>by obtain⟨_,_,rfl⟩:=len2 (e.trans hp);exact λ_ _ _ _ _ _=>h ..
theorem bd3{x:Str}{st:Stmt}{ps:List Str}(hp:ps.length=3)(h:∀a b c,BdA x st ps [a,b,c]):∀us:List Value,us.length=ps.length->BdA x st ps us:=λus e=>by obtain⟨_,_,_,rfl⟩:=len3 (e.trans hp);exact λ_ _ _ _ _ _=>h ..
theorem bd4{x:Str}{st:Stmt}{ps:List Str}(hp:ps.length=4)(h:∀a b c d,BdA x st ps [a,b,c,d]):∀us:List Value,us.length=ps.length->BdA x st ps us:=λus e=>by obtain⟨_,_,_,_,rfl⟩:=len4 (e.trans hp);exact λ_ _ _ _ _ _=>h ..
theorem df{K:tL}{h:Heap}{mg:Str->Option Value}{x:Str}{st:Stmt}(X:K.In h)(G:h.Ns mainGlobals mg)(A:FnAt K x st)(ps:List Str)(b:∀us:List Value,us.length=ps.length->BdA x st ps us):∃f fd,Df K mg x st ps f fd:=by
 obtain⟨a,l,c,k⟩:=A;exact⟨_,_,NF l c k,(NF l c k).binds λkV dc pm an cd ct us h=>b us h kV dc pm an cd ct,nH X G a⟩
theorem cst{K:tL}{h:Heap}{mg:Str->Option Value}(X:K.In h)(G:h.Ns mainGlobals mg)(A:PrAt K "NOUGHT" 0 1):Ngt K mg:=by
 obtain⟨a,l⟩:=A;exact⟨_,nH X G a,λH=>.inr ⟨_,_,_,l,rfl,rfl,by show 2<=sizeLine;decide,.cons ⟨_,rfl⟩ (.cons ⟨_,rfl⟩ .nil)⟩⟩
theorem df1{K:tL}{h:Heap}{mg:Str->Option Value}{x:Str}{st:Stmt}(X:K.In h)(G:h.Ns mainGlobals mg)(A:FnAt K x st)(ps:List Str)(hp:ps.length=1:=by rfl)(b:∀a0,BdA x st ps [a0]:=by exact λ_ _ _ _ _ _ _=>rfl):∃f fd,Df K mg x st ps f fd:=df X G A ps (bd1 hp b)
theorem df2{K:tL}{h:Heap}{mg:Str->Option Value}{x:Str}{st:Stmt}(X:K.In h)(G:h.Ns mainGlobals mg)(A:FnAt K x st)(ps:List Str)(hp:ps.length=2:=by rfl)(b:∀a0 a1,BdA x st ps [a0,a1]:=by exact λ_ _ _ _ _ _ _ _=>rfl):∃f fd,Df K mg x st ps f fd:=df X G A ps (bd2 hp b)
theorem df3{K:tL}{h:Heap}{mg:Str->Option Value}{x:Str}{st:Stmt}(X:K.In h)(G:h.Ns mainGlobals mg)(A:FnAt K x st)(ps:List Str)(hp:ps.length=3:=by rfl)(b:∀a0 a1 a2,BdA x st ps [a0,a1,a2]:=by exact λ_ _ _ _ _ _ _ _ _=>rfl):∃f fd,Df K mg x st ps f fd:=df X G A ps (bd3 hp b)
theorem df4{K:tL}{h:Heap}{mg:Str->Option Value}{x:Str}{st:Stmt}(X:K.In h)(G:h.Ns mainGlobals mg)(A:FnAt K x st)(ps:List Str)(hp:ps.length=4:=by rfl)(b:∀a0 a1 a2 a3,BdA x st ps [a0,a1,a2,a3]:=by exact λ_ _ _ _ _ _ _ _ _ _=>rfl):∃f fd,Df K mg x st ps f fd:=df X G A ps (bd4 hp b)
theorem all_mk{l:PySem.W.OpenLaw}{w:World}{K:tL}{h:Heap}{mg:Str->Option Value}{fa:Addr}(X:K.In h)(G:h.Ns mainGlobals mg)(hfa:mg "law" = some (.ref fa))(A:Facts K) :
  ∃fd:FuncData,(∀(s:Shared) (v:Value),BindsTo s fd ⟨[v],[]⟩ [("script",v)])/\∀base:Heap,K.In base->base.Ns mainGlobals mg->FnOk l.prog w K mg base CX0 9 fa fd ["script"] (OG K):=by
 obtain @⟨f38,oc38,kV38,dc38,pm38,cd38,ct38,od38,an38,sl38,a38,l38,c38,k38⟩:=A.f38;obtain⟨v1⟩:=A.v1;obtain⟨v2⟩:=A.v2;obtain⟨v3⟩:=A.v3;obtain⟨v4⟩:=A.v4;obtain⟨v5⟩:=A.v5;have e:=hfa.symm.trans (nH X G a38);cases e;have T:Txt mg:={ isi:=hJ X G A.z1,len:=hJ X G A.z2,int:=hJ X G A.z3,bool:=hJ X G A.z4,tup:=hJ X G A.z5,lst:=hJ X G A.z6,abs:=hJ X G A.z7,rng:=hJ X G A.z8,lbits:=⟨_,nH X G v1⟩,sum:=hJ X G A.z9,zip:=hJ X G A.z10,sorted:=hJ X G A.z11,enum:=hJ X G A.z13,dct:=hJ X G A.z15,max:=hJ X G A.z12,rev:=hJ X G A.z14,verr:=hJ X G A.z16,degree:=⟨_,nH X G v2⟩,terms:=⟨_,nH X G v3⟩,pack:=⟨_,nH X G v4⟩,short:=⟨_,nH X G v5⟩ };have cA:=cst X G A.n1;obtain⟨m1,m2,m3,m4,m5,m6,m7,m8,m9,wqo,wqb,wqe,wqa,wqn,wqi,wqk,wqg,wqh,wqc,wqm,wdo,wdb,wde,wda,wdn,wdi,wdk,wdg,wdh,wdc,wdm,iL,iC,iT,iN,iF,up,ve,no,nn⟩:=A.c8;have xq:LwE.XCls K _ _ _ "ValueError.__new__":=⟨⟨_,_,_,_,_,_,_,_,_,_,_,_,_,_,_,wqo⟩,wqb,wqe,wqa,wqn,wqi,iF,wqk,wqg,wqh,wqc,wqm⟩;have xd:LwE.XCls K _ _ _ "ValueError.__new__":=⟨⟨_,_,_,_,_,_,_,_,_,_,_,_,_,_,_,wdo⟩,wdb,wde,wda,wdn,wdi,iF,wdk,wdg,wdh,wdc,wdm⟩;have c8:Cls8 K mg _ _ _ _ _ _ _ _ _ _ _ _:=⟨xq,xd,up,ve,no,nH X G m1,nH X G m2,nH X G m3,nH X G m4,nH X G m5,nH X G m6,nH X G m7,nH X G m8,nH X G m9⟩
 have F38:=NF (st:=MD) l38 c38 k38;obtain⟨f1,d1,D1⟩:=df2 X G A.f1 ["one","other"];obtain⟨f2,d2,D2⟩:=df2 X G A.f2 ["one","other"];obtain⟨f3,d3,D3⟩:=df2 X G A.f3 ["one","other"];obtain⟨f4,d4,D4⟩:=df2 X G A.f4 ["one","other"];obtain⟨f5,d5,D5⟩:=df1 X G A.f5 ["one"];obtain⟨f6,d6,D6⟩:=df1 X G A.f6 ["powers"];obtain⟨f7,d7,D7⟩:=df2 X G A.f7 ["key","many"];obtain⟨f8,d8,D8⟩:=df1 X G A.f8 ["one"];obtain⟨f9,d9,D9⟩:=df2 X G A.f9 ["many","table"];obtain⟨f10,d10,D10⟩:=df2 X G A.f10 ["one","other"];obtain⟨f11,d11,D11⟩:=df1 X G A.f11 ["table"];obtain⟨f12,d12,D12⟩:=df1 X G A.f12 ["heap"];obtain⟨f13,d13,D13⟩:=df2 X G A.f13 ["one","other"];obtain⟨f14,d14,D14⟩:=df2 X G A.f14 ["one","other"];obtain⟨f15,d15,D15⟩:=df2 X G A.f15 ["one","other"];obtain⟨f16,d16,D16⟩:=df2 X G A.f16 ["one","number"];obtain⟨f17,d17,D17⟩:=df2 X G A.f17 ["one","letter"];obtain⟨f18,d18,D18⟩:=df2 X G A.f18 ["tape","many"];obtain⟨f19,d19,D19⟩:=df2 X G A.f19 ["top","bottom"];obtain⟨f20,d20,D20⟩:=df2 X G A.f20 ["one","other"];obtain⟨f21,d21,D21⟩:=df2 X G A.f21 ["one","other"];obtain⟨f22,d22,D22⟩:=df3 X G A.f22 ["found","powers","number"];obtain⟨f23,d23,D23⟩:=df2 X G A.f23 ["one","other"];obtain⟨f24,d24,D24⟩:=df2 X G A.f24 ["one","other"];obtain⟨f25,d25,D25⟩:=df2 X G A.f25 ["one","number"];obtain⟨f26,d26,D26⟩:=df2 X G A.f26 ["many","one"];obtain⟨f27,d27,D27⟩:=df1 X G A.f27 ["tape"];obtain⟨f28,d28,D28⟩:=df1 X G A.f28 ["tape"];obtain⟨f29,d29,D29⟩:=df2 X G A.f29 ["tape","many"];obtain⟨f30,d30,D30⟩:=df1 X G A.f30 ["one"];obtain⟨f31,d31,D31⟩:=df3 X G A.f31 ["way","one","other"]
 obtain⟨f32,d32,D32⟩:=df4 X G A.f32 ["way","many","one","other"];obtain⟨f33,d33,D33⟩:=df2 X G A.f33 ["one","letter"];obtain⟨f34,d34,D34⟩:=df3 X G A.f34 ["first","second","many"];obtain⟨f35,d35,D35⟩:=df1 X G A.f35 ["many"];obtain⟨f36,d36,D36⟩:=df1 X G A.f36 ["made"];obtain⟨f37,d37,D37⟩:=df1 X G A.f37 ["tape"];refine⟨PySem.W.fnOf "law" "law" (vY MD) (vM MD) (jK MD) .none kV38 dc38 pm38 an38 cd38 ct38,λs v=>.of_eq rfl,λbase _ _=>?_⟩;have GI:=ok_init (P:=l.prog) (w:=w) (base:=base) (mg:=mg) iL iC T;have G_gcd:=mkD D1 (MR (P:=l.prog) (w:=w) (base:=base) D1.F T);have G_low:=mkD D19 (MQ (P:=l.prog) (w:=w) (base:=base) D19.F T);have G_draw:=mkD D18 (IM (P:=l.prog) (w:=w) (base:=base) D18.F T);have G_mul:=mkD D3 (WP (P:=l.prog) (w:=w) (base:=base) D3.F T D1);have G_divN:=mkD D4 (ok_divN (P:=l.prog) (w:=w) (base:=base) D4.F T D3 D1);have G_addF:=mkD D2 (ok_addF (P:=l.prog) (w:=w) (base:=base) D2.F T D1);have G_packed:=mkD D6 (SL (P:=l.prog) (w:=w) (base:=base) D6.F T);have G_unpk:=mkD D7 (ok_unpk (P:=l.prog) (w:=w) (base:=base) D7.F T);have G_tabOf:=mkD D8 (WI D8.F G_packed);have G_tabAdd:=mkD D10 (SH D10.F T cA G_addF);have G_degree:=mkD D5 (SM (P:=l.prog) (w:=w) (base:=base) D5.F T);have G_sumOf:=mkD D9 (WL D9.F T cA G_unpk G_degree);have F_plusS:=WO D14.F G_tabOf G_tabAdd G_sumOf;have G_plusS:=mkD D14 F_plusS;have G_scaled:=mkD D16 (SK D16.F G_tabOf G_mul G_sumOf);have G_lev:=mkD D11 (ok_lev D11.F T G_divN)
 have G_heap:=mkD D12 (ok_heap D12.F cA G_addF G_divN);have G_tabMul:=mkD D13 (SG D13.F G_lev G_heap);have F_times:=WH D15.F T G_degree G_tabOf G_tabMul G_sumOf;have G_times:=mkD D15 F_times;have F_sumOfX:=SI (P:=l.prog) (w:=w) (base:=base) D9.F T cA c8.q GI (EU rfl iT iN) c8.mq;have F_plusX:=WN D14.F G_tabOf G_tabAdd D9 F_sumOfX;have F_timesX:=SF D15.F T c8.q GI (EU rfl iT iN) c8.mq G_degree G_tabOf G_tabMul D9 F_sumOfX;have G_slope:=mkD D17 (WM D17.F G_packed G_mul G_sumOf);have G_LwK_number:=mkD D27 (LwK.ok_number (P:=l.prog) (w:=w) (base:=base) D27.F T D18 D19);have G_LwK_fraction:=mkD D28 (LwK.ok_fraction (P:=l.prog) (w:=w) (base:=base) D28.F T D18 D19 D27);have G_LwK_plus:=mkD D20 (LwK.ok_lplus (P:=l.prog) (w:=w) (base:=base) (mg:=mg) D20.F);have G_LwK_put:=mkD D22 (LwK.ok_put (P:=l.prog) (w:=w) (base:=base) (mg:=mg) D22.F D20);have G_LwK_lmul:=mkD D21 (LwK.ok_lmul (P:=l.prog) (w:=w) (base:=base) (mg:=mg) D21.F);have F_LwK_ladd:=LwK.ok_ladd D23.F T G_LwK_put;have G_LwK_ladd:=mkD D23 F_LwK_ladd;have G_LwK_scaled:=mkD D25 (LwK.ok_lscaled D25.F G_LwK_lmul);have F_LwK_prod:=LwK.ok_prod D24.F T G_LwK_put G_LwK_lmul;have G_LwK_prod:=mkD D24 F_LwK_prod;have G_LwK_lsum:=mkD D26 (LwK.ok_lsum D26.F T G_low);have G_LwK_found:=mkD D29 (LwK.ok_found D29.F T G_draw G_LwK_put G_LwK_fraction);have G_LwK_tooG:=mkD D30 (LwK.ok_tooG (P:=l.prog) (w:=w) (base:=base) D30.F T);have G_LwK_due:=mkD D32 (LwK.ok_due D32.F D23 F_LwK_ladd D24 F_LwK_prod G_LwK_tooG G_LwK_lsum)
 have G_LwK_sloped:=mkD D33 (LwK.ok_sloped D33.F G_LwK_lmul);have G_LwK_grid:=mkD D34 (LwK.ok_grid (P:=l.prog) (w:=w) (base:=base) D34.F T);have G_LwK_rows:=mkD D35 (LwK.ok_rows (P:=l.prog) (w:=w) (base:=base) D35.F T);have G_LwK_wholeP:=mkD D36 (LwK.ok_wholeP (P:=l.prog) (w:=w) (base:=base) D36.F T);have G_LwK_asked:=mkD D31 (LwK.ok_asked (P:=l.prog) (w:=w) (base:=base) D31.F T D14 F_plusS F_plusX D15 F_times F_timesX ⟨c8,nn⟩);have G_LwK_great:=mkD D37 (LwK.ok_great D37.F T G_draw G_LwK_grid G_LwK_scaled G_LwK_ladd G_LwK_lsum G_LwK_asked G_LwK_due G_LwK_rows);exact LwK.ok_law F38 T G_draw G_LwK_found G_LwK_fraction G_LwK_lsum G_LwK_asked G_LwK_due G_scaled G_LwK_wholeP G_LwK_scaled G_slope G_LwK_sloped G_LwK_great
theorem walk{l:PySem.W.OpenLaw}{q:Program}{loose:List Str}{XP:(Str->Option Value)->Heap->Prop}{YP:World->Heap->Prop}{d:DefRec}{K:Params->tL}(hn:l.most=some 63)(hdf:d.params.defaults=[])
  (hY:∀(w:World) (h:Heap),YP w h->(K w.params).In h)
  (F:∀(w:World) (mg:Str->Option Value) (fa:Addr) (h:Heap),(K w.params).In h->h.Ns mainGlobals mg->mg d.name=some (.ref fa)->
   ∃fd:FuncData,(∀(s:Shared) (u:Value),BindsTo s fd ⟨[u],[]⟩ [("script",u)])/\∀base:Heap,(K w.params).In base->base.Ns mainGlobals mg->FnOk l.prog w (K w.params) mg base CX0 9 fa fd ["script"] (OG (K w.params))) :
  PySem.W.WalkO q loose XP YP l.row.toRowW d [] (λf vs=>PySem.call f vs):=
 L2.ZN (n:=63) (k:=9) (x:="script") (CX:=λ_=>CX0) (sp:=λw=>OG (K w.params)) hn #[1] hdf ⟨rfl,by decide,by decide⟩ hY F (λ_ _ a ns hl _ hS=>⟨a,ns,rfl,hS,hl,λ_=>rfl⟩) λ_ _ _ _ _ z=>z
end Lw
open PySem PySem.W PyProof.Rows
set_option maxRecDepth 100000 in
theorem PySem.Challenge.cw_lowwater_k05_sums_added_and_multiplied_holds : PySem.Challenge.rw_lowwater_k05_sums_added_and_multiplied.Holds := by
 refine Lw.head λK YP d A hY hd hn=>Lw.walk (l:=PySem.Challenge.rw_lowwater_k05_sums_added_and_multiplied) rfl hd hY λw mg fa h KX G hmg=>?_;rw[hn]at hmg;exact Lw.all_mk KX G hmg (A w.params)
end
