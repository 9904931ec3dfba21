import PyProof.Rows.All
import Wide.All
import OpenK.AllK
import Wide.FinOn
import Lean
import PyProof.EqAt
import PyProof.EqKinds
import PyProof.TupleCall
import PySem.Challenge.RW_lowwater_k08_texts_judged
set_option Elab.async false
set_option linter.all false
set_option maxRecDepth 100000
set_option maxHeartbeats 4000000
noncomputable section
section
open PySem PySem.Spec PyProof PyProof.Rows
theorem gC{n:Nat}:n<=n:=Nat.le_refl n
theorem gD:0<=sizeLine:=by decide
theorem gE:1<=sizeLine:=by decide
theorem gF:2<=sizeLine:=by decide
theorem gG:type_of%@List.getD_eq_getElem?_getD:=@List.getD_eq_getElem?_getD
theorem gH:type_of%@List.getElem?_append_right:=@List.getElem?_append_right
theorem gI:type_of%@List.getElem?_eq_some_iff:=@List.getElem?_eq_some_iff
theorem gJ:type_of%@List.getElem?_append_left:=@List.getElem?_append_left
theorem gK:type_of%@List.getElem?_eq_getElem:=@List.getElem?_eq_getElem
theorem gM:type_of%@List.getElem?_take_of_lt:=@List.getElem?_take_of_lt
theorem gN:type_of%@Int.eq_ofNat_of_zero_le:=@Int.eq_ofNat_of_zero_le
theorem gO:type_of%@List.getElem?_cons_succ:=@List.getElem?_cons_succ
theorem gP:type_of%@Heap.get?_push_of_some:=@Heap.get?_push_of_some
theorem gQ:type_of%@List.take_of_length_le:=@List.take_of_length_le
theorem gR:type_of%@List.drop_of_length_le:=@List.drop_of_length_le
theorem gS:type_of%@List.mem_append_right:=@List.mem_append_right
theorem gT:type_of%@List.length_replicate:=@List.length_replicate
theorem gU:type_of%@List.getElem?_eq_none:=@List.getElem?_eq_none
theorem gW:type_of%@List.mem_iff_getElem?:=@List.mem_iff_getElem?
theorem gX:type_of%@List.mem_of_getElem?:=@List.mem_of_getElem?
theorem gY:type_of%@List.mem_cons_of_mem:=@List.mem_cons_of_mem
theorem gZ:type_of%@Nat.pow_le_pow_right:=@Nat.pow_le_pow_right
theorem hJ:type_of%@Nat.pow_lt_pow_right:=@Nat.pow_lt_pow_right
theorem hU:type_of%@Heap.get?_push_size:=@Heap.get?_push_size
theorem hV:type_of%@Nat.lt_of_le_of_lt:=@Nat.lt_of_le_of_lt
theorem hW:type_of%@Bool.false_ne_true:=@Bool.false_ne_true
theorem hX:type_of%@Nat.lt_of_lt_of_le:=@Nat.lt_of_lt_of_le
theorem mB:type_of%@List.mem_singleton:=@List.mem_singleton
theorem mC:type_of%@List.mem_cons_self:=@List.mem_cons_self
theorem mD:type_of%@PySem.W.mg_none_of:=@PySem.W.mg_none_of
theorem mE:type_of%@List.getElem?_map:=@List.getElem?_map
theorem mF:type_of%@List.size_toArray:=@List.size_toArray
theorem mG:type_of%@List.take_add_one:=@List.take_add_one
theorem mH:type_of%@of_decide_eq_true:=@of_decide_eq_true
theorem mI:type_of%@List.nodup_append:=@List.nodup_append
theorem mJ:type_of%@Int.toNat_natCast:=@Int.toNat_natCast
theorem mK:type_of%@List.length_take:=@List.length_take
theorem mL:type_of%@List.not_mem_nil:=@List.not_mem_nil
theorem mM:type_of%@List.take_length:=@List.take_length
theorem mN:type_of%@List.length_cons:=@List.length_cons
theorem mO:type_of%@Bool.and_eq_true:=@Bool.and_eq_true
theorem mP:type_of%@List.filter_cons:=@List.filter_cons
theorem mQ:type_of%@List.length_map:=@List.length_map
theorem mR:type_of%@decide_eq_false:=@decide_eq_false
theorem mS:type_of%@List.mem_append:=@List.mem_append
theorem mT:type_of%@decide_eq_true:=@decide_eq_true
theorem mU:type_of%@Int.natAbs_mul:=@Int.natAbs_mul
theorem mV:type_of%@List.mem_range:=@List.mem_range
theorem mW:type_of%@Heap.size_push:=@Heap.size_push
theorem mX:type_of%@List.map_cons:=@List.map_cons
theorem mY:type_of%@List.mem_cons:=@List.mem_cons
theorem mZ:type_of%@Nat.lt_irrefl:=@Nat.lt_irrefl
theorem nB:type_of%@List.sum_cons:=@List.sum_cons
theorem nE:type_of%@PySem.W.mg_of:=@PySem.W.mg_of
theorem nF:type_of%@Heap.lt_size:=@Heap.lt_size
theorem nG:type_of%@Nat.le_trans:=@Nat.le_trans
theorem nH:type_of%@Nat.ne_of_lt:=@Nat.ne_of_lt
theorem nI:type_of%@List.mem_map:=@List.mem_map
theorem nJ:type_of%@Nat.le_of_lt:=@Nat.le_of_lt
theorem nK:type_of%@Nat.add_zero:=@Nat.add_zero
theorem nM:type_of%@Nat.le_of_eq:=@Nat.le_of_eq
theorem nN:type_of%@Nat.le_refl:=@Nat.le_refl
theorem nO:type_of%@Nat.zero_le:=@Nat.zero_le
theorem nP:type_of%@Int.le_refl:=@Int.le_refl
theorem nQ:type_of%@wpAny_bind:=@wpAny_bind
theorem nS:type_of%@wpAny_pure:=@wpAny_pure
theorem nT:type_of%@wpAny_mono:=@wpAny_mono
theorem nU:type_of%@if_neg:=@if_neg
theorem nV:type_of%@if_pos:=@if_pos
abbrev nW:=PySem.W.Frag
end
namespace L2
open PySem PySem.Spec PyProof.Rows
def YC(s:Stmt)(j:Nat):Stmt:=match s with
 | .ClassDef _ _ _ body _ _ _ _ _ _ _=>body.getD j (.Pass ⟨0,0,0,0⟩)
 | _=>.Pass ⟨0,0,0,0⟩
def vM(s:Stmt):Arguments:=match s with
 | .FunctionDef _ a _ _ _ _ _ _ _ _=>a
 | _=>{ posonlyargs:=[],args:=[],vararg:=none,kwonlyargs:=[],kw_defaults:=[],kwarg:=none,defaults:=[] }
def vF(s:Stmt):List Stmt:=match s with
 | .FunctionDef _ _ b _ _ _ _ _ _ _=>b
 | _=>[]
def jJ(s:Stmt):Scope:=match s with
 | .FunctionDef _ _ _ _ _ _ sc _ _ _=>sc
 | _=>{ kind:=.function,names:=[],isGenerator:=false,isCoroutine:=false }
end L2
namespace Lw
open PySem PySem.Spec PyProof.Rows L2
def top(i:Nat):Stmt:=PySem.Challenge.pw_lowwater_k08_texts_judged.main.body.getD i (.Pass ⟨0,0,0,0⟩)
abbrev uR:Stmt:=top 13
abbrev PP:Stmt:=top 16
abbrev SL:Stmt:=top 17
abbrev sWF:Stmt:=top 23
abbrev sPw:Stmt:=top 24
abbrev MQ:Stmt:=top 25
abbrev WK:Stmt:=top 26
abbrev BJ:Stmt:=top 31
abbrev AM:Stmt:=top 32
abbrev FC:Stmt:=top 33
abbrev zF:Stmt:=top 34
abbrev FE:Stmt:=top 35
abbrev MS:Stmt:=top 36
abbrev AN:Stmt:=top 37
abbrev MR:Stmt:=top 38
abbrev uY:Stmt:=top 40
abbrev FF:Stmt:=top 41
abbrev HU:Stmt:=top 42
abbrev WL:Stmt:=top 43
abbrev wS:Stmt:=top 44
abbrev zY:Stmt:=top 45
abbrev MU:Stmt:=top 46
abbrev FI:Stmt:=top 47
abbrev MP:Stmt:=top 48
abbrev HV:Stmt:=top 49
abbrev AQ:Stmt:=top 50
abbrev AO:Stmt:=top 51
abbrev FH:Stmt:=top 52
abbrev MV:Stmt:=top 53
abbrev wR:Stmt:=top 54
abbrev FD:Stmt:=top 55
abbrev wT:Stmt:=top 56
abbrev MT:Stmt:=top 57
abbrev KF:Stmt:=top 58
inductive FnAt(K:nW)(x:Str)(st:Stmt):Prop
 | mk {f:Addr} {oc kV dc pm cd ct:Value} {od an:Option Addr} {sl:Array (Option Value)} (a:PySem.W.nsIn K mainGlobals x=some (some (.ref f))) (l:K.lookup f=some ⟨oc,od,.func (PySem.W.fnOf x x (vM st) (vF st) (jJ st) .none kV dc pm an cd ct),sl⟩) (c:PySem.W.codeIn K cd x=true) (k:PySem.W.keepIn K (.ref f)=true)
inductive PrAt(K:nW)(x:Str)(i j:Int):Prop
 | mk {f:Addr} {od:Option Addr} {sl:Array (Option Value)} {t u:Tok} {n:Nat} (a:PySem.W.nsIn K mainGlobals x=some (some (.ref f))) (l:K.lookup f=some ⟨.type "tuple",od,.seq #[.int i t,.int j u] n,sl⟩)
inductive IntAt(K:nW)(x:Str)(i:Int):Prop
 | mk {t:Tok} (a:PySem.W.nsIn K mainGlobals x=some (some (.int i t)))
inductive LtAt(K:nW):Prop
 | mk {f:Addr} {sl:Array (Option Value)} {n:Nat} {x0 x1 x2 x3:Tok} (a:PySem.W.nsIn K mainGlobals "LETTERS" = some (some (.ref f))) (l:K.lookup f=some ⟨.type "tuple",none,.seq #[.str (Str.ofString "a") x0,.str (Str.ofString "b") x1,.str (Str.ofString "c") x2,.str (Str.ofString "d") x3] n,sl⟩)
inductive FgAt(K:nW):Prop
 | mk {f:Addr} {sl:Array (Option Value)} {n:Nat} {x0 x1 x2 x3 x4 x5 x6 x7 x8 x9:Tok} (a:PySem.W.nsIn K mainGlobals "FIGURES" = some (some (.ref f))) (l:K.lookup f=some ⟨.type "tuple",none,.seq #[.str (Str.ofString "0") x0,.str (Str.ofString "1") x1,.str (Str.ofString "2") x2,.str (Str.ofString "3") x3,.str (Str.ofString "4") x4,.str (Str.ofString "5") x5,.str (Str.ofString "6") x6,.str (Str.ofString "7") x7,.str (Str.ofString "8") x8,.str (Str.ofString "9") x9] n,sl⟩)
abbrev zG:Stmt:=YC (top 1) 0
inductive C8At(K:nW)(st:Stmt):Prop
 | mk {fI tI cq cD e1 e2 e3 e4 e5 e6 e7 Nq Nd:Addr} {odI anI odt:Option Addr} {slI slt:Array (Option Value)} {itt:Array Value} {nt:Nat} {ocI kVI dcI pmI cdI ctI oct:Value} {bl bd:List Value}
  (m1:PySem.W.nsIn K mainGlobals "NoText" = some (some (.ref cq)))
  (m2:PySem.W.nsIn K mainGlobals "LowwaterError" = some (some (.ref cD)))
  (m3:PySem.W.nsIn K mainGlobals "NoLine" = some (some (.ref e1)))
  (m4:PySem.W.nsIn K mainGlobals "NoQuotient" = some (some (.ref e2)))
  (m5:PySem.W.nsIn K mainGlobals "NoRow" = some (some (.ref e3)))
  (m6:PySem.W.nsIn K mainGlobals "NotSecond" = some (some (.ref e4)))
  (m7:PySem.W.nsIn K mainGlobals "NotStraight" = some (some (.ref e5)))
  (m8:PySem.W.nsIn K mainGlobals "TooGreat" = some (some (.ref e6)))
  (m9:PySem.W.nsIn K mainGlobals "TooMany" = some (some (.ref e7)))
  {nmq qnq:Str} {bsq subq:List Value} {hdq abq:Bool} {snq:List Str} {colq:Option Bool} {ddq:Option Addr} {x0q x1q x2q x3q x5q:Option Value}
  (wqo:K.lookup cq=some (excClassObj nmq qnq cq Nq bsq bl hdq snq subq abq colq ddq x0q x1q x2q x3q x5q "ValueError.__new__"))
  (wqb:bl.contains (.type "ValueError")=true)
  (wqe:bl.contains (.type "BaseException")=true)
  (wqa:bl.contains (.type "AttributeError")=false)
  (wqn:bl.contains (.type "NameError")=false)
  (wqi:PySem.W.findIn K (.ref cq) "__init__" = some (some (.ref fI)))
  (wqk:PySem.W.keepIn K (.ref cq)=true)
  (wqg:PySem.W.findIn K (.ref cq) "__getattribute__" = some (some (.builtin "BaseException.__getattribute__")))
  (wqh:PySem.W.findIn K (.ref cq) "__getattr__" = some none)
  (wqc:PySem.W.findIn K (.ref cq) "__class__" = some (some (.builtin "object.__class__")))
  (wqm:PySem.W.mroIn K cq (.type "object")=some true)
  {nmd qnd:Str} {bsd subd:List Value} {hdd abd:Bool} {snd:List Str} {cold:Option Bool} {ddd:Option Addr} {x0d x1d x2d x3d x5d:Option Value}
  (wdo:K.lookup cD=some (excClassObj nmd qnd cD Nd bsd bd hdd snd subd abd cold ddd x0d x1d x2d x3d x5d "ValueError.__new__"))
  (wdb:bd.contains (.type "ValueError")=true)
  (wde:bd.contains (.type "BaseException")=true)
  (wda:bd.contains (.type "AttributeError")=false)
  (wdn:bd.contains (.type "NameError")=false)
  (wdi:PySem.W.findIn K (.ref cD) "__init__" = some (some (.ref fI)))
  (wdk:PySem.W.keepIn K (.ref cD)=true)
  (wdg:PySem.W.findIn K (.ref cD) "__getattribute__" = some (some (.builtin "BaseException.__getattribute__")))
  (wdh:PySem.W.findIn K (.ref cD) "__getattr__" = some none)
  (wdc:PySem.W.findIn K (.ref cD) "__class__" = some (some (.builtin "object.__class__")))
  (wdm:PySem.W.mroIn K cD (.type "object")=some true)
  (iL:K.lookup fI=some ⟨ocI,odI,.func (PySem.W.fnOf "__init__" "LowwaterError.__init__" (vM st) (vF st) (jJ st) (.ref tI) kVI dcI pmI anI cdI ctI),slI⟩)
  (iC:PySem.W.codeIn K cdI "LowwaterError.__init__" = true)
  (iT:K.lookup tI=some ⟨oct,odt,.seq itt nt,slt⟩)
  (iN:itt.size=1)
  (iF:PySem.W.typeIn K (.ref fI)=some (.type "function"))
  (up:bl.contains (.ref cD)=true)
  (ve:PySem.W.kitOne K (.ref cq) (.type "ValueError")=some true)
  (no:PySem.W.kitAny K (.ref cq) [.ref e1,.ref e2,.ref e3,.ref e4,.ref e5,.ref e6,.ref e7]=some false)
structure Facts(K:nW):Prop where
 f1:FnAt K "is_whole" uR
 f2:FnAt K "greatest_divisor" PP
 f3:FnAt K "is_fraction" SL
 f4:FnAt K "is_whole_from" sWF
 f5:FnAt K "are_powers" sPw
 f6:FnAt K "is_term" MQ
 f7:FnAt K "is_sum" WK
 f8:FnAt K "shown_number" BJ
 f9:FnAt K "shown_term" AM
 f10:FnAt K "shown" FC
 f11:FnAt K "read_whole" zF
 f12:FnAt K "read_number" FE
 f13:FnAt K "read_powers" MS
 f14:FnAt K "read_term" AN
 f15:FnAt K "read" MR
 f16:FnAt K "_law_draw" uY
 f17:FnAt K "_law_low" FF
 f18:FnAt K "_law_plus" HU
 f19:FnAt K "_law_put" WL
 f20:FnAt K "_law_number" wS
 f21:FnAt K "_law_fraction" zY
 f22:FnAt K "_law_sum" MU
 f23:FnAt K "_law_drawn" FI
 f24:FnAt K "_law_text" MP
 f25:FnAt K "_law_figures" HV
 f26:FnAt K "_law_fraction_read" AQ
 f27:FnAt K "_law_powers_read" AO
 f28:FnAt K "_law_read" FH
 f29:FnAt K "_law_bent_text" MV
 f30:FnAt K "_law_whole_parts" wR
 f31:FnAt K "_law_right" FD
 f32:FnAt K "_law_letters" wT
 f33:FnAt K "_law_long_text" MT
 f34:FnAt K "law" KF
 z1:PySem.W.nsIn K mainGlobals "isinstance" = some none
 z2:PySem.W.nsIn K mainGlobals "len" = some none
 z3:PySem.W.nsIn K mainGlobals "int" = some none
 z4:PySem.W.nsIn K mainGlobals "bool" = some none
 z5:PySem.W.nsIn K mainGlobals "tuple" = some none
 z6:PySem.W.nsIn K mainGlobals "list" = some none
 z7:PySem.W.nsIn K mainGlobals "abs" = some none
 z8:PySem.W.nsIn K mainGlobals "range" = some none
 z9:PySem.W.nsIn K mainGlobals "sum" = some none
 z10:PySem.W.nsIn K mainGlobals "zip" = some none
 z11:PySem.W.nsIn K mainGlobals "sorted" = some none
 z12:PySem.W.nsIn K mainGlobals "min" = some none
 z13:PySem.W.nsIn K mainGlobals "all" = some none
 z14:PySem.W.nsIn K mainGlobals "str" = some none
 z15:PySem.W.nsIn K mainGlobals "ValueError" = some none
 v1:IntAt K "LONG_BITS" 8000
 v2:IntAt K "MOST_LETTERS" 4
 v3:IntAt K "MOST_DEGREE" 16
 v4:IntAt K "MOST_TERMS" 500
 v5:IntAt K "MOST_SIGNS" 4000
 n1:PrAt K "NOUGHT" 0 1
 s1:LtAt K
 s2:FgAt K
 c8:C8At K zG
end Lw
section
open PySem PySem.W PyProof.Rows
namespace Lw
def view08:Program:={ PySem.Challenge.pw_lowwater_k08_texts_judged with main:={ PySem.Challenge.pw_lowwater_k08_texts_judged.main with body:=([1,2,3,4,5,6,7,8,9,11,12,13,14,15,16,17,19,20,21,22,23,24,25,26,28,29,30,31,32,33,34,35,36,37,38,40,41,42,43,44,45,46,47,48,49,50,51,52,53,54,55,56,57,58]:List Nat).filterMap λi=>PySem.Challenge.pw_lowwater_k08_texts_judged.main.body[i]? } }
end Lw
set_option maxRecDepth 100000 in
set_option maxHeartbeats 0 in
theorem Lw.said:OpenLaw.wellSaid PySem.Challenge.rw_lowwater_k08_texts_judged=true:=by kernel_rfl
local macro_rules | `(tactic| o_law)=>`(tactic| refine holds_law Lw.said λsaid=>?_)
local macro_rules | `(tactic| o_head $H)=>`(tactic| refine holds_open (q:=Lw.view08) (loose:=[Str.ofString "LowwaterError"]) (Xt:=λs=>xlAt Lw.view08 [] s&&recOk (RowW.records (PySem.Challenge.rw_lowwater_k08_texts_judged).row.toRowW) s) (XP:=XL Lw.view08 []) (Yf:=Hook.obs $H) (Ya:=Hook.val $H) (YP:=Hook.says $H) (N:=6616) (λw=>by unfold openEnds fencedOpening topFrom;rw[PySem.W.Fast.te10274390034422433532,PySem.W.Fast.te14082659384304107361,PySem.W.Fast.te1435165496053646825,PySem.W.Fast.te14289696077712309145,PySem.W.Fast.te8920871248978507458,PySem.W.Fast.te14364793385576792824,PySem.W.Fast.te4187177175401517315];kernel_rfl) (Hook.of $H) (Hook.keeps $H) (λs e=>xl_of s (Bool.and_eq_true_iff.mp e).1) XL.keeps (by rfl) (by rfl) (by rfl) (λs e=>recFacts_of (Bool.and_eq_true_iff.mp e).2) (by rfl) (by first | assumption | decide +kernel) (by decide +kernel) ⟨rfl,rfl,rfl,rfl,rfl,by decide +kernel⟩ ?hw ?hc)
set_option maxRecDepth 100000 in
set_option maxHeartbeats 0 in
theorem Lw.head(hn:∀(K:Params->Frag) (YP:World->Heap->Prop) (d:DefRec),(∀p,Lw.Facts (K p))->(∀w h,YP w h->(K w.params).In h)->d.params.defaults=[]->d.name="law"->WalkO Lw.view08 [Str.ofString "LowwaterError"] (XL Lw.view08 []) YP PySem.Challenge.rw_lowwater_k08_texts_judged.row.toRowW d [] λf vs=>PySem.call f vs):PySem.Challenge.rw_lowwater_k08_texts_judged.Holds:=by
 w_on;o_law;k_head;(case hw=>w_witness2)
 k_fill
 refine hn _ _ _ ?f (λw h Y=>kIn_of Y) rfl rfl;case f=>
  intro p;constructor;case c8=>
   refine' .mk ?m1 ?m2 ?m3 ?m4 ?m5 ?m6 ?m7 ?m8 ?m9 ?wqo ?wqb ?wqe ?wqa ?wqn ?wqi ?wqk ?wqg ?wqh ?wqc ?wqm ?wdo ?wdb ?wde ?wda ?wdn ?wdi ?wdk ?wdg ?wdh ?wdc ?wdm ?iL ?iC ?iT ?iN ?iF ?up ?ve ?no
   (case m1=>first | k_is | rfl | decide +kernel)
   (case m2=>first | k_is | rfl | decide +kernel)
   (case m3=>first | k_is | rfl | decide +kernel)
   (case m4=>first | k_is | rfl | decide +kernel)
   (case m5=>first | k_is | rfl | decide +kernel)
   (case m6=>first | k_is | rfl | decide +kernel)
   (case m7=>first | k_is | rfl | decide +kernel)
   (case m8=>first | k_is | rfl | decide +kernel)
   (case m9=>first | k_is | rfl | decide +kernel)
   (case wqo=>first | k_is | rfl | decide +kernel)
   (case wqb=>first | k_is | rfl | decide +kernel)
   (case wqe=>first | k_is | rfl | decide +kernel)
   (case wqa=>first | k_is | rfl | decide +kernel)
   (case wqn=>first | k_is | rfl | decide +kernel)
   (case wqi=>first | k_is | rfl | decide +kernel)
   (case wqk=>first | k_is | rfl | decide +kernel)
   (case wqg=>first | k_is | rfl | decide +kernel)
   (case wqh=>first | k_is | rfl | decide +kernel)
   (case wqc=>first | k_is | rfl | decide +kernel)
   (case wqm=>first | k_is | rfl | decide +kernel)
   (case wdo=>first | k_is | rfl | decide +kernel)
   (case wdb=>first | k_is | rfl | decide +kernel)
   (case wde=>first | k_is | rfl | decide +kernel)
   (case wda=>first | k_is | rfl | decide +kernel)
   (case wdn=>first | k_is | rfl | decide +kernel)
   (case wdi=>first | k_is | rfl | decide +kernel)
   (case wdk=>first | k_is | rfl | decide +kernel)
   (case wdg=>first | k_is | rfl | decide +kernel)
   (case wdh=>first | k_is | rfl | decide +kernel)
   (case wdc=>first | k_is | rfl | decide +kernel)
   (case wdm=>first | k_is | rfl | decide +kernel)
   (case iL=>first | k_is | rfl | decide +kernel)
   (case iC=>first | k_is | rfl | decide +kernel)
   (case iT=>first | k_is | rfl | decide +kernel)
   (case iN=>first | k_is | rfl | decide +kernel)
   (case iF=>first | k_is | rfl | decide +kernel)
   (case up=>first | k_is | rfl | decide +kernel)
   (case ve=>first | k_is | rfl | decide +kernel)
   (case no=>first | k_is | rfl | decide +kernel)
  all_goals first | (refine' .mk ?a ?l ?c ?k;(case a=>k_is);(case l=>k_is);(case c=>k_is);(case k=>k_is)) | (refine' .mk ?a ?l;(case a=>k_is);(case l=>k_is)) | (refine' .mk ?v;(case v=>k_is)) | k_is
end
namespace L2
open PySem PySem.Spec PyProof.Rows
abbrev Key:=Sum Int Str
def DZ:Key->Value->Bool
 | .inl k,v=>Value.isInt k v
 | .inr x,v=>Value.isStrOf x v
def keyH(w:World):Key->Int
 | .inl k=>hashInt k
 | .inr x=>hashStr w x
theorem qH:∀{k:Key} {v:Value},DZ k v=true->(∃i t,k=Sum.inl i/\v=Value.int i t)∨(∃x t,k=Sum.inr x/\v=Value.str x t)
 | .inl i,v,h=>by
  obtain⟨t,e⟩:=Value.isInt_shape (k:=i) (v:=v) h;exact .inl ⟨i,t,rfl,e⟩
 | .inr x,v,h=>by
  obtain⟨t,e⟩:=Value.isStrOf_shape (x:=x) (v:=v) h;exact .inr ⟨x,t,rfl,e⟩
theorem QL(i:Int)(t:Tok):DZ (.inl i) (.int i t)=true:=by simp [DZ,Value.isInt]
theorem QK(x:Str)(t:Tok):DZ (.inr x) (.str x t)=true:=by simp [DZ,Value.isStrOf]
theorem key_ll(a b:Int):decide ((Sum.inl a:Key)=Sum.inl b)=(a==b):=by
 by_cases e:a=b
 ·subst e;simp
 ·have h:¬(Sum.inl a:Key)=Sum.inl b:=λq=>e (Sum.inl.inj q);rw[mR h];exact(beq_eq_false_iff_ne.mpr e).symm
theorem key_rr(a b:Str):decide ((Sum.inr a:Key)=Sum.inr b)=decide (a=b):=by
 by_cases e:a=b
 ·subst e;simp
 ·have h:¬(Sum.inr a:Key)=Sum.inr b:=λq=>e (Sum.inr.inj q);rw[mR h,mR e]
theorem key_lr(a:Int)(b:Str):decide ((Sum.inl a:Key)=Sum.inr b)=false:=mR (λq=>nomatch q)
theorem key_rl(a:Str)(b:Int):decide ((Sum.inr a:Key)=Sum.inl b)=false:=mR (λq=>nomatch q)
def qK(prog:Program)(w:World):PySem.KeyKind prog w Key where
 is:=DZ
 hash:=keyH w
 inj:=λv a b ha hb=>by
  rcases qH ha with⟨i,t,rfl,rfl⟩ | ⟨x,t,rfl,rfl⟩
  ·rcases qH hb with⟨j,u,rfl,e⟩ | ⟨y,u,rfl,e⟩
   ·injection e with e1 _;rw[e1]
   ·exact nomatch e
  ·rcases qH hb with⟨j,u,rfl,e⟩ | ⟨y,u,rfl,e⟩
   ·exact nomatch e
   ·injection e with e1 _;rw[e1]
 byValue:=λk v h=>by
  rcases qH h with⟨i,t,rfl,rfl⟩ | ⟨x,t,rfl,rfl⟩<;>rfl
 pyHash:=λhv h=>by
  rcases qH hv with⟨i,t,rfl,rfl⟩ | ⟨x,t,rfl,rfl⟩
  ·exact wpAny_pyHash_int h
  ·exact wpAny_pyHash_str h
 eqBool:=λhu hv h=>by
  rcases qH hu with⟨i,t,rfl,rfl⟩ | ⟨x,t,rfl,rfl⟩
  ·rcases qH hv with⟨j,u,rfl,rfl⟩ | ⟨y,u,rfl,rfl⟩
   ·rw[key_ll]at h;exact wpAny_eqBool_int h
   ·rw[key_lr]at h;exact SeqAt.EqAt.int_str i t y u _ _ _ _ h
  ·rcases qH hv with⟨j,u,rfl,rfl⟩ | ⟨y,u,rfl,rfl⟩
   ·rw[key_rl]at h;exact SeqAt.EqAt.str_int x t j u _ _ _ _ h
   ·rw[key_rr]at h;exact wpAny_eqBool_str h
 «strs» :=λk x t v h=>by
  rcases qH h with⟨i,u,rfl,e⟩ | ⟨y,u,rfl,e⟩
  ·exact nomatch e
  ·injection e with e1 _
   subst e1;cases v<;>rfl
theorem IQ(prog:Program)(w:World)(i:Int)(t:Tok):(qK prog w).is (.inl i) (.int i t)=true:=QL i t
theorem IP(prog:Program)(w:World)(x:Str)(t:Tok):(qK prog w).is (.inr x) (.str x t)=true:=QK x t
inductive V where
 | non | bl (b:Bool) | int (i:Int) | str (x:Str) | byt (b:Array UInt8) | flt (b:UInt64) | ref (a:Addr) | ty (n:String)
 deriving DecidableEq
def RelV:V->Value->Prop
 | .non,u=>u=Value.none
 | .bl b,u=>u=Value.bool b
 | .int i,u=>∃t,u=Value.int i t
 | .str x,u=>∃t,u=Value.str x t
 | .byt b,u=>∃t,u=Value.bytes b t
 | .flt b,u=>∃t,u=Value.float b t
 | .ref a,u=>u=Value.ref a
 | .ty n,u=>u=Value.type n
abbrev Vals:List V->List Value->Prop:=Paired RelV
theorem Vals.length{xs:List V}{us:List Value}(r:Vals xs us):xs.length=us.length:=Paired.length r
theorem Vals.get:∀{xs:List V} {us:List Value} {i:Nat} {x:V},Vals xs us->xs[i]? = some x->∃u,us[i]? = some u/\RelV x u
 | _,_,_,_,.nil,e=>by simp at e
 | _,_,0,_,.cons r _,e=>by simp at e;subst e;exact⟨_,rfl,r⟩
 | _,_,i+1,x,.cons _ t,e=>by
  obtain⟨u,h1,h2⟩:=Vals.get (i:=i) (x:=x) t (by simpa using e);exact⟨u,by simpa using h1,h2⟩
theorem Vals.set{x:V}{u:Value}(r:RelV x u):∀{xs:List V} {us:List Value} (i:Nat),Vals xs us->Vals (xs.set i x) (us.set i u)
 | _,_,_,.nil=>.nil
 | _,_,0,.cons _ t=>.cons r t
 | _,_,i+1,.cons q t=>.cons q (Vals.set r i t)
theorem Vals.append:∀{xs ys:List V} {us ws:List Value},Vals xs us->Vals ys ws->Vals (xs++ys) (us++ws)
 | _,_,_,_,.nil,s=>s
 | _,_,_,_,.cons r t,s=>.cons r (Vals.append t s)
theorem Vals.take:∀{xs:List V} {us:List Value} (n:Nat),Vals xs us->Vals (xs.take n) (us.take n)
 | _,_,0,_=>.nil
 | _,_,_+1,.nil=>.nil
 | _,_,n+1,.cons r t=>.cons r (Vals.take n t)
theorem Vals.drop:∀{xs:List V} {us:List Value} (n:Nat),Vals xs us->Vals (xs.drop n) (us.drop n)
 | _,_,0,r=>r
 | _,_,_+1,.nil=>.nil
 | _,_,n+1,.cons _ t=>Vals.drop n t
def RelO:Option V->Option Value->Prop
 | some v,some u=>RelV v u
 | none,none=>True
 | _,_=>False
def KV{κ:Type} :List (κ×V)->List (κ×Value)->Prop:=Paired λ(p:κ×V) (q:κ×Value)=>p.1=q.1/\RelV p.2 q.2
def kV:Key->V
 | .inl i=>.int i
 | .inr x=>.str x
inductive HO where
 | lst (xs:List V)
 | tup (xs:List V)
 | dK (ai:List (Key×V)) | dT (ai:List (List Key×V))
 | set (S:Int->Bool) (n:Nat)
 | ins (C dx:Addr) (fs:List (Str×V))
 | own (x:Addr)
 | xd (fs:List (Str×V))
 | met (f x:Addr)
 | rng (lo hi:Int)
 | frz (o:Obj) (u:HO)
 | tbl (ps:Array Value)
 | ext (φ:Heap->Prop)
abbrev Hp:=Addr->Option HO
def upd(H:Hp)(a:Addr)(o:HO):Hp:=λb=>if b=a then some o else H b
theorem jF{H:Hp}{a:Addr}{o:HO} :upd H a o a=some o:=by unfold upd;rw[nV rfl]
theorem jN{H:Hp}{a b:Addr}{o:HO}(h:b≠a):upd H a o b=H b:=by unfold upd;rw[nU h]
theorem ZB{H:Hp}{a b:Addr}{o u:HO}(h:H a=some o)(h':H b=some u)(d:o≠u):a≠b:=by
 intro e;subst e;rw[h]at h';exact d (Option.some.inj h')
theorem jY{H:Hp}{a b:Addr}{o:HO}(h:H a=some o)(h':H b=none):a≠b:=by
 intro e;subst e;rw[h]at h';cases h'
def NoD(h:Heap)(a:Addr):Prop:=∀o,h.get? a=some o->o.dict=none
theorem NoD.of{h:Heap}{a:Addr}{o:Obj}(e:h.get? a=some o)(d:o.dict=none):NoD h a:=λo' e'=>by rw[e]at e';cases e';exact d
section
variable(P:Program)(w:World)
def ObjOk(H:Hp)(h:Heap)(a:Addr):HO->Prop
 | .lst xs=>xs.length<=sizeLine/\∃(its:List Value) (n:Nat),Vals xs its/\h.get? a=some { cls:=.type "list",data:=.seq its.toArray n }
 | .tup xs=>xs.length<=sizeLine/\∃its:List Value,Vals xs its/\IsTup h a its.toArray/\NoD h a
 | .dK ai=>ai.length<=sizeLine/\(a==sysModules)=false/\∃vs,KV ai vs/\h.DictOf (qK P w) a vs
 | .dT ai=>ai.length<=sizeLine/\(a==sysModules)=false/\∃xs:List (List Key×Addr×Value),
   Paired (λ(p:List Key×V) (q:List Key×Addr×Value)=>p.1=q.1/\H q.2.1=some (.tup (p.1.map kV))/\RelV p.2 q.2.2) ai xs/\
   ∃o es ep,h.get? a=some o/\o.ExactDict/\o.data=.dict es ep/\es.toList=xs.map (entryOfKey (tupleKind (qK P w)))/\(xs.map (·.1)).Nodup
 | .set S n=>h.SetOf (intKind P w) a S n
 | .ins C dx fs=>H dx=some (.own a)/\fs.length<=1000/\dx≠a/\h.get? a=some (PySem.W.instObj C dx)/\
   ∃mA,h.Ns1 dx mA/\(∀f,RelO (fs.lookup f) (mA f))/\PySem.Within mA (fs.map (·.1))
 | .own _=>∃o,h.get? a=some o
 | .xd fs=>∃mA,h.Ns1 a mA/\∀f,RelO (fs.lookup f) (mA f)
 | .rng lo hi=>∃t u v,h.get? a=some { cls:=.type "range",data:=.fields #[.int lo t,.int hi u,.int 1 v] }
 | .frz o u=>h.get? a=some o/\ObjOk H h a u
 | .tbl ps=>h.get? a=some { cls:=.none,data:=.fields ps }
 | .met f x=>h.get? a=some (PySem.W.methodObj (.ref f) (.ref x))
 | .ext φ=>φ h/\(∃o,h.get? a=some o)/\∀h1 h2:Heap,φ h1->(∀o,h1.get? a=some o->h2.get? a=some o)->φ h2
def HOk(H:Hp)(h:Heap):Prop:=∀a o,H a=some o->ObjOk P w H h a o
end
section
variable{P:Program}{w:World}{H H':Hp}{h h':Heap}{a:Addr}{o:HO}
theorem ObjOk.lt(x:ObjOk P w H h a o):a<h.objs.size:=by
 cases o with
 | lst xs=>obtain⟨_,_,_,_,e⟩:=x;exact nF e
 | tup xs=>obtain⟨_,_,_,p⟩:=x;exact p.1.lt
 | dK ai=>obtain⟨_,_,_,_,o,_,_,e,_⟩:=x;exact nF e
 | dT ai=>obtain⟨_,_,_,_,o,_,_,e,_⟩:=x;exact nF e
 | set S n=>obtain⟨o,_,_,_,e,_⟩:=x;exact nF e
 | ins C dx fs=>obtain⟨_,_,_,e,_⟩:=x;exact nF e
 | own y=>obtain⟨_,e⟩:=x;exact nF e
 | xd fs=>obtain⟨_,⟨_,_,_,e,_⟩,_⟩:=x;exact nF e
 | rng lo hi=>obtain⟨_,_,_,e⟩:=x;exact nF e
 | frz ob u=>obtain⟨e,_⟩:=x;exact nF e
 | tbl ps=>exact nF (show h.get? a=some _ from x)
 | met f y=>exact nF (show h.get? a=some _ from x)
 | ext φ=>obtain⟨_,⟨_,e⟩,_⟩:=x;exact nF e
theorem Paired.mapP{α β:Type}{F G:α->β->Prop} :∀{l₁:List α} {l₂:List β},Paired F l₁ l₂->(∀a b,F a b->G a b)->Paired G l₁ l₂
 | _,_,.nil,_=>.nil
 | _,_,.cons r t,f=>.cons (f _ _ r) (Paired.mapP t f)
theorem ObjOk.stay(x:ObjOk P w H h a o)(k:∀b u,(b=a∨H b=some (.own a))->h.get? b=some u->h'.get? b=some u)
  (ho:∀b,H b=some (.own a)->H' b=some (.own a)) (ht:∀b xs,H b=some (.tup xs)->H' b=some (.tup xs)):ObjOk P w H' h' a o:=by
 induction o with
 | lst xs=>obtain⟨z,its,n,r,e⟩:=x;exact⟨z,its,n,r,k _ _ (.inl rfl) e⟩
 | tup xs=>obtain⟨z,its,r,⟨ob,e,c⟩,nd⟩:=x;exact⟨z,its,r,⟨ob,k _ _ (.inl rfl) e,c⟩,.of (k _ _ (.inl rfl) e) (nd _ e)⟩
 | dK ai=>obtain⟨z,y,vs,r,ob,es,ep,e,c⟩:=x;exact⟨z,y,vs,r,ob,es,ep,k _ _ (.inl rfl) e,c⟩
 | dT ai=>
  obtain⟨z,y,xs,r,ob,es,ep,e,c⟩:=x;exact⟨z,y,xs,Paired.mapP r λp q z=>⟨z.1,ht _ _ z.2.1,z.2.2⟩,ob,es,ep,k _ _ (.inl rfl) e,c⟩
 | set S n=>obtain⟨ob,es,ep,t,e,c⟩:=x;exact⟨ob,es,ep,t,k _ _ (.inl rfl) e,c⟩
 | ins C dx fs=>
  obtain⟨d,z,ne,e,mA,⟨od,es,ep,e2,c⟩,r⟩:=x;exact⟨ho _ d,z,ne,k _ _ (.inl rfl) e,mA,⟨od,es,ep,k _ _ (.inr d) e2,c⟩,r⟩
 | own y=>obtain⟨ob,e⟩:=x;exact⟨ob,k _ _ (.inl rfl) e⟩
 | xd fs=>obtain⟨mA,⟨od,es,ep,e,c⟩,r⟩:=x;exact⟨mA,⟨od,es,ep,k _ _ (.inl rfl) e,c⟩,r⟩
 | rng lo hi=>obtain⟨t,u,v,e⟩:=x;exact⟨t,u,v,k _ _ (.inl rfl) e⟩
 | frz ob u ih=>obtain⟨e,q⟩:=x;exact⟨k _ _ (.inl rfl) e,ih q⟩
 | tbl ps=>
  have e:h.get? a=some { cls:=.none,data:=.fields ps } :=x;show h'.get? a=some { cls:=.none,data:=.fields ps };exact k a _ (.inl rfl) e
 | met f y=>
  have e:h.get? a=some (PySem.W.methodObj (.ref f) (.ref y)):=x;show h'.get? a=some (PySem.W.methodObj (.ref f) (.ref y));exact k a _ (.inl rfl) e
 | ext φ=>obtain⟨p,⟨o,e⟩,st⟩:=x;exact⟨st _ _ p λo q=>k _ _ (.inl rfl) q,⟨o,k _ _ (.inl rfl) e⟩,st⟩
theorem HOk.lt(x:HOk P w H h)(e:H a=some o):a<h.objs.size:=(x a o e).lt
theorem HOk.fresh(x:HOk P w H h)(e:h.objs.size<=a):H a=none:=by
 cases q:H a with
 | none=>rfl
 | some u=>exact absurd (hX (x.lt q) e) (mZ _)
theorem HOk.kept(x:HOk P w H h)(k:∀b u,h.get? b=some u->h'.get? b=some u):HOk P w H h':=λa o e=>
 (x a o e).stay (λb u _ q=>k b u q) (λ_ q=>q) λ_ _ q=>q
theorem HOk.laid(x:HOk P w H h)(k:∀b u,h.get? b=some u->h'.get? b=some u)(hp:h.objs.size<=a)(new:ObjOk P w (upd H a o) h' a o):HOk P w (upd H a o) h':=λb u e=>by
 have hn:=x.fresh hp;by_cases hb:b=a
 ·subst hb;rw[jF]at e;cases e;exact new
 ·rw[jN hb]at e;exact(x b u e).stay (λc v _ q=>k c v q) (λc q=>by rw[jN (jY q hn)];exact q) λc xs q=>by rw[jN (jY q hn)];exact q
end
def Rd(H:Hp)(a:Addr)(u:HO):Prop:=H a=some u∨∃o,H a=some (.frz o u)
theorem Rd.ok{P:Program}{w:World}{H:Hp}{h:Heap}{a:Addr}{u:HO}(r:Rd H a u)(x:HOk P w H h):ObjOk P w H h a u:=by
 rcases r with r | ⟨o,r⟩
 ·exact x a u r
 ·obtain⟨_,q⟩:=x a _ r;exact q
def Mut:Option HO->Prop
 | some (.lst _)=>True
 | some (.dK _)=>True
 | some (.dT _)=>True
 | some (.set _ _)=>True
 | some (.ins _ _ _)=>True
 | some (.ext _)=>True
 | _=>False
section
variable{P:Program}{w:World}{H:Hp}{h h':Heap}{x e:Addr}{o':HO}
theorem HOk.write(ok:HOk P w H h)(mu:Mut (H x))(he:e=x∨H e=some (.own x))(k:∀b u,b≠e->h.get? b=some u->h'.get? b=some u)(heo:∃u,h'.get? e=some u)
  (new:ObjOk P w (upd H x o') h' x o'):HOk P w (upd H x o') h':=λb u q=>by
 have nown:∀c y,H c=some (.own y)->c≠x:=λc y r z=>by subst z;rw[r]at mu;exact mu
 have ntup:∀c xs,H c=some (.tup xs)->c≠x:=λc xs r z=>by subst z;rw[r]at mu;exact mu
 by_cases hb:b=x
 ·subst hb;rw[jF]at q;cases q;exact new
 ·rw[jN hb]at q;by_cases hbe:b=e
  ·have q':H b=some (.own x):=by
    rcases he with z | z
    ·exact absurd (hbe.trans z) hb
    ·rw[hbe];exact z
   rw[q]at q';cases q';obtain⟨v,hv⟩:=heo;exact⟨v,by rw[hbe];exact hv⟩
  ·refine(ok b u q).stay (λc v hc r=>k c v ?_ r) (λc r=>by rw[jN (nown c b r)];exact r) λc xs r=>by rw[jN (ntup c xs r)];exact r
   rcases hc with rfl | hc
   ·exact hbe
   ·rintro rfl;rcases he with z | z
    ·exact nown c b hc z
    ·rw[hc]at z;cases z;exact hb rfl
end
structure Un(fs ex:List Addr)(H H':Hp)(h h':Heap):Prop where
 keep:∀b o,h.get? b=some o->H b=none->b∉fs->b∉ex->h'.get? b=some o
 slot:∀b o,h.get? b=some o->H b=none->b∈fs->b∉ex->∃sl,h'.get? b=some { o with slots:=sl }
 free:∀b o,h.get? b=some o->H b=none->b∉ex->H' b=none
 there:∀b o,h.get? b=some o->b∉ex->∃o',h'.get? b=some o'
 tups:∀b xs,H b=some (.tup xs)->H' b=some (.tup xs)
 frzs:∀b o u,H b=some (.frz o u)->H' b=some (.frz o u)
 tbls:∀b ps,H b=some (.tbl ps)->∃more,H' b=some (.tbl (ps++more))
section
variable{fs fs' ex ex':List Addr}{H H1 H2:Hp}{h h1 h2 h':Heap}{a x e:Addr}{o:HO}
theorem Un.any(u:Un fs ex H H1 h h1){b:Addr}{ob:Obj}(q:h.get? b=some ob)(n:H b=none)(hx:b∉ex):∃sl,h1.get? b=some { ob with slots:=sl } :=by
 by_cases hb:b∈fs
 ·exact u.slot b ob q n hb hx
 ·exact⟨ob.slots,u.keep b ob q n hb hx⟩
theorem Un.kept(k:∀b u,h.get? b=some u->h'.get? b=some u):Un fs ex H H h h':=
 ⟨λb ob q _ _ _=>k b ob q,λb ob q _ _ _=>⟨ob.slots,k b ob q⟩,λ_ _ _ n _=>n,λb ob q _=>⟨ob,k b ob q⟩,λ_ _ q=>q,λ_ _ _ q=>q,λ_ ps q=>⟨#[],by rw[q];simp⟩⟩
theorem Un.refl:Un fs ex H H h h:=Un.kept λ_ _ q=>q
theorem Un.laid(k:∀b u,h.get? b=some u->h'.get? b=some u)(hp:h.objs.size<=a)(hn:H a=none):Un fs ex H (upd H a o) h h' where
 keep:=λb u q _ _ _=>k b u q
 slot:=λb u q _ _ _=>⟨u.slots,k b u q⟩
 free:=λb u q n _=>by rw[jN (nH (hX (nF q) hp))];exact n
 there:=λb u q _=>⟨u,k b u q⟩
 tups:=λb xs q=>by rw[jN (jY q hn)];exact q
 frzs:=λb u xs q=>by rw[jN (jY q hn)];exact q
 tbls:=λb ps q=>⟨#[],by rw[jN (jY q hn),q];simp⟩
theorem Un.write(mu:Mut (H x))(he:e=x∨H e=some (.own x))(k:∀b u,b≠e->h.get? b=some u->h'.get? b=some u)(heo:∃u,h'.get? e=some u):Un fs ex H (upd H x o) h h':=by
 have hx:∀b,H b=none->b≠x:=λb n z=>by subst z;rw[n]at mu;exact mu
 have hb:∀b,H b=none->b≠e:=λb n z=>by
  subst z;rcases he with r | r
  ·exact hx b n r
  ·rw[n]at r;cases r
 have hm:∀b u,H b=some u->¬Mut (some u)->b≠x:=λb u q nm z=>by subst z;rw[q]at mu;exact nm mu
 refine⟨λb u q n _ _=>k b u (hb b n) q,λb u q n _ _=>⟨u.slots,k b u (hb b n) q⟩,λb u q n _=>by rw[jN (hx b n)];exact n,λb u q _=>?_,
  λb xs q=>by rw[jN (hm b _ q λz=>z)];exact q,λb u xs q=>by rw[jN (hm b _ q λz=>z)];exact q,λb ps q=>⟨#[],by rw[jN (hm b _ q λz=>z),q];simp⟩⟩
 by_cases hbe:b=e
 ·subst hbe;exact heo
 ·exact⟨u,k b u hbe q⟩
end
def trk(h:Heap)(H:Hp):List Addr:=(List.range h.objs.size).filter λa=>(H a).isSome
def GJ(h:Heap)(H:Hp):Heap:=PySem.W.hideAll h (trk h H)
theorem QQ(h:Heap)(H:Hp):(GJ h H).objs.size=h.objs.size:=PySem.W.hideAll_size _ _
theorem UO{h:Heap}{H:Hp}{b:Addr}{o:Obj}(e:h.get? b=some o)(n:H b=none):(GJ h H).get? b=some o:=
 PySem.W.hideAll_get _ e λhm=>by
  have q:(H b).isSome=true:=(List.mem_filter.mp hm).2;rw[n]at q;simp at q
theorem XH{h:Heap}{H:Hp}{b:Addr}{o:Obj}(e:(GJ h H).get? b=some o):h.get? b=some o/\H b=none:=by
 have e':h.get? b=some o:=PySem.W.of_hideAll (trk h H) e;refine⟨e', ?_⟩;cases q:H b with
 | none=>rfl
 | some x=>
  have hm:b∈trk h H:=List.mem_filter.mpr ⟨mV.mpr (nF e'),by simp [q]⟩;have z:(GJ h H).get? b=none:=PySem.W.hideAll_none (trk h H) hm;rw[z]at e;cases e
def xL(g h:Heap)(L:Addr):List (Addr×Obj):=(List.range h.objs.size).filterMap λa=>if a=L∨(g.get? a).isSome=true then none else(h.get? a).map λo=>(a,o)
theorem xY{g h:Heap}{L a:Addr}{o:Obj}(h1:a≠L)(h2:g.get? a=none)(h3:h.get? a=some o):(a,o)∈xL g h L:=
 List.mem_filterMap.mpr ⟨a,mV.mpr (nF h3),by simp [h1,h2,h3]⟩
theorem BW{g h:Heap}{L:Addr}{p:Addr×Obj}(hp:p∈xL g h L):p.1≠L/\g.get? p.1=none/\h.get? p.1=some p.2:=by
 obtain⟨b,_,e⟩:=List.mem_filterMap.mp hp;split at e
 ·cases e
 ·rename_i hn;cases q:h.get? b with
  | none=>rw[q]at e;simp at e
  | some u=>
   rw[q]at e;simp only[Option.map_some,Option.some.injEq]at e;subst e;refine⟨λz=>hn (.inl z), ?_,q⟩;show g.get? b=none;cases r:g.get? b with
   | none=>rfl
   | some v=>exact(hn (.inr (by simp [r]))).elim
theorem IN{g h:Heap}{L:Addr} :News g L h (xL g h L):=λp hp=>let ⟨a,b,c⟩:=BW hp;⟨c,a,b⟩
structure Mod(K:nW)(mg:Str->Option Value)(base:Heap):Prop where
 kin:K.In base
 glob:base.Ns mainGlobals mg
 blt:∃mb,base.Ns builtinsNs mb/\∀x:Str,x≠"__name__"->mb x=bootBuiltins x
 nolimit:base.NoLimit
structure Cx where
 prog:Program
 w:World
 K:nW
 mg:Str->Option Value
 base:Heap
 A:Around
 N:List Str
 s₀:Shared
 H₀:Hp
 env:Env
 outer:List Env
 stack:List Env
 ex:List Addr
 fn:Str->Bool
 calm:Bool
 pn:List (Addr×Obj)
 xe:Value->Shared->Prop
def frs(l:List Env):List Addr:=l.filterMap (·.frame)
abbrev Cx.fs(X:Cx):List Addr:=frs X.outer
def Vis(sc:Scope)(x:Str):Prop:=sc.names.lookup x=some .local∨sc.names.lookup x=some .cell∨sc.names.lookup x=some .free
def Loc(sc:Scope)(x:Str):Prop:=sc.names.lookup x=some .local∨sc.names.lookup x=some .cell
def Look(env:Env)(h:Heap)(m:Str->Option Value)(x:Str)(u:Value):Prop:=
 (env.kindOf x=some .local/\m x=some u)∨((env.kindOf x=some .cell∨env.kindOf x=some .free)/\∃c,env.cells.lookup x=some c/\h.IsCell c (some u))
structure Cx.Ok(X:Cx):Prop where
 mod:Mod X.K X.mg X.base
 kind:X.env.scope.kind=.function
 glob:X.env.globals=mainGlobals
 blt:X.env.builtins=builtinsNs
 above:X.s₀.heap.objs.size<=X.env.locals
 inj:∀x y c,X.env.cells.lookup x=some c->X.env.cells.lookup y=some c->x=y
 has:∀x,(X.env.kindOf x=some .cell∨X.env.kindOf x=some .free)->∃c,X.env.cells.lookup x=some c
 cab:∀x c,X.fn x=true->X.env.cells.lookup x=some c->X.s₀.heap.objs.size<=c
 hd:X.calm=true->X.A.handled=none
 frames:X.A.frames=some X.stack
 stk:X.stack=X.outer∨(X.stack=X.env::X.outer/\X.env.frame=some X.env.locals)
 exf:∀b∈X.ex,b≠X.env.locals/\∀x c,X.env.cells.lookup x=some c->c≠b
 bs:∀b o,X.base.get? b=some o->X.s₀.heap.get? b=some o/\X.H₀ b=none
 bsz:X.base.objs.size<=X.s₀.heap.objs.size
 noex:∀b o,X.base.get? b=some o->b∉X.ex
 exfs:∀b∈X.ex,b∉X.fs
 funs:X.s₀.heap.FunFrames X.base X.outer
 frf:∀b∈X.fs,X.H₀ b=none
structure Inv(X:Cx)(af:List (Addr×Obj))(σ:List (Option V))(H:Hp)(s:Shared):Prop where
 ok:X.Ok
 os:s.os=X.s₀.os
 bare:AllBare s.gens
 base:Un X.fs X.ex X.H₀ H X.s₀.heap s.heap
 loc:∃m,s.heap.Ns X.env.locals m/\∀(i:Nat) (x:Str) (v:V),X.N[i]? = some x->σ[i]? = some (some v)->Vis X.env.scope x->∃u,RelV v u/\Look X.env s.heap m x u
 cell:∀x c,X.env.cells.lookup x=some c->∃v,s.heap.IsCell c v
 free:H X.env.locals=none
 freeC:∀x c,X.env.cells.lookup x=some c->H c=none
 pin:∀p∈X.pn++af,s.heap.get? p.1=some p.2/\H p.1=none/\p.1≠X.env.locals/\p.1∉X.fs/\∀v,p.2.data≠.cell v
 hok:HOk X.prog X.w H s.heap
 len:σ.length=X.N.length
section
variable{X:Cx}{af:List (Addr×Obj)}{σ:List (Option V)}{H H':Hp}{s:Shared}{h':Heap}
theorem Cx.Ok.nofr(ok:X.Ok){b:Addr}{o:Obj}(e:X.base.get? b=some o):b∉X.fs:=λhb=>by
 have:=(ok.funs.mem hb).1;rw[e]at this;cases this
theorem Inv.bs(I:Inv X af σ H s):∀b o,X.base.get? b=some o->s.heap.get? b=some o/\H b=none:=λb o e=>
 ⟨I.base.keep b o (I.ok.bs b o e).1 (I.ok.bs b o e).2 (I.ok.nofr e) (I.ok.noex b o e),I.base.free b o (I.ok.bs b o e).1 (I.ok.bs b o e).2 (I.ok.noex b o e)⟩
theorem Inv.bk(I:Inv X af σ H s):∀b o,X.base.get? b=some o->s.heap.get? b=some o:=λb o e=>(I.bs b o e).1
theorem Inv.mod(I:Inv X af σ H s):Mod X.K X.mg X.base:=I.ok.mod
theorem Inv.kIn(I:Inv X af σ H s):X.K.In s.heap:=I.ok.mod.kin.keeps I.bk
theorem Inv.fr(I:Inv X af σ H s):∃m,Fr X.base X.env.locals s.heap m:=
 let ⟨m,hn,_⟩:=I.loc
 ⟨m,hn,I.bk,nG I.ok.bsz I.ok.above⟩
theorem Inv.lt(I:Inv X af σ H s):X.env.locals<s.heap.objs.size:=let ⟨_,hn,_⟩:=I.loc;hn.lt
theorem Inv.sz(I:Inv X af σ H s):X.s₀.heap.objs.size<=s.heap.objs.size:=nG I.ok.above (nJ I.lt)
theorem Inv.nofs(I:Inv X af σ H s){a:Addr}(h:s.heap.objs.size<=a):a∉X.fs:=λhb=>by
 obtain⟨_,o,ho,_⟩:=I.ok.funs.mem hb;exact absurd (hX (nF ho) (nG I.sz h)) (mZ _)
theorem Inv.cne(I:Inv X af σ H s):∀x c,X.env.cells.lookup x=some c->c≠X.env.locals:=λx c e z=>by
 obtain⟨v,o,ho,hd⟩:=I.cell x c e;obtain⟨m,⟨o',es,ep,ho',hd',_⟩,_⟩:=I.loc;rw[z,ho']at ho;cases ho;rw[hd']at hd;cases hd
theorem Inv.funs(I:Inv X af σ H s):s.heap.FunFrames X.base X.outer:=by
 have all:∀(l:List Env),(∀b∈frs l,b∈X.fs)->X.s₀.heap.FunFrames X.base l->s.heap.FunFrames X.base l:=by
  intro l;induction l with
  | nil=>intro _ _;trivial
  | cons env r ih=>
   intro hs hl;obtain⟨hk,⟨L,o,hf,hn,ho,hd⟩,hr⟩:=hl;have hL:L∈X.fs:=hs L (by unfold frs;rw[List.filterMap_cons,hf];exact mC);obtain⟨sl,e⟩:=I.base.slot L o ho (I.ok.frf L hL) hL λz=>I.ok.exfs L z hL;exact⟨hk,⟨L,_,hf,hn,e,hd⟩,ih (λb hb=>hs b (by unfold frs;rw[List.filterMap_cons,hf];exact gY _ hb)) hr⟩
 exact all X.outer (λ_ hb=>hb) I.ok.funs
theorem Inv.stack(I:Inv X af σ H s):s.heap.FunFrames X.base X.stack:=by
 rcases I.ok.stk with e | ⟨e,hf⟩
 ·rw[e];exact I.funs
 ·rw[e];obtain⟨m,hn,_⟩:=I.loc;refine .cons (by rw[I.ok.kind];decide) hf hn ?_ I.funs;exact Heap.get?_none_of_le (nG I.ok.bsz I.ok.above)
theorem Inv.stkSub(I:Inv X af σ H s):∀b∈frs X.stack,b∈X.env.locals::X.fs:=λb hb=>by
 rcases I.ok.stk with e | ⟨e,hf⟩
 ·rw[e]at hb;exact gY _ hb
 ·rw[e]at hb;unfold frs at hb;rw[List.filterMap_cons,hf]at hb;exact hb
theorem Inv.stkFree(I:Inv X af σ H s):∀b∈frs X.stack,H b=none:=λb hb=>by
 rcases mY.mp (I.stkSub b hb)with e | hb
 ·rw[e];exact I.free
 ·obtain⟨_,o,ho,_⟩:=I.ok.funs.mem hb;exact I.base.free b o ho (I.ok.frf b hb) λz=>I.ok.exfs b z hb
theorem Inv.step{g':Array GenState}{t':Nat}{d':Drawn}{ch:List Addr}(I:Inv X af σ H s)
  (hch:∀b∈ch,(b∈X.ex∨X.s₀.heap.objs.size<=b)/\b≠X.env.locals/\(∀x c,X.env.cells.lookup x=some c->c≠b)/\∀p∈X.pn++af,p.1≠b)
  (keep:∀b o,b≠X.env.locals->b∉X.fs->b∉ch->s.heap.get? b=some o->H b=none->h'.get? b=some o)
  (slot:∀b o,b≠X.env.locals->b∈X.fs->b∉ch->s.heap.get? b=some o->H b=none->∃sl,h'.get? b=some { o with slots:=sl }) (free:∀b o,b∉ch->s.heap.get? b=some o->H b=none->H' b=none)
  (there:∀b o,b∉ch->s.heap.get? b=some o->∃o',h'.get? b=some o')
  (tups:∀b xs,H b=some (.tup xs)->H' b=some (.tup xs)) (frzs:∀b o u,H b=some (.frz o u)->H' b=some (.frz o u)) (tbls:∀b ps,H b=some (.tbl ps)->∃more,H' b=some (.tbl (ps++more)))
  (ns:∀m,s.heap.Ns X.env.locals m->h'.Ns X.env.locals m) (hok:HOk X.prog X.w H' h') (hg:AllBare g') :
  Inv X af σ H' { s with heap:=h',gens:=g',drawn:=d',toks:=t' } :=by
 have neL:∀b o,X.s₀.heap.get? b=some o->b≠X.env.locals:=λb o e=>nH (hX (nF e) I.ok.above);have neC:∀b o,X.s₀.heap.get? b=some o->b∉X.ex->b∉ch:=λb o e hx hb=>by
  rcases(hch b hb).1 with z | z
  ·exact hx z
  ·exact absurd (hX (nF e) z) (mZ _)
 have cellK:∀x c,X.env.cells.lookup x=some c->∀v,s.heap.IsCell c v->h'.IsCell c v:=λx c e v ⟨o,ho,hd⟩=>by
  have nch:c∉ch:=λz=>(hch c z).2.2.1 x c e rfl;by_cases hc:c∈X.fs
  ·obtain⟨sl,q⟩:=slot c o (I.cne x c e) hc nch ho (I.freeC x c e);exact⟨_,q,hd⟩
  ·exact⟨o,keep c o (I.cne x c e) hc nch ho (I.freeC x c e),hd⟩
 refine⟨I.ok,I.os,hg,⟨λb o e n hb hx=>?_,λb o e n hb hx=>?_,λb o e n hx=>?_,λb o e hx=>?_,λb xs e=>tups b xs (I.base.tups b xs e),λb o xs e=>frzs b o xs (I.base.frzs b o xs e),λb ps e=>?_⟩, ?_,λx c e=>?_, ?_,λx c e=>?_,λp hp=>?_,hok,I.len⟩
 ·exact keep b o (neL b o e) hb (neC b o e hx) (I.base.keep b o e n hb hx) (I.base.free b o e n hx)
 ·obtain⟨sl,e1⟩:=I.base.slot b o e n hb hx;obtain⟨sl',e2⟩:=slot b _ (neL b o e) hb (neC b o e hx) e1 (I.base.free b o e n hx);exact⟨sl',e2⟩
 ·obtain⟨o',e1⟩:=I.base.there b o e hx;exact free b o' (neC b o e hx) e1 (I.base.free b o e n hx)
 ·obtain⟨o',e1⟩:=I.base.there b o e hx;exact there b o' (neC b o e hx) e1
 ·obtain⟨m1,e1⟩:=I.base.tbls b ps e;obtain⟨m2,e2⟩:=tbls b _ e1;exact⟨m1++m2,by rw[e2,Array.append_assoc]⟩
 ·obtain⟨m,hn,hl⟩:=I.loc;refine⟨m,ns m hn,λi x v e1 e2 e3=>?_⟩;obtain⟨u,r,l⟩:=hl i x v e1 e2 e3;refine⟨u,r, ?_⟩;rcases l with l | ⟨k,c,e,z⟩
  ·exact .inl l
  ·exact .inr ⟨k,c,e,cellK x c e _ z⟩
 ·obtain⟨v,z⟩:=I.cell x c e;exact⟨v,cellK x c e v z⟩
 ·obtain⟨m,⟨o,_,_,ho,_⟩,_⟩:=I.loc;exact free _ o (λz=>(hch _ z).2.1 rfl) ho I.free
 ·obtain⟨v,o,ho,hd⟩:=I.cell x c e;exact free c o (λz=>(hch c z).2.2.1 x c e rfl) ho (I.freeC x c e)
 ·obtain⟨e,n,ne,nf,d⟩:=I.pin p hp;have nch:p.1∉ch:=λz=>(hch p.1 z).2.2.2 p hp rfl;exact⟨keep p.1 p.2 ne nf nch e n,free p.1 p.2 nch e n,ne,nf,d⟩
theorem Inv.un{t':Nat}(I:Inv X af σ H s)(u:Un X.fs [] H H' s.heap h')(hok:HOk X.prog X.w H' h'):Inv X af σ H' { s with heap:=h',toks:=t' } :=by
 obtain⟨m,⟨o,es,ep,ho,r⟩,_⟩:=id I.loc;obtain⟨sl,hL⟩:=u.any ho I.free (by simp);exact I.step (g':=s.gens) (d':=s.drawn) (ch:=[]) (λ_ z=>nomatch z) (λb o _ hb _ e n=>u.keep b o e n hb (by simp)) (λb o _ hb _ e n=>u.slot b o e n hb (by simp)) (λb o _ e n=>u.free b o e n (by simp)) (λb o _ e=>u.there b o e (by simp)) u.tups u.frzs u.tbls (λm' hm=>by
  obtain⟨o',es',ep',ho',r'⟩:=hm;rw[ho]at ho';cases ho';exact⟨_,es',ep',hL,r'⟩) hok I.bare
theorem Inv.call{g':Array GenState}{t':Nat}{d':Drawn}{ch:List Addr}(I:Inv X af σ H s)(u:Un (frs X.stack) ch H H' s.heap h')(hok:HOk X.prog X.w H' h')(hg:AllBare g')
  (hch:∀b∈ch,(b∈X.ex∨X.s₀.heap.objs.size<=b)/\b≠X.env.locals/\(∀x c,X.env.cells.lookup x=some c->c≠b)/\∀p∈X.pn++af,p.1≠b) :
  Inv X af σ H' { s with heap:=h',gens:=g',drawn:=d',toks:=t' } :=by
 obtain⟨m,⟨o,es,ep,ho,r⟩,_⟩:=id I.loc;obtain⟨sl,hL⟩:=u.any ho I.free λz=>(hch _ z).2.1 rfl;exact I.step (ch:=ch) hch (λb o hL hb hc e n=>u.keep b o e n (λz=>(mY.mp (I.stkSub b z)).elim hL hb) hc) (λb o _ _ hc e n=>u.any e n hc) (λb o hc e n=>u.free b o e n hc) (λb o hc e=>u.there b o e hc) u.tups u.frzs u.tbls (λm' hm=>by
  obtain⟨o',es',ep',ho',r'⟩:=hm;rw[ho]at ho';cases ho';exact⟨_,es',ep',hL,r'⟩) hok hg
theorem Inv.turned{t':Nat}{it:Addr}(I:Inv X af σ H s)(k:∀b o,b≠it->s.heap.get? b=some o->h'.get? b=some o)(hn:H it=none)(hL:it≠X.env.locals)
  (h1:it∈X.ex∨X.s₀.heap.objs.size<=it) (h2:∀x c,X.env.cells.lookup x=some c->c≠it) (h3:∀p∈X.pn++af,p.1≠it):Inv X af σ H { s with heap:=h',toks:=t' } :=by
 have nit:∀b u,H b=some u->b≠it:=λb u e z=>by rw[z,hn]at e;cases e
 refine I.step (g':=s.gens) (d':=s.drawn) (ch:=[it]) (λb hb=>?_) (λb o _ _ hc e _=>k b o (λz=>hc (by simp [z])) e) (λb o _ _ hc e _=>⟨o.slots,k b o (λz=>hc (by simp [z])) e⟩) (λ_ _ _ _ n=>n)
  (λb o hc e=>⟨o,k b o (λz=>hc (by simp [z])) e⟩) (λ_ _ e=>e) (λ_ _ _ e=>e) (λb ps e=>⟨#[],by rw[e];simp⟩) (λm hm=>?_) (λb u e=>?_) I.bare
 ·have e:b=it:=by simpa using hb
  subst e;exact⟨h1,hL,h2,h3⟩
 ·obtain⟨o,es,ep,ho,r⟩:=hm;exact⟨o,es,ep,k _ o (Ne.symm hL) ho,r⟩
 ·refine(I.hok b u e).stay (λc v hc q=>k c v ?_ q) (λ_ q=>q) λ_ _ q=>q;rcases hc with z | z
  ·rw[z];exact nit b u e
  ·exact nit c _ z
theorem Inv.tok(I:Inv X af σ H s)(t:Nat):Inv X af σ H { s with toks:=t } :=I.un (h':=s.heap) (t':=t) Un.refl I.hok
theorem Inv.kept{t':Nat}(I:Inv X af σ H s)(k:∀b u,s.heap.get? b=some u->h'.get? b=some u):Inv X af σ H { s with heap:=h',toks:=t' } :=I.un (Un.kept k) (I.hok.kept k)
theorem Inv.laid{a:Addr}{o:HO}{t':Nat}(I:Inv X af σ H s)(k:∀b u,s.heap.get? b=some u->h'.get? b=some u)(hp:s.heap.objs.size<=a)(new:ObjOk X.prog X.w (upd H a o) h' a o) :
  Inv X af σ (upd H a o) { s with heap:=h',toks:=t' } :=I.un (Un.laid k hp (I.hok.fresh hp)) (I.hok.laid k hp new)
theorem Inv.write{x e:Addr}{o:HO}{t':Nat}(I:Inv X af σ H s)(mu:Mut (H x))(he:e=x∨H e=some (.own x))(k:∀b u,b≠e->s.heap.get? b=some u->h'.get? b=some u)(heo:∃u,h'.get? e=some u)
  (new:ObjOk X.prog X.w (upd H x o) h' x o):Inv X af σ (upd H x o) { s with heap:=h',toks:=t' } :=I.un (Un.write mu he k heo) (I.hok.write mu he k heo new)
theorem Inv.weak{σ':List (Option V)}(I:Inv X af σ H s)(hl:σ'.length=σ.length)(w:∀(i:Nat) v,σ'[i]? = some (some v)->σ[i]? = some (some v)):Inv X af σ' H s:=
 ⟨I.ok,I.os,I.bare,I.base,let ⟨m,hn,hl'⟩:=I.loc;⟨m,hn,λi x v e1 e2 e3=>hl' i x v e1 (w i v e2) e3⟩,I.cell,I.free,I.freeC,I.pin,I.hok,hl.trans I.len⟩
theorem Inv.pins_of{pins':List (Addr×Obj)}(I:Inv X af σ H s)(h:∀p∈pins',s.heap.get? p.1=some p.2/\H p.1=none/\p.1≠X.env.locals/\p.1∉X.fs/\∀v,p.2.data≠.cell v):Inv X pins' σ H s:=
 ⟨I.ok,I.os,I.bare,I.base,I.loc,I.cell,I.free,I.freeC,λp hp=>(mS.mp hp).elim (λz=>I.pin p (List.mem_append_left _ z)) (h p),I.hok,I.len⟩
theorem BX{N:List Str}(hN:N.Nodup){i j:Nat}{x:Str}(a:N[i]? = some x)(b:N[j]? = some x):i=j:=by
 obtain⟨h1,e1⟩:=gI.mp a;obtain⟨h2,e2⟩:=gI.mp b;exact(List.getElem_inj hN).mp (e1.trans e2.symm)
theorem PF{M:Model}{A:Around}{E:Value->Shared->Prop}{i:Nat}{x:Str}{v:V}{u:Value}{Q:Unit->Shared->Prop}(I:Inv X af σ H s)(hN:X.N.Nodup)(hi:X.N[i]? = some x)(hx:Loc X.env.scope x)(r:RelV v u)
  (h:∀s',Inv X af (σ.set i (some v)) H s'->(∃a,Heap.SameBut a s.heap s'.heap/\(a=X.env.locals∨X.env.cells.lookup x=some a))->Q () s') (hf:X.fn x=true∨X.env.scope.names.lookup x=some .local:=by first | exact .inl rfl | exact .inr rfl | assumption):wpAny M A (storeName X.env x u) Q E s:=by
 obtain⟨m,hn,hl⟩:=id I.loc;have hcls:(X.env.scope.kind==.class||(X.env.scope.kind==.module&&X.env.locals != X.env.globals))=false:=by rw[I.ok.kind];rfl
 have hiσ:i<σ.length:=by rw[I.len];exact(gI.mp hi).1
 have cne:=I.cne;have tracked:∀{a:Addr} {h':Heap},(∃o,s.heap.get? a=some o/\H a=none)->Heap.SameBut a s.heap h'->HOk X.prog X.w H h':=fun {a h'} ha hs b ob e=>by
  obtain⟨_,_,hfree⟩:=ha;refine(I.hok b ob e).stay (λc w' hc q=>(hs.2 c ?_).trans q) (λ_ q=>q) λ_ _ q=>q;rintro rfl;rcases hc with rfl | hc
  ·rw[hfree]at e;cases e
  ·rw[hfree]at hc;cases hc
 rcases hx with hk | hk
 ·refine wpAny_storeName_local hk hn (λh' hn' hs=>?_) hcls;obtain⟨oL,_,_,hoL,_⟩:=id hn;refine h _ ⟨I.ok,I.os,I.bare,⟨λb o e n hb hx=>?_,λb o e n hb hx=>?_,I.base.free,λb o e hx=>?_,I.base.tups,I.base.frzs,I.base.tbls⟩,⟨_,hn',λj y v' e1 e2 e3=>?_⟩,λy c e=>?_,I.free,I.freeC,λp hp=>?_,tracked ⟨oL,hoL,I.free⟩ hs,by simpa using I.len⟩ ⟨_,hs,.inl rfl⟩
  ·exact(hs.2 b (nH (hX (nF e) I.ok.above))).trans (I.base.keep b o e n hb hx)
  ·obtain⟨sl,e1⟩:=I.base.slot b o e n hb hx;exact⟨sl,(hs.2 b (nH (hX (nF e) I.ok.above))).trans e1⟩
  ·obtain⟨o',e1⟩:=I.base.there b o e hx;exact⟨o',(hs.2 b (nH (hX (nF e) I.ok.above))).trans e1⟩
  ·by_cases hj:j=i
   ·subst hj;rw[hi]at e1;cases e1;rw[List.getElem?_set_self hiσ]at e2;cases e2;exact⟨u,r,.inl ⟨hk,by simp⟩⟩
   ·rw[List.getElem?_set_ne (Ne.symm hj)]at e2;obtain⟨u',r',q⟩:=hl j y v' e1 e2 e3;refine⟨u',r', ?_⟩;rcases q with⟨k,e⟩ | ⟨k,c,e,z⟩
    ·refine .inl ⟨k, ?_⟩;have:y≠x:=λe=>hj (BX hN e1 (e▸hi));simp [this,e]
    ·exact .inr ⟨k,c,e,z.sameBut hs (cne y c e)⟩
  ·obtain⟨w',z⟩:=I.cell y c e;exact⟨w',z.sameBut hs (cne y c e)⟩
  ·obtain⟨e,n,ne,nf,d⟩:=I.pin p hp;exact⟨(hs.2 p.1 ne).trans e,n,ne,nf,d⟩
 ·have hfn:X.fn x=true:=by
   rcases hf with z | z
   ·exact z
   ·rw[z]at hk;cases hk
  obtain⟨c,hc⟩:=I.ok.has x (.inl hk);obtain⟨w',z⟩:=I.cell x c hc;refine wpAny_storeName_cell I.ok.kind hk hc z (λh' hc' hs=>?_);obtain⟨oc,hoc,hocd⟩:=id z;refine h { s with heap:=h' } ⟨I.ok,I.os,I.bare,⟨λb o e n hb hx=>?_,λb o e n hb hx=>?_,I.base.free,λb o e hx=>?_,I.base.tups,I.base.frzs,I.base.tbls⟩,⟨m,hn.sameBut hs (Ne.symm (cne x c hc)),λj y v' e1 e2 e3=>?_⟩,λy c' e=>?_,I.free,I.freeC,λp hp=>?_,tracked ⟨oc,hoc,I.freeC x c hc⟩ hs,by simpa using I.len⟩ ⟨c,hs,.inr hc⟩
  ·exact(hs.2 b (nH (hX (nF e) (I.ok.cab x c hfn hc)))).trans (I.base.keep b o e n hb hx)
  ·obtain⟨sl,e1⟩:=I.base.slot b o e n hb hx;exact⟨sl,(hs.2 b (nH (hX (nF e) (I.ok.cab x c hfn hc)))).trans e1⟩
  ·obtain⟨o',e1⟩:=I.base.there b o e hx;exact⟨o',(hs.2 b (nH (hX (nF e) (I.ok.cab x c hfn hc)))).trans e1⟩
  ·by_cases hj:j=i
   ·subst hj;rw[hi]at e1;cases e1;rw[List.getElem?_set_self hiσ]at e2;cases e2;exact⟨u,r,.inr ⟨.inl hk,c,hc,hc'⟩⟩
   ·rw[List.getElem?_set_ne (Ne.symm hj)]at e2;obtain⟨u',r',q⟩:=hl j y v' e1 e2 e3;refine⟨u',r', ?_⟩;rcases q with q | ⟨k,c',e,z'⟩
    ·exact .inl q
    ·refine .inr ⟨k,c',e,z'.sameBut hs ?_⟩;rintro rfl;exact hj (BX hN e1 (I.ok.inj _ _ _ e hc▸hi))
  ·by_cases hcc:c'=c
   ·subst hcc;exact⟨_,hc'⟩
   ·obtain⟨w2,z2⟩:=I.cell y c' e;exact⟨w2,z2.sameBut hs hcc⟩
  ·obtain⟨e,n,ne,nf,d⟩:=I.pin p hp;refine⟨(hs.2 p.1 ?_).trans e,n,ne,nf,d⟩;intro q;rw[q,hoc]at e;have q':oc=p.2:=Option.some.inj e;exact d w' (by rw[<-q'];exact hocd)
theorem yB{M:Model}{A:Around}{E:Value->Shared->Prop}{i:Nat}{x:Str}{v:V}{u:Value}{Q:Unit->Shared->Prop}(I:Inv X af σ H s)(hN:X.N.Nodup)(hi:X.N[i]? = some x)(hx:Loc X.env.scope x)(r:RelV v u)
  (h:∀s',Inv X af (σ.set i (some v)) H s'->Q () s') (hf:X.fn x=true∨X.env.scope.names.lookup x=some .local:=by first | exact .inl rfl | exact .inr rfl | assumption):wpAny M A (storeName X.env x u) Q E s:=
 PF I hN hi hx r (λs' I' _=>h s' I') hf
theorem Inv.call'{s':Shared}{ch:List Addr}(I:Inv X af σ H s)(ho:s'.os=s.os)(u:Un (frs X.stack) ch H H' s.heap s'.heap)(hok:HOk X.prog X.w H' s'.heap)(hg:AllBare s'.gens)
  (hch:∀b∈ch,(b∈X.ex∨X.s₀.heap.objs.size<=b)/\b≠X.env.locals/\(∀x c,X.env.cells.lookup x=some c->c≠b)/\∀p∈X.pn++af,p.1≠b):Inv X af σ H' s':=by
 obtain⟨h',g',d',t',o'⟩:=s';have e:o'=s.os:=ho;subst e;exact I.call (g':=g') (t':=t') (d':=d') u hok hg hch
end
abbrev XK:=Value->Option Addr->Hp->Prop
abbrev St:=List (Option V)
abbrev VK:=V->Hp->Prop
abbrev TE:=St->Hp->VK->Prop
abbrev TT:=St->Hp->(Bool->Hp->Prop)->Prop
abbrev TA:=St->Hp->(List V->Hp->Prop)->Prop
structure Ends where
 nx:St->Hp->Prop
 rt:VK
 bk:St->Hp->Prop:=λ_ _=>False
 ct:St->Hp->Prop:=λ_ _=>False
abbrev TS:=Ends->St->Hp->Prop
def EP(X:Cx)(af:List (Addr×Obj))(σ:St)(Q:VK)(u:Value)(s':Shared):Prop:=∃v H',Inv X af σ H' s'/\RelV v u/\Q v H'
def TP(X:Cx)(af:List (Addr×Obj))(σ:St)(Q:Bool->Hp->Prop)(b:Bool)(s':Shared):Prop:=∃H',Inv X af σ H' s'/\Q b H'
def AP(X:Cx)(af:List (Addr×Obj))(σ:St)(Q:List V->Hp->Prop)(us:List Value)(s':Shared):Prop:=∃vs H',Inv X af σ H' s'/\Vals vs us/\Q vs H'
def SP(X:Cx)(af:List (Addr×Obj))(D:Ends)(f:Flow)(s':Shared):Prop:=
 match f with
 | .next=>∃σ' H',Inv X af σ' H' s'/\D.nx σ' H'
 | .brk=>∃σ' H',Inv X af σ' H' s'/\D.bk σ' H'
 | .cont=>∃σ' H',Inv X af σ' H' s'/\D.ct σ' H'
 | .ret u=>∃v σ' H',Inv X af σ' H' s'/\RelV v u/\D.rt v H'
def PE(X:Cx)(e:Expr)(t:TE):Prop:=
 ∀(af:List (Addr×Obj)) (s:Shared) (σ:St) (H:Hp) (Q:VK),Inv X af σ H s->t σ H Q->wpAny (model X.prog X.w) X.A (eval e X.env) (EP X af σ Q) X.xe s
def PT(X:Cx)(e:Expr)(t:TT):Prop:=
 ∀(af:List (Addr×Obj)) (s:Shared) (σ:St) (H:Hp) (Q:Bool->Hp->Prop),Inv X af σ H s->t σ H Q->wpAny (model X.prog X.w) X.A (isTrue e X.env (eval e X.env)) (TP X af σ Q) X.xe s
def PW(X:Cx)(e:Expr)(t:TT):Prop:=
 ∀(whole:Sem Value) (af:List (Addr×Obj)) (s:Shared) (σ:St) (H:Hp) (Q:Bool->Hp->Prop),Inv X af σ H s->t σ H Q->wpAny (model X.prog X.w) X.A (isTrue e X.env whole) (TP X af σ Q) X.xe s
theorem PW.pt{X:Cx}{e:Expr}{t:TT}(h:PW X e t):PT X e t:=h _
def PA(X:Cx)(es:List Expr)(t:TA):Prop:=
 ∀(pos:Pos) (af:List (Addr×Obj)) (s:Shared) (σ:St) (H:Hp) (Q:List V->Hp->Prop),Inv X af σ H s->t σ H Q->wpAny (model X.prog X.w) X.A (spliced (backTo pos (starEach es X.env))) (AP X af σ Q) X.xe s
def PS(X:Cx)(st:Stmt)(t:TS):Prop:=
 ∀(af:List (Addr×Obj)) (s:Shared) (σ:St) (H:Hp) (D:Ends),Inv X af σ H s->t D σ H->wpAny (model X.prog X.w) X.A (exec st X.env) (SP X af D) X.xe s
def PSs(X:Cx)(st:List Stmt)(t:TS):Prop:=
 ∀(af:List (Addr×Obj)) (s:Shared) (σ:St) (H:Hp) (D:Ends),Inv X af σ H s->t D σ H->wpAny (model X.prog X.w) X.A (execs st X.env) (SP X af D) X.xe s
theorem thn{α:Type}{t:Sem α}{Q Q':α->Shared->Prop}{M:Model}{A:Around}{E:Value->Shared->Prop}{s:Shared}(h:wpAny M A t Q E s)(hQ:∀a s,Q a s->Q' a s):wpAny M A t Q' E s:=nT h hQ λ_ _ x=>x
section
variable{X:Cx}
theorem bin{a b:Expr}{ta tb:TE}(ha:PE X a ta)(hb:PE X b tb){af:List (Addr×Obj)}{s:Shared}{σ:St}{H:Hp}{R:V->V->Hp->Prop}(I:Inv X af σ H s)(h:ta σ H λx H1=>tb σ H1 λy H2=>R x y H2)
  {α:Type} {Q:α->Shared->Prop} {f:Value->Value->Sem α}
  (hf:∀v u s2 x y H2,Inv X af σ H2 s2->RelV x v->RelV y u->R x y H2->wpAny (model X.prog X.w) X.A (f v u) Q X.xe s2) :
  wpAny (model X.prog X.w) X.A (eval a X.env) (λv s₁=>wpAny (model X.prog X.w) X.A (eval b X.env) (λu s₂=>wpAny (model X.prog X.w) X.A (f v u) Q X.xe s₂) X.xe s₁) X.xe s:=by
 refine thn (ha af s σ H _ I h) λv s1 ⟨x,H1,I1,r1,q1⟩=>?_;refine thn (hb af s1 σ H1 _ I1 q1) λu s2 ⟨y,H2,I2,r2,q2⟩=>?_;exact hf v u s2 x y H2 I2 r1 r2 q2
def kG(i:Nat):TE:=fun σ H Q=>∃v,σ[i]? = some (some v)/\Q v H
def tC(v:V):TE:=λ_ H Q=>Q v H
theorem pe_var{i:Nat}{x:Str}{pos:Pos}(hN:X.N[i]? = some x)(hv:Vis X.env.scope x)(hd:(x==("__debug__" :Str))=false:=by decide)(hcd:(x==("__classdict__" :Str))=false:=by decide):PE X (.Name x pos) (kG i):=by
 intro af s σ H Q I h;obtain⟨v,e,h⟩:=h;obtain⟨m,hn,hl⟩:=I.loc;obtain⟨u,r,l⟩:=hl i x v hN e hv;have fin:EP X af σ Q u s:=⟨v,H,I,r,h⟩;rcases l with⟨hk,hm⟩ | ⟨hk,c,hc,hcell⟩
 ·exact wpAny_Name (wpAny_loadName_local I.ok.kind hk hn hm fin) hd
 ·rcases hk with hk | hk
  ·exact wpAny_Name (wpAny_loadName_cell I.ok.kind hk hc hcell fin) hd
  ·exact wpAny_Name (wpAny_loadName_free I.ok.kind hk hc hcell fin hcd) hd
theorem jC{i j pos} :PE X (.Constant (.int i) j pos) (tC (.int i)):=λ_ _ _ H _ I h=>wpAny_Constant_int ⟨.int i,H,I.tok _,⟨_,rfl⟩,h⟩
theorem xS{b j pos} :PE X (.Constant (.bool b) j pos) (tC (.bl b)):=λ_ _ _ H _ I h=>Constant_bool ⟨.bl b,H,I,rfl,h⟩
theorem xC{j pos} :PE X (.Constant .none j pos) (tC .non):=λ_ _ _ H _ I h=>Constant_none ⟨.non,H,I,rfl,h⟩
theorem jO{x j pos} :PE X (.Constant (.str x) j pos) (tC (.str x)):=λ_ _ _ H _ I h=>Calls.Constant_str ⟨.str x,H,I.tok _,⟨_,rfl⟩,h⟩
def Gl(X:Cx)(x:Str):Prop:=X.env.kindOf x=some .globalImplicit
theorem uD{E:Value->Shared->Prop}{af:List (Addr×Obj)}{s:Shared}{σ:St}{H:Hp}{x:Str}{u:Value}{pos:Pos}{Q:Value->Shared->Prop}(I:Inv X af σ H s)(hg:Gl X x)(hm:X.mg x=some u)(h:Q u s)
  (hd:(x==("__debug__" :Str))=false:=by decide):wpAny (model X.prog X.w) X.A (eval (.Name x pos) X.env) Q E s:=
 Calls.Name_function_global I.ok.kind hg (Calls.loadGlobal_global (by rw[I.ok.glob];exact I.mod.glob.keeps I.bk) hm h) hd
theorem yT{E:Value->Shared->Prop}{af:List (Addr×Obj)}{s:Shared}{σ:St}{H:Hp}{x:Str}{u:Value}{pos:Pos}{Q:Value->Shared->Prop}(I:Inv X af σ H s)(hg:Gl X x)(hm:X.mg x=none)(hv:bootBuiltins x=some u)(h:Q u s)
  (hn:x≠"__name__":=by decide) (hd:(x==("__debug__" :Str))=false:=by decide):wpAny (model X.prog X.w) X.A (eval (.Name x pos) X.env) Q E s:=by
 obtain⟨mb,h1,h2⟩:=I.mod.blt;exact Calls.Name_function_global I.ok.kind hg (Calls.loadGlobal_builtin (by rw[I.ok.glob];exact I.mod.glob.keeps I.bk) hm (by rw[I.ok.blt];exact h1.keeps I.bk) ((h2 x hn).trans hv) h) hd
theorem qF{x:Str}{v:V}{u:Value}{pos:Pos}(hg:Gl X x)(hm:X.mg x=some u)(r:RelV v u)(hd:(x==("__debug__" :Str))=false:=by decide):PE X (.Name x pos) (tC v):=
 λ_ _ _ H _ I h=>uD I hg hm ⟨v,H,I,r,h⟩ hd
theorem NI{x:Str}{v:V}{u:Value}{pos:Pos}(hg:Gl X x)(hm:X.mg x=none)(hv:bootBuiltins x=some u)(r:RelV v u)(hn:x≠"__name__":=by decide)(hd:(x==("__debug__" :Str))=false:=by decide):PE X (.Name x pos) (tC v):=
 λ_ _ _ H _ I h=>yT I hg hm hv ⟨v,H,I,r,h⟩ hn hd
variable{a b:Expr}{ta tb:TE}{pos:Pos}
def PC(X:Cx)(op:CmpOp)(a b:Expr)(t:TE):Prop:=
 ∀(af:List (Addr×Obj)) (s:Shared) (σ:St) (H:Hp) (Q:VK),Inv X af σ H s->t σ H Q->
  wpAny (model X.prog X.w) X.A (eval a X.env) (λv s₁=>wpAny (model X.prog X.w) X.A (eval b X.env) (λu s₂=>wpAny (model X.prog X.w) X.A (compareOp op v u) (EP X af σ Q) X.xe s₂) X.xe s₁) X.xe s
theorem IM(b:Expr){op:CmpOp}(h:op≠.In)(h2:op≠.NotIn):behindInMarks op b=false:=by
 have e1:(op==CmpOp.In)=false:=by cases op<;>first | rfl | exact absurd rfl h
 have e2:(op==CmpOp.NotIn)=false:=by cases op<;>first | rfl | exact absurd rfl h2
 cases b<;>simp [behindInMarks,e1,e2]
def tIsN(ta:TE):TE:=fun σ H Q=>ta σ H λx H1=>Q (.bl (decide (x=.non))) H1
def tNotN(ta:TE):TE:=fun σ H Q=>ta σ H λx H1=>Q (.bl (!decide (x=.non))) H1
theorem RelV.none_iff{x:V}{v:Value}(r:RelV x v):(v==Value.none)=decide (x=.non):=by
 cases x with
 | non=>cases r;rfl
 | bl _=>cases r;rfl
 | int _=>obtain⟨t,rfl⟩:=r;rfl
 | str _=>obtain⟨t,rfl⟩:=r;rfl
 | byt _=>obtain⟨t,rfl⟩:=r;rfl
 | flt _=>obtain⟨t,rfl⟩:=r;rfl
 | ref _=>cases r;rfl
 | ty _=>cases r;rfl
theorem uT{j pos'}(ha:PE X a ta):PC X .Is a (.Constant .none j pos') (tIsN ta):=by
 intro af s σ H Q I h;refine thn (ha af s σ H _ I h) λv s1 ⟨x,H1,I1,r1,q1⟩=>?_;exact Constant_none (is_none_gen ⟨.bl _,H1,I1,by rw[r1.none_iff];rfl,q1⟩)
theorem NJ{j pos'}(ha:PE X a ta):PC X .IsNot a (.Constant .none j pos') (tNotN ta):=by
 intro af s σ H Q I h;refine thn (ha af s σ H _ I h) λv s1 ⟨x,H1,I1,r1,q1⟩=>?_;exact Constant_none (isnot_none_gen ⟨.bl _,H1,I1,by rw[r1.none_iff];rfl,q1⟩)
def tB(t:TE):TT:=fun σ H Q=>t σ H λx H1=>∃c,x=.bl c/\Q c H1
theorem pe_cmp{op:CmpOp}{t:TE}(h:PC X op a b t)(h1:behindInMarks op b=false:=by first | exact IM _ (by decide) (by decide) | rfl):PE X (.Compare a [op] [b] pos) t:=λaf s σ H Q I hw=>wpAny_Compare1 (h af s σ H Q I hw) h1
theorem zI{op:CmpOp}{t:TE}(h:PC X op a b t)(h1:behindInMarks op b=false:=by first | exact IM _ (by decide) (by decide) | rfl):PT X (.Compare a [op] [b] pos) (tB t):=by
 intro af s σ H Q I hw;refine wpAny_isTrue_Compare1 (thn (h af s σ H _ I hw) λv s1 h1=>thn h1 λu s2 h2=>thn h2 λc s3 ⟨x,H1,I1,r1,q1⟩=>?_) h1;obtain⟨d,rfl,q⟩:=q1;cases r1;exact wpAny_truthy_bool ⟨H1,I1,q⟩
theorem qM{e:Expr}{t:TE}(h:PE X e t)(he:∀whole,isTrue e X.env whole=(do let v<-whole;standAt e.pos;holding [v] (truthy v)):=by intro _;rfl):PT X e (tB t):=by
 intro af s σ H Q I hw;refine isTrue_plain (thn (h af s σ H _ I hw) λv s1 ⟨x,H1,I1,r1,q1⟩=>?_) (he _);obtain⟨d,rfl,q⟩:=q1;cases r1;exact wpAny_truthy_bool ⟨H1,I1,q⟩
variable{tA tB':TT}{rest:List Expr}
def tAnd(t u:TT):TT:=fun σ H Q=>t σ H λc H1=>if c=true then u σ H1 Q else Q false H1
def tOr(t u:TT):TT:=fun σ H Q=>t σ H λc H1=>if c=true then Q true H1 else u σ H1 Q
def tNot(t:TT):TT:=fun σ H Q=>t σ H λc H1=>Q (!c) H1
theorem FJ(ha:PT X a tA):PW X (.BoolOp .And [a] pos) tA:=by
 intro wh af s σ H Q I h;refine isTrue_and (thn (ha af s σ H Q I h) λc s1 e=>?_);cases c with
 | true=>exact isTrue_and_nil e
 | false=>exact e
theorem qT(ha:PT X a tA):PW X (.BoolOp .Or [a] pos) tA:=by
 intro wh af s σ H Q I h;refine isTrue_or (thn (ha af s σ H Q I h) λc s1 e=>?_);cases c with
 | false=>exact isTrue_or_nil e
 | true=>exact e
theorem KH(ha:PT X a tA)(hb:PW X (.BoolOp .And (b::rest) pos) tB'):PW X (.BoolOp .And (a::b::rest) pos) (tAnd tA tB'):=by
 intro wh af s σ H Q I h;refine isTrue_and (thn (ha af s σ H _ I h) λc s1 ⟨H1,I1,q1⟩=>?_);cases c with
 | true=>exact hb wh af s1 σ H1 Q I1 q1
 | false=>exact⟨H1,I1,q1⟩
theorem vB(ha:PT X a tA)(hb:PW X (.BoolOp .Or (b::rest) pos) tB'):PW X (.BoolOp .Or (a::b::rest) pos) (tOr tA tB'):=by
 intro wh af s σ H Q I h;refine isTrue_or (thn (ha af s σ H _ I h) λc s1 ⟨H1,I1,q1⟩=>?_);cases c with
 | true=>exact⟨H1,I1,q1⟩
 | false=>exact hb wh af s1 σ H1 Q I1 q1
theorem qZ(ha:PT X a tA):PT X (.UnaryOp .Not a pos) (tNot tA):=by
 intro af s σ H Q I h;exact isTrue_not (ha af s σ H (λc H1=>Q (!c) H1) I h)
def tAndV(ta tb:TE):TE:=fun σ H Q=>ta σ H λx H1=>∃c,x=.bl c/\if c=true then tb σ H1 Q else Q (.bl false) H1
def tNotV(ta:TE):TE:=fun σ H Q=>ta σ H λx H1=>∃c,x=.bl c/\Q (.bl (!c)) H1
theorem BO{op}{t:TE}(h:PE X a t):PE X (.BoolOp op [a] pos) t:=λaf s σ H Q I hw=>BoolOp_one (h af s σ H Q I hw)
theorem zJ(ha:PE X a ta)(hb:PE X (.BoolOp .And (b::rest) pos) tb):PE X (.BoolOp .And (a::b::rest) pos) (tAndV ta tb):=by
 intro af s σ H Q I h;refine BoolOp_and (thn (ha af s σ H _ I h) λv s1 ⟨x,H1,I1,r1,q1⟩=>?_);obtain⟨c,rfl,q1⟩:=q1;cases r1;refine wpAny_truthy_bool ?_;cases c with
 | true=>exact hb af s1 σ H1 Q I1 q1
 | false=>exact⟨.bl false,H1,I1,rfl,q1⟩
theorem KL(ha:PE X a ta):PE X (.UnaryOp .Not a pos) (tNotV ta):=by
 intro af s σ H Q I h;refine UnaryOp_ (thn (ha af s σ H _ I h) λv s1 ⟨x,H1,I1,r1,q1⟩=>?_);obtain⟨c,rfl,q1⟩:=q1;cases r1;exact not_of (wpAny_truthy_bool ⟨.bl (!c),H1,I1,rfl,q1⟩)
def tIf(t:TT)(ta tb:TE):TE:=fun σ H Q=>t σ H λc H1=>if c=true then ta σ H1 Q else tb σ H1 Q
theorem ID{c:Expr}(hc:PT X c tA)(ha:PE X a ta)(hb:PE X b tb):PE X (.IfExp c a b pos) (tIf tA ta tb):=by
 intro af s σ H Q I h;refine wpAny_IfExp (thn (hc af s σ H _ I h) λd s1 ⟨H1,I1,q1⟩=>?_);cases d with
 | true=>exact ha af s1 σ H1 Q I1 q1
 | false=>exact hb af s1 σ H1 Q I1 q1
end
def SqL(K:nW)(H:Hp)(a:Addr)(xs:List V):Prop:=
 Rd H a (.lst xs)∨
  ∃(o:Obj) (its:Array Value) (n:Nat),K.lookup a=some o/\o.cls=.type "list"/\o.dict=none/\o.data=.seq its n/\its.size<=sizeLine/\Vals xs its.toList
def SqT(K:nW)(H:Hp)(a:Addr)(xs:List V):Prop:=
 Rd H a (.tup xs)∨
  ∃(o:Obj) (its:Array Value) (n:Nat),K.lookup a=some o/\o.cls=.type "tuple"/\o.data=.seq its n/\its.size<=sizeLine/\Vals xs its.toList
def absV:Value->Option V
 | .none=>some .non
 | .bool b=>some (.bl b)
 | .int i _=>some (.int i)
 | .str x _=>some (.str x)
 | .bytes b _=>some (.byt b)
 | .float b _=>some (.flt b)
 | .ref a=>some (.ref a)
 | .type n=>some (.ty n)
 | _=>none
theorem RelV.abs{x:V}{u:Value}(r:RelV x u):absV u=some x:=by
 cases x with
 | non=>cases r;rfl
 | bl _=>cases r;rfl
 | int _=>obtain⟨t,rfl⟩:=r;rfl
 | str _=>obtain⟨t,rfl⟩:=r;rfl
 | byt _=>obtain⟨t,rfl⟩:=r;rfl
 | flt _=>obtain⟨t,rfl⟩:=r;rfl
 | ref _=>cases r;rfl
 | ty _=>cases r;rfl
theorem RelV.inj{x y:V}{u:Value}(r:RelV x u)(q:RelV y u):x=y:=Option.some.inj (r.abs.symm.trans q.abs)
theorem Vals.inj:∀{xs ys:List V} {us:List Value},Vals xs us->Vals ys us->xs=ys
 | _,_,_,.nil,.nil=>rfl
 | _,_,_,.cons r t,.cons r' t'=>by rw[r.inj r',Vals.inj t t']
section
variable{X:Cx}{af:List (Addr×Obj)}{σ:St}{H:Hp}{s:Shared}{a:Addr}{xs ys:List V}
theorem SqL.of{K:nW}(h:H a=some (.lst xs)):SqL K H a xs:=.inl (.inl h)
theorem SqT.of{K:nW}(h:H a=some (.tup xs)):SqT K H a xs:=.inl (.inl h)
theorem Inv.list(I:Inv X af σ H s)(h:SqL X.K H a xs):∃its:List Value,Vals xs its/\PlainL s.heap a its.toArray/\xs.length<=sizeLine:=by
 rcases h with h | ⟨o,its,n,hk,hc,hd,hs,hz,r⟩
 ·obtain⟨z,its,n,r,e⟩:=h.ok I.hok;exact⟨its,r,⟨_,n,e,rfl,rfl,rfl⟩,z⟩
 ·refine⟨its.toList,r,⟨o,n,I.kIn a o hk,hc,hd,by simpa using hs⟩, ?_⟩;have e:=r.length;simp only[Array.length_toList]at e
  lia
theorem Inv.tuple(I:Inv X af σ H s)(h:SqT X.K H a xs):∃its:List Value,Vals xs its/\IsTup s.heap a its.toArray/\xs.length<=sizeLine:=by
 rcases h with h | ⟨o,its,n,hk,hc,hs,hz,r⟩
 ·obtain⟨z,its,r,p⟩:=h.ok I.hok;exact⟨its,r,p.1,z⟩
 ·refine⟨its.toList,r,⟨o,I.kIn a o hk,hc,n,by simpa using hs⟩, ?_⟩;have e:=r.length;simp only[Array.length_toList]at e
  lia
theorem Inv.list_inj(I:Inv X af σ H s)(h:SqL X.K H a xs)(h':SqL X.K H a ys):xs=ys:=by
 obtain⟨its,r,⟨o,n,e,_,_,d⟩,_⟩:=I.list h;obtain⟨its',r',⟨o',n',e',_,_,d'⟩,_⟩:=I.list h';rw[e]at e';cases e';rw[d]at d';injection d' with d1 _
 have:its=its':=by simpa using congrArg Array.toList d1
 subst this;exact r.inj r'
theorem Inv.tuple_inj(I:Inv X af σ H s)(h:SqT X.K H a xs)(h':SqT X.K H a ys):xs=ys:=by
 obtain⟨its,r,⟨o,e,_,n,d⟩,_⟩:=I.tuple h;obtain⟨its',r',⟨o',e',_,n',d'⟩,_⟩:=I.tuple h';rw[e]at e';cases e';rw[d]at d';injection d' with d1 _
 have:its=its':=by simpa using congrArg Array.toList d1
 subst this;exact r.inj r'
end
abbrev Cx.wish(X:Cx)(E:Value->Shared->Prop):Cx:={ X with xe:=E }
abbrev Cx.nox(X:Cx):Cx:=X.wish λ_ _=>False
theorem Cx.Ok.wish{X:Cx}(ok:X.Ok)(E:Value->Shared->Prop):(X.wish E).Ok:=
 ⟨ok.mod,ok.kind,ok.glob,ok.blt,ok.above,ok.inj,ok.has,ok.cab,ok.hd,ok.frames,ok.stk,ok.exf,ok.bs,ok.bsz,ok.noex,ok.exfs,ok.funs,ok.frf⟩
theorem Cx.Ok.unwish{X:Cx}{E:Value->Shared->Prop}(ok:(X.wish E).Ok):X.Ok:=
 ⟨ok.mod,ok.kind,ok.glob,ok.blt,ok.above,ok.inj,ok.has,ok.cab,ok.hd,ok.frames,ok.stk,ok.exf,ok.bs,ok.bsz,ok.noex,ok.exfs,ok.funs,ok.frf⟩
section
variable{X:Cx}{af:List (Addr×Obj)}{σ:St}{H:Hp}{s:Shared}{E:Value->Shared->Prop}
theorem Inv.wish(I:Inv X af σ H s)(E:Value->Shared->Prop):Inv (X.wish E) af σ H s:=⟨I.ok.wish E,I.os,I.bare,I.base,I.loc,I.cell,I.free,I.freeC,I.pin,I.hok,I.len⟩
theorem Inv.unwish(I:Inv (X.wish E) af σ H s):Inv X af σ H s:=⟨I.ok.unwish,I.os,I.bare,I.base,I.loc,I.cell,I.free,I.freeC,I.pin,I.hok,I.len⟩
theorem SP.unwish{D:Ends}{f:Flow}{s':Shared}(h:SP (X.wish E) af D f s'):SP X af D f s':=by
 cases f with
 | next=>obtain⟨σ',H',I,q⟩:=h;exact⟨σ',H',I.unwish,q⟩
 | brk=>obtain⟨σ',H',I,q⟩:=h;exact⟨σ',H',I.unwish,q⟩
 | cont=>obtain⟨σ',H',I,q⟩:=h;exact⟨σ',H',I.unwish,q⟩
 | ret u=>obtain⟨v,σ',H',I,r,q⟩:=h;exact⟨v,σ',H',I.unwish,r,q⟩
theorem PSs.nox{st:List Stmt}{t:TS}(h:PSs X.nox st t):PSs X st t:=λaf s σ H D I hw=>
 nT (h af s σ H D (I.wish _) hw) (λ_ _ q=>q.unwish) λ_ _ z=>False.elim z
end
section
variable{X:Cx}{st:Stmt}{rest:List Stmt}{t u:TS}{e:Expr}{te:TE}{pos:Pos}
def tNext:TS:=λD σ H=>D.nx σ H
def yA(t u:TS):TS:=λD σ H=>t { D with nx:=u D } σ H
theorem jM:PSs X [] tNext:=λ_ _ σ H _ I h=>wpAny_execs_nil ⟨σ,H,I,h⟩
theorem jB(h1:PS X st t)(h2:PSs X rest u):PSs X (st::rest) (yA t u):=by
 intro af s σ H D I h;refine wpAny_execs_cons (thn (h1 af s σ H { D with nx:=u D } I h) λf s1 q=>?_);cases f with
 | next=>
  obtain⟨σ',H',I',q⟩:=q;exact h2 af s1 σ' H' D I' q
 | ret v=>exact q
 | brk=>exact q
 | cont=>exact q
theorem jE(h1:PS X st t):PSs X [st] t:=by
 intro af s σ H D I h;refine wpAny_execs_cons (thn (h1 af s σ H D I h) λf s1 q=>?_);cases f with
 | next=>exact wpAny_execs_nil q
 | ret v=>exact q
 | brk=>exact q
 | cont=>exact q
theorem Inv.quiet{af:List (Addr×Obj)}{σ:St}{H:Hp}{s:Shared}(I:Inv X af σ H s):interactive X.env=false:=by simp [interactive,I.ok.kind]
def tDrop(te:TE):TS:=λD σ H=>te σ H λ_ H1=>D.nx σ H1
theorem xH(he:PE X e te)(hs:swapsWith e none pos.line X.env=pure false:=by rfl):PS X (.Expr e pos) (tDrop te):=by
 intro af s σ H D I h;exact wpAny_Expr_any (thn (he af s σ H _ I h) λv s1 ⟨x,H1,I1,r1,q1⟩=>⟨σ,H1,I1,q1⟩) I.quiet hs
def EX(te:TE):TS:=λD σ H=>te σ H D.rt
theorem jK(he:PE X e te):PS X (.Return (some e) pos) (EX te):=by
 intro af s σ H D I h;exact wpAny_Return_some (thn (he af s σ H _ I h) λv s1 ⟨x,H1,I1,r1,q1⟩=>⟨x,σ,H1,I1,r1,q1⟩)
def HP(c:TT)(t u:TS):TS:=λD σ H=>c σ H λb H1=>if b=true then t D σ H1 else u D σ H1
theorem jX{c:Expr}{a b:List Stmt}{tc:TT}(hc:PT X c tc)(ha:PSs X a t)(hb:PSs X b u):PS X (.If c a b pos) (HP tc t u):=by
 intro af s σ H D I h;refine wpAny_If (thn (hc af s σ H _ I h) λd s1 ⟨H1,I1,q1⟩=>?_);cases d with
 | true=>exact ha af s1 σ H1 D I1 q1
 | false=>exact hb af s1 σ H1 D I1 q1
def tNever:TS:=λ_ _ _=>False
theorem PU{sts:List Stmt} :PSs X sts tNever:=λ_ _ _ _ _ _ h=>h.elim
end
abbrev TG:=V->St->Hp->(St->Hp->Prop)->Prop
abbrev TGs:=List V->St->Hp->(St->Hp->Prop)->Prop
def PG(X:Cx)(target:Expr)(t:TG):Prop:=
 ∀(af:List (Addr×Obj)) (s:Shared) (σ:St) (H:Hp) (v:V) (u:Value) (Q:St->Hp->Prop),Inv X af σ H s->RelV v u->t v σ H Q->
  wpAny (model X.prog X.w) X.A (assign target X.env u) (λ_ s'=>∃σ' H',Inv X af σ' H' s'/\Q σ' H') X.xe s
def PGs(X:Cx)(ts:List Expr)(t:TGs):Prop:=
 ∀(af:List (Addr×Obj)) (s:Shared) (σ:St) (H:Hp) (vs:List V) (us:List Value) (Q:St->Hp->Prop),Inv X af σ H s->Vals vs us->t vs σ H Q->
  wpAny (model X.prog X.w) X.A (assignInOrder ((assignEach ts X.env).map (·.2)) us) (λ_ s'=>∃σ' H',Inv X af σ' H' s'/\Q σ' H') X.xe s
abbrev TSet:=V->V->V->Hp->(Hp->Prop)->Prop
def PSet(X:Cx)(t:TSet):Prop:=
 ∀(af:List (Addr×Obj)) (s:Shared) (σ:St) (H:Hp) (o i v:V) (ov iv u:Value) (Q:Hp->Prop),Inv X af σ H s->RelV o ov->RelV i iv->RelV v u->t o i v H Q->
  wpAny (model X.prog X.w) X.A (setItem ov iv u) (λ_ s'=>∃H',Inv X af σ H' s'/\Q H') X.xe s
abbrev TIp:=V->V->Hp->VK->Prop
def PIp(X:Cx)(op:Operator)(t:TIp):Prop:=
 ∀(af:List (Addr×Obj)) (s:Shared) (σ:St) (H:Hp) (x y:V) (v u:Value) (Q:VK),Inv X af σ H s->RelV x v->RelV y u->t x y H Q->
  wpAny (model X.prog X.w) X.A (inplaceOp op v u) (EP X af σ Q) X.xe s
section
variable{X:Cx}{pos:Pos}
def qY(i:Nat):TG:=λv σ H Q=>Q (σ.set i (some v)) H
theorem jS{i:Nat}{x:Str}(hN:X.N.Nodup)(hi:X.N[i]? = some x)(hx:Loc X.env.scope x)(hf:X.fn x=true∨X.env.scope.names.lookup x=some .local:=by first | exact .inl rfl | exact .inr rfl | assumption):PG X (.Name x pos) (qY i):=by
 intro af s σ H v u Q I r h;exact wpAny_assign_Name (yB I hN hi hx r (λs' I'=>⟨_,H,I',h⟩) hf)
def gNil:TGs:=λvs σ H Q=>vs=[]/\Q σ H
def JF(t:TG)(u:TGs):TGs:=λvs σ H Q=>∃v r,vs=v::r/\t v σ H fun σ' H'=>u r σ' H' Q
theorem qW:PGs X [] gNil:=by
 intro af s σ H vs us Q I r h;obtain⟨e,h⟩:=h;subst e;cases r;exact assignInOrder_nil ⟨σ,H,I,h⟩
theorem jZ{e:Expr}{es:List Expr}{t:TG}{u:TGs}(h1:PG X e t)(h2:PGs X es u)
  (hs:(assignEach (e::es) X.env).map (·.2)=assign e X.env::(assignEach es X.env).map (·.2):=by rfl):PGs X (e::es) (JF t u):=by
 intro af s σ H vs us Q I r h;obtain⟨v,vr,e1,h⟩:=h;subst e1;cases r with
 | cons r rr=>
  rw[hs];refine assignInOrder_cons (thn (h1 af s σ H _ _ _ I r h) λ_ s1 ⟨σ1,H1,I1,q1⟩=>?_);exact h2 af s1 σ1 H1 _ _ Q I1 rr q1
def gTup(K:nW)(n:Nat)(t:TGs):TG:=λv σ H Q=>∃a xs,v=.ref a/\SqT K H a xs/\xs.length=n/\t xs σ H Q
theorem vS{es:List Expr}{k:Nat}{t:TGs}{n:Nat}(hc:X.calm=true)(h:PGs X es t)
  (hn:(assignEach es X.env).length=n:=by rfl) (hst:(assignEach es X.env).findIdx? (·.1)=none:=by rfl):PG X (.Tuple es k pos) (gTup X.K n t):=by
 intro af s σ H v u Q I r hw;obtain⟨a,xs,e1,hq,hl,hw⟩:=hw;subst e1;cases r;obtain⟨its,rv,ht,hz⟩:=I.tuple hq;refine assign_Tuple_tuple (I.ok.hd hc) ht (by simp [hn,<-hl,rv.length]) hst λh' hx=>?_;have I1:Inv X af σ H { s with heap:=h' } :=I.kept (t':=s.toks) λb o e=>hx b o (nH (nF e)) e;exact h af _ σ H xs _ Q I1 (by simpa using rv) hw
def LF(to ti:TE)(t:TSet):TG:=λv σ H Q=>to σ H λo H1=>ti σ H1 λi H2=>t o i v H2 λH3=>Q σ H3
theorem wI{o i:Expr}{to ti:TE}{t:TSet}(ho:PE X o to)(hi:PE X i ti)(hs:PSet X t)
  (ha:∀v,assign (.Subscript o i pos) X.env v=(do
   let ov<-holding [v] (eval o X.env);let iv<-holding [v,ov] (eval i X.env)
   standAt pos
   holding [v,ov,iv] (setItem ov iv v)
   release [v,ov,iv] []):=by intro _;rfl):PG X (.Subscript o i pos) (LF to ti t):=by
 intro af s σ H v u Q I r h;rw[ha];refine nQ (wpAny_holding (thn (ho af s σ H _ I h) λov s1 ⟨x,H1,I1,r1,q1⟩=>?_));refine nQ (wpAny_holding (thn (hi af s1 σ H1 _ I1 q1) λiv s2 ⟨y,H2,I2,r2,q2⟩=>?_));refine nQ (wpAny_standAt (nQ (wpAny_holding (thn (hs af s2 σ H2 x y v ov iv u _ I2 r1 r2 r q2) λ_ s3 ⟨H3,I3,q3⟩=>?_))));exact wpAny_release ⟨σ,H3,I3,q3⟩
def yO(te:TE)(g:TG):TS:=λD σ H=>te σ H λx H1=>g x σ H1 D.nx
theorem vK{tg e:Expr}{te:TE}{g:TG}(he:PE X e te)(hg:PG X tg g)(hs:swapsWithSole [tg] e pos.line X.env=pure false:=by rfl)(hw:swappedStores [tg] e X.env=pure none:=by rfl)
  (h1:(assignEach [tg] X.env).map (·.2)=[assign tg X.env]:=by rfl):PS X (.Assign [tg] e pos) (yO te g):=by
 intro af s σ H D I h;refine wpAny_Assign_stores (thn (he af s σ H _ I h) λv s1 ⟨x,H1,I1,r1,q1⟩=>?_) hs hw;rw[h1];exact thn (hg af s1 σ H1 x v _ I1 r1 q1) λ_ s2 q=>q
theorem jL{i:Nat}{x:Str}{e:Expr}{te:TE}{pos':Pos}(hN:X.N.Nodup)(hi:X.N[i]? = some x)(hx:Loc X.env.scope x)(he:PE X e te)(hs:swapsWith e (some (.Name x pos')) pos.line X.env=pure false:=by rfl)(hf:X.fn x=true∨X.env.scope.names.lookup x=some .local:=by first | exact .inl rfl | exact .inr rfl | assumption) :
  PS X (.Assign [.Name x pos'] e pos) (yO te (qY i)):=by
 intro af s σ H D I h;refine wpAny_Assign_Name (thn (he af s σ H _ I h) λv s1 ⟨y,H1,I1,r1,q1⟩=>?_) hs;exact yB I1 hN hi hx r1 (λs2 I2=>⟨_,H1,I2,q1⟩) hf
def tPar(i j:Nat)(ta:TA):TS:=λD σ H=>ta σ H λvs H1=>∃v w,vs=[v,w]/\D.nx ((σ.set i (some v)).set j (some w)) H1
theorem KJ{i j:Nat}{x y:Str}{a b:Expr}{ta:TA}{px py pt:Pos}{kt k2 pt2}(hc:X.calm=true)(hN:X.N.Nodup)(hi:X.N[i]? = some x)(hj:X.N[j]? = some y)(hij:i≠j)
  (hx:X.env.scope.names.lookup x=some .local) (hy:X.env.scope.names.lookup y=some .local) (ha:PA X [a,b] ta)
  (hw:swappedStores [.Tuple [.Name x px,.Name y py] kt pt] (.Tuple [a,b] k2 pt2) X.env=pure (some [x,y]))
  (hs:swapsWithSole [.Tuple [.Name x px,.Name y py] kt pt] (.Tuple [a,b] k2 pt2) pos.line X.env=pure false:=by rfl) :
  PS X (.Assign [.Tuple [.Name x px,.Name y py] kt pt] (.Tuple [a,b] k2 pt2) pos) (tPar i j ta):=by
 intro af s σ H D I h;rw[exec_Assign_arm];refine nQ (wpAny_standAt ?_);rw[hs];refine nQ (nS ?_);rw[nU (by decide)];refine nQ (Tuple_ (thn (ha _ af s σ H _ I h) λus s1 ⟨vs,H1,I1,r1,q1⟩=>?_));obtain⟨v,w,e1,q1⟩:=q1;subst e1;obtain⟨u1,u2,rfl,rv,rw'⟩:∃u1 u2,us=[u1,u2]/\RelV v u1/\RelV w u2:=by
  cases r1 with
  | cons p q=>
   cases q with
   | cons p' q'=>
    cases q';exact⟨_,_,rfl,p,p'⟩
 refine wpAny_newObj_type ?_ gF ;have I2:Inv X af σ H1 { s1 with heap:=s1.heap.push { cls:=.type "tuple",data:=.seq [u1,u2].toArray } } :=I1.kept (t':=s1.toks) λb o e=>gP _ e;rw[hw];refine nQ (nS ?_);show wpAny (model X.prog X.w) X.A (do rule "assign.swapped-stores";let items<-unpackItems (.ref s1.heap.objs.size) 2 none;assignInOrder [λv=>bindName X.env y v,λv=>bindName X.env x v] items.reverse;pure Flow.next) _ _ _;refine nQ (wpAny_rule (nQ (unpackItems_tuple (items:=#[u1,u2]) (I.ok.hd hc) (IsTup.new s1.heap _) λh' hx'=>?_)));have I3:=I2.kept (h':=h') (t':=s1.toks) λb o e=>hx' b o (nH (nF e)) e;show wpAny _ _ (assignInOrder [λv=>bindName X.env y v,λv=>bindName X.env x v] [u2,u1] >>= λ_=>pure Flow.next) _ _ _;refine nQ (assignInOrder_cons (wpAny_bindName (yB I3 hN hj (.inl hy) rw' (λs2 I4=>?_) (.inr hy))));refine assignInOrder_cons (wpAny_bindName (yB I4 hN hi (.inl hx) rv (λs3 I5=>assignInOrder_nil (nS ?_)) (.inr hx)));rw[List.set_comm _ _ (Ne.symm hij)]at I5;exact⟨_,H1,I5,q1⟩
def tAugS(to ti te:TE)(tget:V->V->Hp->VK->Prop)(tip:TIp)(tset:TSet):TS:=λD σ H=>to σ H λo H1=>ti σ H1 λi H2=>tget o i H2 λx H3=>te σ H3 λy H4=>tip x y H4 λz H5=>tset o i z H5 λH6=>D.nx σ H6
def PGet(X:Cx)(t:V->V->Hp->VK->Prop):Prop:=
 ∀(af:List (Addr×Obj)) (s:Shared) (σ:St) (H:Hp) (o i:V) (ov iv:Value) (Q:VK),Inv X af σ H s->RelV o ov->RelV i iv->t o i H Q->
  wpAny (model X.prog X.w) X.A (getItem ov iv) (EP X af σ Q) X.xe s
theorem WR{o i e:Expr}{to ti te:TE}{tget:V->V->Hp->VK->Prop}{tip:TIp}{tset:TSet}{op:Operator}{tpos:Pos}(ho:PE X o to)(hi:PE X i ti)(hg:PGet X tget)(he:PE X e te)(hp:PIp X op tip)(hs:PSet X tset)
  (ha:∀ov iv new,augStore i ov iv new=(do holding [new,ov,iv] (setItem ov iv new);release [new,ov,iv] [];pure .next):=by intros;rfl):PS X (.AugAssign (.Subscript o i tpos) op e pos) (tAugS to ti te tget tip tset):=by
 intro af s σ H D I h;refine wpAny_AugAssign_SubscriptAny (thn (ho af s σ H _ I h) λov s1 ⟨x1,H1,I1,r1,q1⟩=>?_) ha;refine thn (hi af s1 σ H1 _ I1 q1) λiv s2 ⟨x2,H2,I2,r2,q2⟩=>?_;refine thn (hg af s2 σ H2 x1 x2 ov iv _ I2 r1 r2 q2) λold s3 ⟨x3,H3,I3,r3,q3⟩=>?_;refine thn (he af s3 σ H3 _ I3 q3) λv s4 ⟨x4,H4,I4,r4,q4⟩=>?_;refine thn (hp af s4 σ H4 x3 x4 old v _ I4 r3 r4 q4) λnew s5 ⟨x5,H5,I5,r5,q5⟩=>?_;exact thn (hs af s5 σ H5 x1 x2 x5 ov iv new _ I5 r1 r2 r5 q5) λ_ s6 ⟨H6,I6,q6⟩=>⟨σ,H6,I6,q6⟩
def ipI(f:Int->Int->Int):TIp:=λx y H Q=>∃i j,x=.int i/\y=.int j/\Q (.int (f i j)) H
theorem ip_add:PIp X .Add (ipI λi j=>i+j):=by
 intro af s σ H x y v u Q I r1 r2 h;obtain⟨i,j,e1,e2,q⟩:=h;subst e1;subst e2;obtain⟨t,rfl⟩:=r1;obtain⟨t',rfl⟩:=r2;exact iadd_int ⟨.int _,H,I.tok _,⟨_,rfl⟩,q⟩
end
section
variable{X:Cx}{pos:Pos}
def JZ(c:TT)(tb:TS):TS:=λD σ H=>∃W:Nat->St->Hp->Prop,(∃m,W m σ H)/\∀m σ H,W m σ H->
 c σ H λb H1=>if b=true then ∃N:St->Hp->Prop,(∀σ' H',N σ' H'->∃m',m'<m/\W m' σ' H')/\tb { D with nx:=N,ct:=N,bk:=D.nx } σ H1 else D.nx σ H1
theorem IC{c:Expr}{body:List Stmt}{tc:TT}{tb:TS}(hp:PassesOwn (model X.prog X.w) X.A X.env X.xe)(hc:PT X c tc)(hb:PSs X body tb):PS X (.While c body [] pos) (JZ tc tb):=by
 intro af s σ H D I h;obtain⟨W,⟨m0,w0⟩,turn⟩:=h;refine wpAny_While (codeAny_whileLoop (λn s'=>∃σ' H',Inv X af σ' H' s'/\W n σ' H') ?_ m0 ⟨σ,H,I,w0⟩);rintro n s1 ⟨σ1,H1,I1,w1⟩;refine wpAny_passesOwn hp (thn (hc af s1 σ1 H1 _ I1 (turn n σ1 H1 w1)) λb s2 ⟨H2,I2,q2⟩=>?_);cases b with
 | true=>
  obtain⟨N,hN,q2⟩:=q2;rw[nV rfl];refine wpAny_passesOwn hp (thn (hb af s2 σ1 H2 _ I2 q2) λf s3 q3=>?_);cases f with
  | next=>
   obtain⟨σ3,H3,I3,n3⟩:=q3;obtain⟨m',hm,w3⟩:=hN σ3 H3 n3;exact⟨m',hm,σ3,H3,I3,w3⟩
  | cont=>
   obtain⟨σ3,H3,I3,n3⟩:=q3;obtain⟨m',hm,w3⟩:=hN σ3 H3 n3;exact⟨m',hm,σ3,H3,I3,w3⟩
  | brk=>exact q3
  | ret v=>exact q3
 | false=>
  rw[nU hW];exact wpAny_execs_nil ⟨σ1,H2,I2,q2⟩
end
structure It where
 go:Nat->Hp->Prop
 yld:Nat->Hp->V->Hp->Prop
 stop:Nat->Hp->Prop
def FpOk(X:Cx)(af:List (Addr×Obj))(H:Hp)(b:Addr):Prop:=
 H b=none/\b≠X.env.locals/\b∉X.fs/\(b∈X.ex∨X.s₀.heap.objs.size<=b)/\(∀x c,X.env.cells.lookup x=some c->c≠b)/\∀p∈X.pn++af,p.1≠b
theorem Inv.fpOk{X:Cx}{af:List (Addr×Obj)}{σ:St}{H H':Hp}{s:Shared}{b:Addr}(I:Inv X af σ H s)(hb:s.heap.objs.size<=b)(hn:H' b=none):FpOk X af H' b:=by
 refine⟨hn,Nat.ne_of_gt (hX I.lt hb),I.nofs hb,.inr (nG I.sz hb),λx c e z=>?_,λp hp z=>?_⟩
 ·obtain⟨v,q⟩:=I.cell x c e;exact absurd (hX q.lt (by rw[z];exact hb)) (mZ _)
 ·exact absurd (hX (nF (I.pin p hp).1) (by rw[z];exact hb)) (mZ _)
structure Turn(P:Program)(w:World)(K:nW)(tg:Expr)(J:It)(fp:List Addr)(it:Addr)(tn:Nat->Heap->Prop):Prop where
 mem:it∈fp
 obj:∀i h,tn i h->∀b∈fp,∃o,h.get? b=some o/\∀v,o.data≠.cell v
 keep:∀i h h',tn i h->(∀b∈fp,∀o,h.get? b=some o->h'.get? b=some o)->tn i h'
 item:∀(X:Cx),X.prog=P->X.w=w->X.K=K->X.calm=true->∀(i:Nat) (af:List (Addr×Obj)) (s:Shared) (σ:St) (H:Hp) (E:Value->Shared->Prop),Inv X af σ H s->(∀b∈fp,FpOk X af H b)->tn i s.heap->J.go i H->
  wpAny (model P w) X.A (pyNext (.ref it)) (λr s1=>∃u,r=some u/\
   wpAny (model P w) X.A (letOwnedTupleGo tg (.ref it) u) (λ_ s2=>∃x H',Inv X af σ H' s2/\RelV x u/\J.yld i H x H'/\tn (i+1) s2.heap/\∀b∈fp,H' b=none) E s1) E s
 done:∀(X:Cx),X.prog=P->X.w=w->X.K=K->X.calm=true->∀(i:Nat) (af:List (Addr×Obj)) (s:Shared) (σ:St) (H:Hp) (E:Value->Shared->Prop),Inv X af σ H s->(∀b∈fp,FpOk X af H b)->tn i s.heap->J.stop i H->
  wpAny (model P w) X.A (pyNext (.ref it)) (λr s1=>r=none/\Inv X af σ H s1) E s
 self:∀(A:Around) (i:Nat) (s:Shared) (Q:Value->Shared->Prop) (E:Value->Shared->Prop),tn i s.heap->Q (.ref it) s->wpAny (model P w) A (pyIter (.ref it)) Q E s
abbrev TI:=St->Hp->(It->Hp->Prop)->Prop
def PIE(X:Cx)(af:List (Addr×Obj))(σ:St)(tg:Expr)(R:It->Hp->Prop)(itv:Value)(s2:Shared):Prop:=
 ∃(it:Addr) (fp:List Addr) (tn:Nat->Heap->Prop) (J:It) (H':Hp),itv=.ref it/\Inv X af σ H' s2/\Turn X.prog X.w X.K tg J fp it tn/\tn 0 s2.heap/\(∀b∈fp,FpOk X af H' b)/\R J H'
def PI(X:Cx)(tg iter:Expr)(wi:TI):Prop:=
 ∀(af:List (Addr×Obj)) (s:Shared) (σ:St) (H:Hp) (R:It->Hp->Prop),Inv X af σ H s->wi σ H R->
  wpAny (model X.prog X.w) X.A (eval iter X.env) (λv s1=>wpAny (model X.prog X.w) X.A (pyIter v) (PIE X af σ tg R) X.xe s1) X.xe s
theorem JC{M:Model}{A:Around}{E:Value->Shared->Prop}{s:Shared}{tg:Expr}{it:Addr}{u:Value}{o:Obj}{n:String}{vs:Array Value}{Q:Unit->Shared->Prop}(ho:s.heap.get? it=some o)(hc:o.cls=.type n)(hd:o.data=.fields vs)
  (hn:["enumerate","zip","dict_itemiterator","dict_reverseitemiterator","odict_iterator","itertools.zip_longest","itertools.pairwise"].contains n=false) (hQ:Q () s):wpAny M A (letOwnedTupleGo tg (.ref it) u) Q E s:=by
 unfold letOwnedTupleGo;cases tg<;>first
  | exact nS hQ
  | (cases u<;>first
    | exact nS hQ
    | (refine nQ (wpAny_load ho ?_);rw[hc,hd];show wpAny M A (if (["enumerate","zip","dict_itemiterator","dict_reverseitemiterator","odict_iterator","itertools.zip_longest","itertools.pairwise"].contains n&&vs[0]? ==some (rawInt _))=true then _ else _) Q E s;rw[nU (by intro h;rw[hn,Bool.false_and]at h;cases h)];exact nS hQ))
def Itl(K:nW)(a:Addr):It:=
 ⟨λi H=>∃xs x,SqL K H a xs/\xs[i]? = some x,λi H x H'=>H'=H/\∀xs,SqL K H a xs->xs[i]? = some x,λi H=>∃xs,SqL K H a xs/\xs.length<=i⟩
def Itt(K:nW)(a:Addr):It:=
 ⟨λi H=>∃xs x,SqT K H a xs/\xs[i]? = some x,λi H x H'=>H'=H/\∀xs,SqT K H a xs->xs[i]? = some x,λi H=>∃xs,SqT K H a xs/\xs.length<=i⟩
def Itr(lo:Int)(n:Nat):It:=⟨λi _=>i<n,λi H x H'=>H'=H/\x=.int (lo+i),λi _=>n<=i⟩
theorem OX{P:Program}{w:World}{K:nW}{tg:Expr}(a it:Addr):Turn P w K tg (Itl K a) [it] it (λi h=>h.IsListIter it a i) where
 mem:=by simp
 obj:=λi h st b hb=>by
  have e:b=it:=by simpa using hb
  subst e;obtain⟨o,e,c,d⟩:=st;exact⟨o,e,λv z=>by rw[d]at z;cases z⟩
 keep:=λi h h' st k=>st.at λo e=>k it (by simp) o e
 item:=by
  intro X hP hw hK hc i af s σ H E I hf st hg;subst hP hw hK;obtain⟨xs,x,hq,hx⟩:=hg;obtain⟨its,rv,p,hz⟩:=I.list hq;obtain⟨u,hu,ru⟩:=rv.get hx;obtain⟨f0,f1,f2,f3,f4,f5⟩:=hf it (by simp);refine wpAny_pyNext_list_item st p.isList (x:=u) (by simpa using hu) λh' st' sb=>?_;have I1:Inv X af σ H { s with heap:=h' } :=I.turned (t':=s.toks) (λb o hb e=>(sb.2 b hb).trans e) f0 f1 f3 f4 f5;obtain⟨o,e,c,d⟩:=id st';exact⟨u,rfl,JC (s:={ s with heap:=h' }) e c d (by decide) ⟨x,H,I1,ru,⟨rfl,λys hy=>by rw[I.list_inj hy hq];exact hx⟩,st',λb hb=>(hf b hb).1⟩⟩
 done:=by
  intro X hP hw hK hc i af s σ H E I hf st hg;subst hP hw hK;obtain⟨xs,hq,hx⟩:=hg;obtain⟨its,rv,p,hz⟩:=I.list hq;obtain⟨f0,f1,f2,f3,f4,f5⟩:=hf it (by simp);have hl:=rv.length;exact wpAny_pyNext_list_end (I.ok.hd hc) st p.isList (by simp;lia) λh' eb=>⟨rfl,I.turned (t':=s.toks) (λb o hb e=>eb b o hb e) f0 f1 f3 f4 f5⟩
 self:=λ_ _ _ _ _ st h=>wpAny_pyIter_listiter st h
theorem JW{P:Program}{w:World}{K:nW}{tg:Expr}(a it:Addr):Turn P w K tg (Itt K a) [it] it (λi h=>h.IsTupleIter it a i) where
 mem:=by simp
 obj:=λi h st b hb=>by
  have e:b=it:=by simpa using hb
  subst e;obtain⟨o,e,c,d⟩:=st;exact⟨o,e,λv z=>by rw[d]at z;cases z⟩
 keep:=λi h h' st k=>st.at λo e=>k it (by simp) o e
 item:=by
  intro X hP hw hK hc i af s σ H E I hf st hg;subst hP hw hK;obtain⟨xs,x,hq,hx⟩:=hg;obtain⟨its,rv,p,hz⟩:=I.tuple hq;obtain⟨u,hu,ru⟩:=rv.get hx;obtain⟨f0,f1,f2,f3,f4,f5⟩:=hf it (by simp);refine wpAny_pyNext_tuple_item st (show s.heap.IsTuple a its.toArray from p) (x:=u) (by simpa using hu) λh' st' sb=>?_;have I1:Inv X af σ H { s with heap:=h' } :=I.turned (t':=s.toks) (λb o hb e=>(sb.2 b hb).trans e) f0 f1 f3 f4 f5;obtain⟨o,e,c,d⟩:=id st';exact⟨u,rfl,JC (s:={ s with heap:=h' }) e c d (by decide) ⟨x,H,I1,ru,⟨rfl,λys hy=>by rw[I.tuple_inj hy hq];exact hx⟩,st',λb hb=>(hf b hb).1⟩⟩
 done:=by
  intro X hP hw hK hc i af s σ H E I hf st hg;subst hP hw hK;obtain⟨xs,hq,hx⟩:=hg;obtain⟨its,rv,p,hz⟩:=I.tuple hq;obtain⟨f0,f1,f2,f3,f4,f5⟩:=hf it (by simp);have hl:=rv.length;exact wpAny_pyNext_tuple_end (I.ok.hd hc) st (show s.heap.IsTuple a its.toArray from p) (by simp;lia) λh' eb=>⟨rfl,I.turned (t':=s.toks) (λb o hb e=>eb b o hb e) f0 f1 f3 f4 f5⟩
 self:=λ_ _ _ _ _ st h=>wpAny_pyIter_tupleiter st h
theorem JX{P:Program}{w:World}{K:nW}{tg:Expr}(it:Addr)(lo:Int)(n:Nat):Turn P w K tg (Itr lo n) [it] it (λi h=>IsRangeIter h it (lo+(i:Nat)*1) ((n:Int)-(i:Nat)) 1) where
 mem:=by simp
 obj:=λi h st b hb=>by
  have e:b=it:=by simpa using hb
  subst e;exact⟨_,st,λv z=>by
   have z':Data.fields _=Data.cell v:=z;cases z'⟩
 keep:=λi h h' st k=>k it (by simp) _ st
 item:=by
  intro X hP hw hK hc i af s σ H E I hf st hg;subst hP hw hK;obtain⟨f0,f1,f2,f3,f4,f5⟩:=hf it (by simp);have W:=Walks.range (prog:=X.prog) (w:=X.w) (I.ok.hd hc) it lo 1 n;refine W.item i s _ _ hg st λv h' tk hv st' kk=>?_;obtain⟨t,rfl⟩:=hv;have I1:Inv X af σ H { s with heap:=h',toks:=tk } :=I.turned (λb o hb e=>kk b o (by simpa using hb) e) f0 f1 f3 f4 f5;refine⟨_,rfl,JC (s:={ s with heap:=h',toks:=tk }) (n:="range_iterator") st' rfl rfl (by decide) ⟨.int (lo+i),H,I1,⟨t, ?_⟩,⟨rfl,rfl⟩,st',λb hb=>(hf b hb).1⟩⟩;rw[Int.mul_one]
 done:=by
  intro X hP hw hK hc i af s σ H E I hf st hg;subst hP hw hK;obtain⟨f0,f1,f2,f3,f4,f5⟩:=hf it (by simp);exact wpAny_pyNext_range_end (I.ok.hd hc) st (by have:n<=i:=hg;lia) λh' eb=>⟨rfl,I.turned (t':=s.toks) (λb o hb e=>eb b o hb e) f0 f1 f3 f4 f5⟩
 self:=λ_ _ _ _ _ st h=>wpAny_pyIter_rangeiter st h
section
variable{X:Cx}{tg:Expr}
def iList(K:nW)(tl:TE):TI:=fun σ H R=>tl σ H λx H1=>∃a,x=.ref a/\(∃xs,SqL K H1 a xs)/\R (Itl K a) H1
def iTup(K:nW)(tl:TE):TI:=fun σ H R=>tl σ H λx H1=>∃a,x=.ref a/\(∃xs,SqT K H1 a xs)/\R (Itt K a) H1
theorem zZ{l:Expr}{tl:TE}(hl:PE X l tl):PI X tg l (iList X.K tl):=by
 intro af s σ H R I h;refine thn (hl af s σ H _ I h) λv s1 ⟨x,H1,I1,r1,q1⟩=>?_;obtain⟨a,e,⟨xs,hq⟩,q⟩:=q1;subst e;cases r1;obtain⟨its,rv,p,hz⟩:=I1.list hq;refine wpAny_pyIter_list p.isList ?_;refine⟨s1.heap.objs.size,[s1.heap.objs.size],_,_,H1,rfl,I1.kept (t':=s1.toks) λb o e=>gP _ e,OX a _,⟨_,hU _ rfl,rfl,rfl⟩,λb hb=>?_,q⟩;have e:b=s1.heap.objs.size:=by simpa using hb
 subst e;exact I1.fpOk gC (I1.hok.fresh gC)
theorem BN{l:Expr}{tl:TE}(hl:PE X l tl):PI X tg l (iTup X.K tl):=by
 intro af s σ H R I h;refine thn (hl af s σ H _ I h) λv s1 ⟨x,H1,I1,r1,q1⟩=>?_;obtain⟨a,e,⟨xs,hq⟩,q⟩:=q1;subst e;cases r1;obtain⟨its,rv,p,hz⟩:=I1.tuple hq;refine wpAny_pyIter_tuple (show s1.heap.IsTuple a its.toArray from p) ?_;refine⟨s1.heap.objs.size,[s1.heap.objs.size],_,_,H1,rfl,I1.kept (t':=s1.toks) λb o e=>gP _ e,JW a _,⟨_,hU _ rfl,rfl,rfl⟩,λb hb=>?_,q⟩;have e:b=s1.heap.objs.size:=by simpa using hb
 subst e;exact I1.fpOk gC (I1.hok.fresh gC)
theorem SV{af:List (Addr×Obj)}{σ:St}{H:Hp}{s:Shared}{R:It->Hp->Prop}{E:Value->Shared->Prop}{lo hi:Int}{t u v:Tok}{tk:Nat}(I:Inv X af σ H s)(h1: -(2^62)<=lo)(h2:lo<2^62)(h3: -(2^62)<=hi)(h4:hi<2^62)
  (q:R (Itr lo (hi-lo).toNat) H):wpAny (model X.prog X.w) X.A (pyIter (.ref s.heap.objs.size)) (PIE X af σ tg R) E { s with heap:=s.heap.push { cls:=.type "range",data:=.fields #[.int lo t,.int hi u,.int 1 v] },toks:=tk } :=by
 refine wpAny_pyIter_range (IsRange.new ..) (small_one h1 h2 h3 h4) ?_;have I1:Inv X af σ H { s with heap:=s.heap.push { cls:=.type "range",data:=.fields #[.int lo t,.int hi u,.int 1 v] },toks:=tk } :=I.kept λb o e=>gP _ e;refine⟨(s.heap.push { cls:=.type "range",data:=.fields #[.int lo t,.int hi u,.int 1 v] }).objs.size,[(s.heap.push { cls:=.type "range",data:=.fields #[.int lo t,.int hi u,.int 1 v] }).objs.size],_,_,H,rfl,
  I1.kept (t':=tk) λb o e=>gP _ e,JX _ lo (hi-lo).toNat, ?_,λb hb=>?_,q⟩
 ·have e1:lo+((0:Nat):Int)*1=lo:=by simp
  have e2:(((hi-lo).toNat:Nat):Int)-((0:Nat):Int)=Builtin.Range.rangeSize lo hi 1:=by rw[rangeSize_one];split<;>lia
  show IsRangeIter _ _ (lo+((0:Nat):Int)*1) ((((hi-lo).toNat:Nat):Int)-((0:Nat):Int)) 1;rw[e1,e2];exact hU _ rfl
 ·have e:b=(s.heap.push { cls:=.type "range",data:=.fields #[.int lo t,.int hi u,.int 1 v] }).objs.size:=by simpa using hb
  subst e;exact I1.fpOk gC (I1.hok.fresh gC)
def iRng1(ta:TA):TI:=fun σ H R=>ta σ H λvs H1=>∃j:Int,vs=[.int j]/\-(2^62)<=j/\j<2^62/\R (Itr 0 j.toNat) H1
theorem yD{a:Expr}{ta:TA}{p pos:Pos}(hg:Gl X "range")(hm:X.mg "range" = none)(ha:PA X [a] ta)(hs:starEach [a] X.env=[(false,eval a X.env)]:=by rfl):PI X tg (.Call (.Name "range" p) [a] [] pos) (iRng1 ta):=by
 intro af s σ H R I h;refine Call_ (yT I hg hm boot_range (PyProof.Rows.callWith_type1 (thn (ha pos af s σ H _ I h) λus s1 ⟨vs,H1,I1,r1,q1⟩=>?_) hs rfl));obtain⟨j,e,q1,q2,q⟩:=q1;subst e;cases r1 with
 | cons r rr=>
  cases rr;obtain⟨t,rfl⟩:=r;exact call_range_1 (SV I1 (by lia) (by lia) q1 q2 (by simpa using q))
def tFor(wi:TI)(g:TG)(tb:TS):TS:=λD σ H=>wi σ H λJ H1=>∃W:Nat->Nat->St->Hp->Prop,(∃m,W 0 m σ H1)/\∀i m σ H,W i m σ H->
 (J.stop i H/\D.nx σ H)∨(J.go i H/\∃N:St->Hp->Prop,(∀σ' H',N σ' H'->∃m',m'<m/\W (i+1) m' σ' H')/\∀x H',J.yld i H x H'->g x σ H' fun σ2 H2=>tb { D with nx:=N,ct:=N,bk:=D.nx } σ2 H2)
def FL(fp:List Addr)(h:Heap):List (Addr×Obj):=fp.filterMap λb=>(h.get? b).map λo=>(b,o)
theorem vU{fp:List Addr}{h:Heap}{b:Addr}{o:Obj}(hb:b∈fp)(e:h.get? b=some o):(b,o)∈FL fp h:=List.mem_filterMap.mpr ⟨b,hb,by rw[e];rfl⟩
theorem QD{fp:List Addr}{h:Heap}{p:Addr×Obj}(hp:p∈FL fp h):p.1∈fp/\h.get? p.1=some p.2:=by
 obtain⟨b,hb,e⟩:=List.mem_filterMap.mp hp;cases q:h.get? b with
 | none=>rw[q]at e;cases e
 | some o=>
  rw[q]at e;have e':(b,o)=p:=Option.some.inj e;subst e';exact⟨hb,q⟩
theorem Inv.pinned{af:List (Addr×Obj)}{σ:St}{H:Hp}{s:Shared}{fp:List Addr}(I:Inv X af σ H s)(hf:∀b∈fp,FpOk X af H b)(ho:∀b∈fp,∃o,s.heap.get? b=some o/\∀v,o.data≠.cell v):Inv X (af++FL fp s.heap) σ H s:=
 I.pins_of λp hp=>(mS.mp hp).elim (λz=>I.pin p (gS _ z)) λz=>by
  obtain⟨hb,e⟩:=QD z;obtain⟨f0,f1,f2,_⟩:=hf p.1 hb;obtain⟨o,e',d⟩:=ho p.1 hb;rw[e]at e';cases e';exact⟨e,f0,f1,f2,d⟩
theorem Inv.unpinned{af pl:List (Addr×Obj)}{σ:St}{H:Hp}{s:Shared}(I:Inv X (af++pl) σ H s):Inv X af σ H s:=I.pins_of λp hp=>I.pin p (gS _ (List.mem_append_left _ hp))
theorem qU{iter:Expr}{body:List Stmt}{wi:TI}{g:TG}{tb:TS}{pos:Pos}(hp:PassesOwn (model X.prog X.w) X.A X.env X.xe)(hc:X.calm=true)(hi:PI X tg iter wi)(hg:PG X tg g)(hb:PSs X body tb)
  (hs:∀x,foldedSetIterable iter X.env x=pure x:=by intro _;rfl):PS X (.For tg iter body [] pos) (tFor wi g tb):=by
 intro af s σ H D I h;refine wpAny_For (thn (hi af s σ H _ I h) λv s1 h1=>thn h1 λitv s2 h2=>?_) hs;obtain⟨it,fp,tn,J,H2,e,I2,T,st2,f2,W,⟨m0,w0⟩,turn⟩:=h2;subst e;have stat:∀{H':Hp},(∀b∈fp,H' b=none)->∀b∈fp,FpOk X af H' b:=λhn b hb=>⟨hn b hb,(f2 b hb).2⟩;refine codeAny_forLoop_any (λn s'=>∃i σ' H',Inv X af σ' H' s'/\tn i s'.heap/\(∀b∈fp,H' b=none)/\W i n σ' H') ?_ m0 ⟨0,σ,H2,I2,st2,λb hb=>(f2 b hb).1,w0⟩;rintro n s3 ⟨i,σ3,H3,I3,st3,fr3,w3⟩;rcases turn i n σ3 H3 w3 with⟨stop,qn⟩ | ⟨go,N,hN,step⟩
 ·refine wpAny_passesOwn hp (thn (T.done X rfl rfl rfl hc i af s3 σ3 H3 X.xe I3 (stat fr3) st3 stop) λr s4 ⟨hr,I4⟩=>?_);subst hr;exact wpAny_execs_nil ⟨σ3,H3,I4,qn⟩
 ·refine wpAny_passesOwn hp (thn (T.item X rfl rfl rfl hc i af s3 σ3 H3 X.xe I3 (stat fr3) st3 go) λr s4 ⟨u,hr,h4⟩=>?_);subst hr;refine wpAny_passesOwn hp (thn h4 λ_ s5 ⟨x,H5,I5,r5,y5,st5,fr5⟩=>?_);have I5':=I5.pinned (stat fr5) (T.obj _ _ st5);refine wpAny_passesOwn hp (thn (hg _ s5 σ3 H5 x u _ I5' r5 (step x H5 y5)) λ_ s6 ⟨σ6,H6,I6,q6⟩=>?_);refine wpAny_passesOwn hp (thn (hb _ s6 σ6 H6 _ I6 q6) λf s7 q7=>?_);have again:∀{σ7:St} {H7:Hp},Inv X (af++FL fp s5.heap) σ7 H7 s7->N σ7 H7->∃m,m<n/\∃i σ' H',Inv X af σ' H' s7/\tn i s7.heap/\(∀b∈fp,H' b=none)/\W i m σ' H':=fun {σ7 H7} I7 n7=>by
   obtain⟨m',hm,w7⟩:=hN σ7 H7 n7;refine⟨m',hm,i+1,σ7,H7,I7.unpinned,T.keep _ _ _ st5 λb hb o e=>(I7.pin (b,o) (gS _ (gS _ (vU hb e)))).1,λb hb=>?_,w7⟩;obtain⟨o,e,d⟩:=T.obj _ _ st5 b hb;exact(I7.pin (b,o) (gS _ (gS _ (vU hb e)))).2.1
  cases f with
  | next=>obtain⟨σ7,H7,I7,n7⟩:=q7;exact again I7 n7
  | cont=>obtain⟨σ7,H7,I7,n7⟩:=q7;exact again I7 n7
  | brk=>obtain⟨σ7,H7,I7,q7⟩:=q7;exact⟨σ7,H7,I7.unpinned,q7⟩
  | ret v=>obtain⟨x7,σ7,H7,I7,r7,q7⟩:=q7;exact⟨x7,σ7,H7,I7.unpinned,r7,q7⟩
end
theorem zS{K:nW}{a:Addr}{xs:List V}{g:TG}{tb:TS}{D:Ends}{σ:St}{H:Hp}(Pv:Nat->St->Hp->Prop)(h0:Pv 0 σ H)(hl:∀i σ H,i<=xs.length->Pv i σ H->SqL K H a xs)
  (hs:∀i x σ H,xs[i]? = some x->Pv i σ H->g x σ H fun σ2 H2=>tb { D with nx:=Pv (i+1),ct:=Pv (i+1),bk:=D.nx } σ2 H2) (hd:∀σ H,Pv xs.length σ H->D.nx σ H) :
  ∃W:Nat->Nat->St->Hp->Prop,(∃m,W 0 m σ H)/\∀i m σ H,W i m σ H->
   ((Itl K a).stop i H/\D.nx σ H)∨((Itl K a).go i H/\∃N:St->Hp->Prop,(∀σ' H',N σ' H'->∃m',m'<m/\W (i+1) m' σ' H')/\∀x H',(Itl K a).yld i H x H'->g x σ H' fun σ2 H2=>tb { D with nx:=N,ct:=N,bk:=D.nx } σ2 H2):=by
 refine⟨λi m σ H=>m=xs.length-i/\i<=xs.length/\Pv i σ H,⟨xs.length,by simp,nO _,h0⟩, ?_⟩;rintro i m σ H ⟨rfl,hi,p⟩;have q:=hl i σ H hi p;by_cases hlt:i<xs.length
 ·refine .inr ⟨⟨xs,xs[i],q,by simp [hlt]⟩,Pv (i+1),fun σ' H' p'=>⟨xs.length-(i+1),by lia,rfl,hlt,p'⟩,λx H' y=>?_⟩;obtain⟨e,y⟩:=y;subst e;exact hs i x σ _ (y xs q) p
 ·have e:i=xs.length:=by lia
  subst e;exact .inl ⟨⟨xs,q,nN _⟩,hd σ H p⟩
theorem OF{K:nW}{a:Addr}{xs:List V}{g:TG}{tb:TS}{D:Ends}{σ:St}{H:Hp}(Pv:Nat->St->Hp->Prop)(h0:Pv 0 σ H)(hl:∀i σ H,i<=xs.length->Pv i σ H->SqT K H a xs)
  (hs:∀i x σ H,xs[i]? = some x->Pv i σ H->g x σ H fun σ2 H2=>tb { D with nx:=Pv (i+1),ct:=Pv (i+1),bk:=D.nx } σ2 H2) (hd:∀σ H,Pv xs.length σ H->D.nx σ H) :
  ∃W:Nat->Nat->St->Hp->Prop,(∃m,W 0 m σ H)/\∀i m σ H,W i m σ H->
   ((Itt K a).stop i H/\D.nx σ H)∨((Itt K a).go i H/\∃N:St->Hp->Prop,(∀σ' H',N σ' H'->∃m',m'<m/\W (i+1) m' σ' H')/\∀x H',(Itt K a).yld i H x H'->g x σ H' fun σ2 H2=>tb { D with nx:=N,ct:=N,bk:=D.nx } σ2 H2):=by
 refine⟨λi m σ H=>m=xs.length-i/\i<=xs.length/\Pv i σ H,⟨xs.length,by simp,nO _,h0⟩, ?_⟩;rintro i m σ H ⟨rfl,hi,p⟩;have q:=hl i σ H hi p;by_cases hlt:i<xs.length
 ·refine .inr ⟨⟨xs,xs[i],q,by simp [hlt]⟩,Pv (i+1),fun σ' H' p'=>⟨xs.length-(i+1),by lia,rfl,hlt,p'⟩,λx H' y=>?_⟩;obtain⟨e,y⟩:=y;subst e;exact hs i x σ _ (y xs q) p
 ·have e:i=xs.length:=by lia
  subst e;exact .inl ⟨⟨xs,q,nN _⟩,hd σ H p⟩
theorem yI{lo:Int}{n:Nat}{g:TG}{tb:TS}{D:Ends}{σ:St}{H:Hp}(Pv:Nat->St->Hp->Prop)(h0:Pv 0 σ H)
  (hs:∀i σ H,i<n->Pv i σ H->g (.int (lo+i)) σ H fun σ2 H2=>tb { D with nx:=Pv (i+1),ct:=Pv (i+1),bk:=D.nx } σ2 H2) (hd:∀σ H,Pv n σ H->D.nx σ H) :
  ∃W:Nat->Nat->St->Hp->Prop,(∃m,W 0 m σ H)/\∀i m σ H,W i m σ H->
   ((Itr lo n).stop i H/\D.nx σ H)∨((Itr lo n).go i H/\∃N:St->Hp->Prop,(∀σ' H',N σ' H'->∃m',m'<m/\W (i+1) m' σ' H')/\∀x H',(Itr lo n).yld i H x H'->g x σ H' fun σ2 H2=>tb { D with nx:=N,ct:=N,bk:=D.nx } σ2 H2):=by
 refine⟨λi m σ H=>m=n-i/\i<=n/\Pv i σ H,⟨n,by simp,nO _,h0⟩, ?_⟩;rintro i m σ H ⟨rfl,hi,p⟩;by_cases hlt:i<n
 ·refine .inr ⟨hlt,Pv (i+1),fun σ' H' p'=>⟨n-(i+1),by lia,rfl,hlt,p'⟩,λx H' y=>?_⟩;obtain⟨e,y⟩:=y;subst e y;exact hs i σ _ hlt p
 ·have e:i=n:=by lia
  subst e;exact .inl ⟨nN _,hd σ H p⟩
theorem HD{c:TT}{tb:TS}{D:Ends}{σ:St}{H:Hp}(Pv:St->Hp->Prop)(μ:St->Hp->Nat)(h0:Pv σ H)
  (hs:∀σ H,Pv σ H->c σ H λb H1=>if b=true then tb { D with nx:=fun σ' H'=>Pv σ' H'/\μ σ' H'<μ σ H,ct:=fun σ' H'=>Pv σ' H'/\μ σ' H'<μ σ H,bk:=D.nx } σ H1 else D.nx σ H1)
  (mono:∀σ H Q Q',(∀b H1,Q b H1->Q' b H1)->c σ H Q->c σ H Q'):JZ c tb D σ H:=by
 refine⟨λm σ H=>m=μ σ H/\Pv σ H,⟨_,rfl,h0⟩, ?_⟩;rintro m σ H ⟨rfl,p⟩;refine mono σ H _ _ (λb H1 q=>?_) (hs σ H p);cases b with
 | true=>exact⟨_,fun σ' H' ⟨p',l⟩=>⟨_,l,rfl,p'⟩,q⟩
 | false=>exact q
abbrev R2:=V->V->Hp->VK->Prop
def OpR(X:Cx)(f:Value->Value->Sem Value)(r:R2):Prop:=
 ∀(af:List (Addr×Obj)) (s:Shared) (σ:St) (H:Hp) (x y:V) (v u:Value) (Q:VK),Inv X af σ H s->RelV x v->RelV y u->r x y H Q->
  wpAny (model X.prog X.w) X.A (f v u) (EP X af σ Q) X.xe s
def UnR(X:Cx)(f:Value->Sem Value)(r:V->Hp->VK->Prop):Prop:=
 ∀(af:List (Addr×Obj)) (s:Shared) (σ:St) (H:Hp) (x:V) (v:Value) (Q:VK),Inv X af σ H s->RelV x v->r x H Q->
  wpAny (model X.prog X.w) X.A (f v) (EP X af σ Q) X.xe s
def CallR(X:Cx)(f:Value)(r:List V->Hp->VK->Prop):Prop:=
 ∀(af:List (Addr×Obj)) (s:Shared) (σ:St) (H:Hp) (xs:List V) (us:List Value) (Q:VK),Inv X af σ H s->Vals xs us->r xs H Q->
  wpAny (model X.prog X.w) X.A (call f us) (EP X af σ Q) X.xe s
def tOp(r:R2)(ta tb:TE):TE:=fun σ H Q=>ta σ H λx H1=>tb σ H1 λy H2=>r x y H2 Q
def tUn(r:V->Hp->VK->Prop)(ta:TE):TE:=fun σ H Q=>ta σ H λx H1=>r x H1 Q
def rI(C:Int->Int->Prop)(g:Int->Int->V):R2:=λx y H Q=>∃i j,x=.int i/\y=.int j/\C i j/\Q (g i j) H
def rI0(g:Int->Int->V):R2:=λx y H Q=>∃i j,x=.int i/\y=.int j/\Q (g i j) H
def rU(g:Int->V):V->Hp->VK->Prop:=λx H Q=>∃i,x=.int i/\Q (g i) H
section
variable{X:Cx}{a b c:Expr}{ta tb tc:TE}{pos:Pos}
theorem binT(ha:PE X a ta)(hb:PE X b tb){af:List (Addr×Obj)}{s:Shared}{σ:St}{H:Hp}{R:V->V->Hp->Prop}(I:Inv X af σ H s)
  (h:ta σ H λx H1=>tb σ H1 λy H2=>R x y H2) {Q:Value->Shared->Prop} {f:Value->Value->Sem Value}
  (hf:∀v u s2 x y H2,Inv X af σ H2 s2->RelV x v->RelV y u->R x y H2->wpAny (model X.prog X.w) X.A (f v u) Q X.xe s2) :
  wpAny (model X.prog X.w) X.A (eval a X.env) (λv s₁=>wpAny (model X.prog X.w) X.A (eval b X.env) (λu s₂=>wpAny (model X.prog X.w) X.A (f v u) Q X.xe s₂) X.xe s₁) X.xe s:=by
 refine thn (ha af s σ H _ I h) λv s1 ⟨x,H1,I1,r1,q1⟩=>?_;refine thn (hb af s1 σ H1 _ I1 q1) λu s2 ⟨y,H2,I2,r2,q2⟩=>?_;exact hf v u s2 x y H2 I2 r1 r2 q2
theorem jH{op:Operator}{r:R2}(ho:OpR X (binaryOp op) r)(ha:PE X a ta)(hb:PE X b tb):PE X (.BinOp a op b pos) (tOp r ta tb):=by
 intro af s σ H Q I h;exact wpAny_BinOp (binT ha hb I h λv u s2 x y H2 I2 rx ry q=>ho af s2 σ H2 x y v u Q I2 rx ry q)
theorem wX{op:UnaryOp}{r:V->Hp->VK->Prop}(ho:UnR X (unaryOp op) r)(ha:PE X a ta):PE X (.UnaryOp op a pos) (tUn r ta):=by
 intro af s σ H Q I h;exact UnaryOp_ (thn (ha af s σ H _ I h) λv s1 ⟨x,H1,I1,r1,q1⟩=>ho af s1 σ H1 x v Q I1 r1 q1)
theorem opI{f:Value->Value->Sem Value}{C:Int->Int->Prop}{g:Int->Int->Int}
  (rule:∀(i j:Int) (t u:Tok) (s:Shared) (Q:Value->Shared->Prop) (E:Value->Shared->Prop),C i j->Q (.int (g i j) s.toks) { s with toks:=s.toks+1 }->wpAny (model X.prog X.w) X.A (f (.int i t) (.int j u)) Q E s) :
  OpR X f (rI C λi j=>.int (g i j)):=by
 intro af s σ H x y v u Q I rx ry h;obtain⟨i,j,rfl,rfl,hc,q⟩:=h;obtain⟨t,rfl⟩:=rx;obtain⟨t',rfl⟩:=ry;exact rule i j t t' s _ _ hc ⟨.int (g i j),H,I.tok _,⟨_,rfl⟩,q⟩
theorem opI0{f:Value->Value->Sem Value}{g:Int->Int->Int}
  (rule:∀(i j:Int) (t u:Tok) (s:Shared) (Q:Value->Shared->Prop) (E:Value->Shared->Prop),Q (.int (g i j) s.toks) { s with toks:=s.toks+1 }->wpAny (model X.prog X.w) X.A (f (.int i t) (.int j u)) Q E s) :
  OpR X f (rI0 λi j=>.int (g i j)):=by
 intro af s σ H x y v u Q I rx ry h;obtain⟨i,j,rfl,rfl,q⟩:=h;obtain⟨t,rfl⟩:=rx;obtain⟨t',rfl⟩:=ry;exact rule i j t t' s _ _ ⟨.int (g i j),H,I.tok _,⟨_,rfl⟩,q⟩
theorem WW{f:Value->Value->Sem Value}{g:Int->Int->Bool}
  (rule:∀(i j:Int) (t u:Tok) (s:Shared) (Q:Value->Shared->Prop) (E:Value->Shared->Prop),Q (.bool (g i j)) s->wpAny (model X.prog X.w) X.A (f (.int i t) (.int j u)) Q E s) :
  OpR X f (rI0 λi j=>.bl (g i j)):=by
 intro af s σ H x y v u Q I rx ry h;obtain⟨i,j,rfl,rfl,q⟩:=h;obtain⟨t,rfl⟩:=rx;obtain⟨t',rfl⟩:=ry;exact rule i j t t' s _ _ ⟨.bl (g i j),H,I,rfl,q⟩
def CDiv(i j:Int):Prop:=0<j/\j<1073741824
def CPow(i j:Int):Prop:=0<=j/\j<=1000000/\i.natAbs<2^64
def CMul(i j:Int):Prop:=(-(2^64)<i/\i<2^64)∨(-(2^64)<j/\j<2^64)
theorem CMul.ok{i j:Int}(h:CMul i j):IntMulOk i j:=by
 rcases h with⟨h1,h2⟩ | ⟨h1,h2⟩
 ·exact .of_left (intBits_le_64 h1 h2)
 ·exact .of_right (intBits_le_64 h1 h2)
theorem qB:OpR X (binaryOp .Add) (rI0 λi j=>.int (i+j)):=opI0 λ_ _ _ _ _ _ _ q=>add_int q
theorem yQ:OpR X (binaryOp .Sub) (rI0 λi j=>.int (i-j)):=opI0 λ_ _ _ _ _ _ _ q=>sub_int q
theorem xE:OpR X (binaryOp .Mult) (rI CMul λi j=>.int (i*j)):=opI λ_ _ _ _ _ _ _ hc q=>mul_int q hc.ok
theorem NN:OpR X (binaryOp .FloorDiv) (rI CDiv λi j=>.int (i/j)):=opI λi j _ _ _ _ _ hc q=>by
 have h1:(0:Int)<j:=hc.1;have h2:j<1073741824:=hc.2;exact floordiv_int (by lia) (by rw[Int.fdiv_eq_ediv_of_nonneg i (by lia)];exact q) (.inl (PyProof.noPylong_small (by lia)))
theorem vT:OpR X (binaryOp .Mod) (rI (λ_ j=>0<j) λi j=>.int (i%j)):=opI λi j _ _ _ _ _ hc q=>by
 have h1:(0:Int)<j:=hc;exact mod_int' (by lia) (by rw[Int.fmod_eq_emod_of_nonneg i (by lia)];exact q)
theorem xZ:OpR X (binaryOp .Pow) (rI CPow λi j=>.int (i^j.toNat)):=opI λ_ _ _ _ _ _ _ hc q=>pow_int_small hc.1 hc.2.1 hc.2.2 q
theorem unI{f:Value->Sem Value}{g:Int->Int}
  (rule:∀(i:Int) (t:Tok) (s:Shared) (Q:Value->Shared->Prop) (E:Value->Shared->Prop),Q (.int (g i) s.toks) { s with toks:=s.toks+1 }->wpAny (model X.prog X.w) X.A (f (.int i t)) Q E s) :
  UnR X f (rU λi=>.int (g i)):=by
 intro af s σ H x v Q I rx h;obtain⟨i,rfl,q⟩:=h;obtain⟨t,rfl⟩:=rx;exact rule i t s _ _ ⟨.int (g i),H,I.tok _,⟨_,rfl⟩,q⟩
theorem yM:UnR X (unaryOp .USub) (rU λi=>.int (-i)):=unI λ_ _ _ _ _ q=>neg_int q
end
def scal:V->V->Bool
 | .non,.non=>true | .non,.int _=>true | .int _,.non=>true | .non,.bl _=>true | .bl _,.non=>true | .non,.str _=>true | .str _,.non=>true
 | .int _,.int _=>true | .bl _,.bl _=>true | .str _,.str _=>true | .byt _,.byt _=>true
 | .int _,.str _=>true | .str _,.int _=>true | .bl _,.str _=>true | .str _,.bl _=>true
 | _,_=>false
def rEq:R2:=λx y H Q=>scal x y=true/\Q (.bl (decide (x=y))) H
def rNe:R2:=λx y H Q=>scal x y=true/\Q (.bl (!decide (x=y))) H
theorem GU{i j:Int} :decide (V.int i=V.int j)=(i==j):=by
 rw[Bool.eq_iff_iff];simp
theorem VG{i j:Bool} :decide (V.bl i=V.bl j)=(i==j):=by
 rw[Bool.eq_iff_iff];simp
theorem xJ{i j:Str} :decide (V.str i=V.str j)=(i==j):=by
 rw[Bool.eq_iff_iff];simp
theorem ON{i j:Array UInt8} :decide (V.byt i=V.byt j)=(i.toList==j.toList):=by
 rw[Bool.eq_iff_iff];cases i;cases j;simp
section
variable{X:Cx}{a b c:Expr}{ta tb tc:TE}{pos:Pos}
theorem kI{af:List (Addr×Obj)}{σ:St}{H:Hp}{s:Shared}{Q:VK}{k k':Bool}(I:Inv X af σ H s)(q:Q (.bl k) H)(e:k=k'):EP X af σ Q (.bool k') s:=by
 subst e;exact⟨.bl k,H,I,rfl,q⟩
theorem vC:OpR X (compareOp .Eq) rEq:=by
 intro af s σ H x y v u Q I rx ry h;obtain⟨hs,q⟩:=h;cases x with
 | non=>
  cases rx;cases y with
  | non=>cases ry;exact PySem.EqNone.eq_none_none (kI I q (by simp))
  | bl j=>cases ry;exact PySem.EqNone.eq_none_bool (kI I q (by simp))
  | int j=>obtain⟨t',rfl⟩:=ry;exact PySem.EqNone.eq_none_int (kI I q (by simp))
  | str j=>obtain⟨t',rfl⟩:=ry;exact PySem.EqNone.eq_none_str (kI I q (by simp))
  | _=>exact absurd (show false=true from hs) hW
 | bl i=>
  cases rx;cases y with
  | non=>cases ry;exact PySem.EqNone.eq_bool_none (kI I q (by simp))
  | bl j=>cases ry;exact eq_bool (kI I q VG)
  | str j=>obtain⟨t',rfl⟩:=ry;exact PySem.EqMixed.eq_bool_str (kI I q (by simp))
  | _=>exact absurd (show false=true from hs) hW
 | int i=>
  obtain⟨t,rfl⟩:=rx;cases y with
  | non=>cases ry;exact PySem.EqNone.eq_int_none (kI I q (by simp))
  | int j=>obtain⟨t',rfl⟩:=ry;exact eq_int (kI I q GU)
  | str j=>obtain⟨t',rfl⟩:=ry;exact PySem.EqMixed.eq_int_str (kI I q (by simp))
  | _=>exact absurd (show false=true from hs) hW
 | str i=>
  obtain⟨t,rfl⟩:=rx;cases y with
  | non=>cases ry;exact PySem.EqNone.eq_str_none (kI I q (by simp))
  | bl j=>cases ry;exact PySem.EqMixed.eq_str_bool (kI I q (by simp))
  | int j=>obtain⟨t',rfl⟩:=ry;exact PySem.EqMixed.eq_str_int (kI I q (by simp))
  | str j=>obtain⟨t',rfl⟩:=ry;exact eq_str (kI I q xJ)
  | _=>exact absurd (show false=true from hs) hW
 | byt i=>
  obtain⟨t,rfl⟩:=rx;cases y with
  | byt j=>obtain⟨t',rfl⟩:=ry;exact PySem.W.eq_bytes (kI I q ON)
  | _=>exact absurd (show false=true from hs) hW
 | _=>cases y<;>exact absurd (show false=true from hs) hW
theorem wZ:OpR X (compareOp .NotEq) rNe:=by
 intro af s σ H x y v u Q I rx ry h;obtain⟨hs,q⟩:=h;cases x with
 | non=>
  cases rx;cases y with
  | non=>cases ry;exact PySem.EqNone.ne_none_none (kI I q (by simp))
  | bl j=>cases ry;exact PySem.EqNone.ne_none_bool (kI I q (by simp))
  | int j=>obtain⟨t',rfl⟩:=ry;exact PySem.EqNone.ne_none_int (kI I q (by simp))
  | str j=>obtain⟨t',rfl⟩:=ry;exact PySem.EqNone.ne_none_str (kI I q (by simp))
  | _=>exact absurd (show false=true from hs) hW
 | bl i=>
  cases rx;cases y with
  | non=>cases ry;exact PySem.EqNone.ne_bool_none (kI I q (by simp))
  | bl j=>cases ry;exact ne_bool (kI I q (congrArg not VG))
  | str j=>obtain⟨t',rfl⟩:=ry;exact PySem.EqMixed.ne_bool_str (kI I q (by simp))
  | _=>exact absurd (show false=true from hs) hW
 | int i=>
  obtain⟨t,rfl⟩:=rx;cases y with
  | non=>cases ry;exact PySem.EqNone.ne_int_none (kI I q (by simp))
  | int j=>obtain⟨t',rfl⟩:=ry;exact ne_int (kI I q (congrArg not GU))
  | str j=>obtain⟨t',rfl⟩:=ry;exact PySem.EqMixed.ne_int_str (kI I q (by simp))
  | _=>exact absurd (show false=true from hs) hW
 | str i=>
  obtain⟨t,rfl⟩:=rx;cases y with
  | non=>cases ry;exact PySem.EqNone.ne_str_none (kI I q (by simp))
  | bl j=>cases ry;exact PySem.EqMixed.ne_str_bool (kI I q (by simp))
  | int j=>obtain⟨t',rfl⟩:=ry;exact PySem.EqMixed.ne_str_int (kI I q (by simp))
  | str j=>obtain⟨t',rfl⟩:=ry;exact ne_str (kI I q (congrArg not xJ))
  | _=>exact absurd (show false=true from hs) hW
 | byt i=>
  obtain⟨t,rfl⟩:=rx;cases y with
  | byt j=>obtain⟨t',rfl⟩:=ry;exact PySem.W.ne_bytes (kI I q (congrArg not ON))
  | _=>exact absurd (show false=true from hs) hW
 | _=>cases y<;>exact absurd (show false=true from hs) hW
theorem zL:OpR X (compareOp .Lt) (rI0 λi j=>.bl (decide (i<j))):=WW λ_ _ _ _ _ _ _ q=>lt_int q
theorem YX:OpR X (compareOp .LtE) (rI0 λi j=>.bl (decide (i<=j))):=WW λ_ _ _ _ _ _ _ q=>le_int q
theorem yE:OpR X (compareOp .Gt) (rI0 λi j=>.bl (decide (j<i))):=WW λ_ _ _ _ _ _ _ q=>gt_int q
theorem YY:OpR X (compareOp .GtE) (rI0 λi j=>.bl (decide (j<=i))):=WW λ_ _ _ _ _ _ _ q=>ge_int q
theorem jR(b:Expr){op:CmpOp}(h:op≠.In:=by decide)(h2:op≠.NotIn:=by decide):behindInMarks op b=false:=by
 have e1:(op==CmpOp.In)=false:=by cases op<;>first | rfl | exact absurd rfl h
 have e2:(op==CmpOp.NotIn)=false:=by cases op<;>first | rfl | exact absurd rfl h2
 cases b<;>simp [behindInMarks,e1,e2]
theorem xW{op:CmpOp}{r:R2}(ho:OpR X (compareOp op) r)(ha:PE X a ta)(hb:PE X b tb)(hm:behindInMarks op b=false):PE X (.Compare a [op] [b] pos) (tOp r ta tb):=by
 intro af s σ H Q I h;exact wpAny_Compare1 (binT ha hb I h λv u s2 x y H2 I2 rx ry q=>ho af s2 σ H2 x y v u Q I2 rx ry q) hm
def DQ(t:TE):TT:=fun σ H Q=>t σ H λx H'=>∃k,x=.bl k/\Q k H'
theorem jI{op:CmpOp}{r:R2}(ho:OpR X (compareOp op) r)(ha:PE X a ta)(hb:PE X b tb)(hm:behindInMarks op b=false):PT X (.Compare a [op] [b] pos) (DQ (tOp r ta tb)):=by
 intro af s σ H Q I h;refine wpAny_isTrue_Compare1 (thn (ha af s σ H _ I h) λv s1 ⟨x,H1,I1,r1,q1⟩=>thn (hb af s1 σ H1 _ I1 q1) λu s2 ⟨y,H2,I2,r2,q2⟩=>
  thn (ho af s2 σ H2 x y v u _ I2 r1 r2 q2) λc s3 ⟨z,H3,I3,r3,k,e,q3⟩=>?_) hm
 subst e;cases r3;exact wpAny_truthy_bool ⟨H3,I3,q3⟩
theorem wK:(sizeLine:Nat)<2^63:=by rw[sizeLine_eq];decide
theorem jP:OpR X (binaryOp .Add) (λx y H Q=>∃i j,x=.str i/\y=.str j/\i.length+j.length<=sizeLine/\Q (.str (i++j)) H):=by
 intro af s σ H x y v u Q I rx ry h;obtain⟨i,j,rfl,rfl,hz,q⟩:=h;obtain⟨t,rfl⟩:=rx;obtain⟨t',rfl⟩:=ry;exact add_str (λt' tk=>⟨.str (i++j),H,I.tok _,⟨_,rfl⟩,q⟩) hz
theorem vI{x:V}{us:List Value}(r:Vals [x] us):∃u,us=[u]/\RelV x u:=by
 cases r with
 | cons r1 r2=>cases r2;exact⟨_,rfl,r1⟩
theorem LY{x y:V}{us:List Value}(r:Vals [x,y] us):∃u w',us=[u,w']/\RelV x u/\RelV y w':=by
 cases r with
 | cons r1 r2=>
  cases r2 with
  | cons r3 r4=>cases r4;exact⟨_,_,rfl,r1,r3⟩
theorem VP:CallR X (.builtin "abs") (λxs H Q=>∃i,xs=[.int i]/\Q (.int (if i<0 then -i else i)) H):=by
 intro af s σ H xs us Q I r h;obtain⟨i,rfl,q⟩:=h;obtain⟨u,rfl,t,rfl⟩:=vI r;exact call_abs_int λu tk=>⟨.int (if i<0 then -i else i),H,I.tok _,⟨_,rfl⟩,q⟩
theorem EK(hc:X.calm=true):CallR X (.builtin "min") (λxs H Q=>∃i j,xs=[.int i,.int j]/\Q (.int (if j<i then j else i)) H):=by
 intro af s σ H xs us Q I r h;obtain⟨i,j,rfl,q⟩:=h;obtain⟨u,w',rfl,⟨t,rfl⟩,⟨t',rfl⟩⟩:=LY r;refine min_two_ints (I.ok.hd hc) λh' tk k=>⟨_,H,I.kept k, ?_,q⟩;by_cases hj:j<i
 ·rw[nV hj,nV hj];exact⟨_,rfl⟩
 ·rw[nU hj,nU hj];exact⟨_,rfl⟩
theorem RC:CallR X (.type "int") (λxs H Q=>(∃i,xs=[.int i]/\Q (.int i) H)∨∃k,xs=[.bl k]/\Q (.int (if k then 1 else 0)) H):=by
 intro af s σ H xs us Q I r h;rcases h with⟨i,rfl,q⟩ | ⟨k,rfl,q⟩
 ·obtain⟨u,rfl,t,rfl⟩:=vI r;exact call_int_int ⟨.int i,H,I,⟨_,rfl⟩,q⟩
 ·obtain⟨u,rfl,r1⟩:=vI r;cases r1;exact call_int_bool ⟨.int (if k then 1 else 0),H,I.tok _,⟨_,rfl⟩,q⟩
theorem vN:CallR X (.type "str") (λxs H Q=>∃i,xs=[.int i]/\i.natAbs.log2<1920/\Q (.str (toString i)) H):=by
 intro af s σ H xs us Q I r h;obtain⟨i,rfl,hz,q⟩:=h;obtain⟨u,rfl,t,rfl⟩:=vI r;exact PySem.P.str_of_int hz ⟨.str _,H,I.tok _,⟨_,rfl⟩,q⟩
end
structure ObjM(h:Heap)(x dx C:Addr)(mA:Str->Option Value):Prop where
 obj:h.get? x=some (PySem.W.instObj C dx)
 ns:h.Ns1 dx mA
 ne:dx≠x
theorem QG{h:Heap}{dx:Addr}{mA:Str->Option Value}(n:h.Ns1 dx mA):∃od,h.get? dx=some od/\∀name,PySem.W.lookIn name od=some (mA name):=by
 obtain⟨o,es,ep,ho,hd,hk,_,hm⟩:=n;refine⟨o,ho,λname=>?_⟩;have e:=hm name;unfold nsFind findBy at e;rw[<-Array.find?_toList]at e;unfold PySem.W.lookIn;rw[hd];dsimp only;split
 ·rename_i y q;rw[q]at e;exact congrArg some e
 ·rename_i q;rw[q]at e;have a:es.toList.any (·.refKey)=false:=by
   rw[List.any_eq_false];intro y hy;obtain⟨z,t,hkey⟩:=hk y (Array.mem_toList_iff.mp hy);simp [DictEntry.refKey,hkey]
  have a':¬es.toList.any (·.refKey)=true:=by rw[a];exact hW
  rw[nU a'];exact congrArg some e
theorem ObjM.look{h:Heap}{x dx C:Addr}{mA:Str->Option Value}(I:ObjM h x dx C mA):∃od,PySem.W.InstAt h x (PySem.W.instObj C dx) C (some od)/\∀name,PySem.W.lookIn name od=some (mA name):=
 let ⟨od,ho,hl⟩:=QG I.ns
 ⟨od,⟨I.obj,rfl,rfl,ho⟩,hl⟩
section
variable{prog:Program}{w:World}{A:Around}{E:Value->Shared->Prop}{s:Shared}{K:nW}{x dx C f:Addr}{mA:Str->Option Value}{name:Str}{v:Value}
end
theorem RelO.some_of{v:V}{o:Option Value}(r:RelO (some v) o):∃u,o=some u/\RelV v u:=by
 cases o with
 | none=>exact(show False from r).elim
 | some u=>exact⟨u,rfl,r⟩
section
variable{P:Program}{w:World}{H H':Hp}{h h':Heap}{a C dx:Addr}{fs fs':List (Str×V)}
theorem XZ(hok:HOk P w H h)(e:H a=some (.ins C dx fs)):∃mA,ObjM h a dx C mA/\(∀f,RelO (fs.lookup f) (mA f))/\PySem.Within mA (fs.map (·.1))/\fs.length<=1000/\H dx=some (.own a):=by
 obtain⟨d,z,ne,ob,mA,n,r,q⟩:=(show ObjOk P w H h a (.ins C dx fs)from hok a _ e);exact⟨mA,⟨ob,n,ne⟩,r,q,z,d⟩
end
structure Cls(K:nW)(C:Addr):Prop where
 pg:PySem.W.plainGet K C Str.empty=true
 hd:PySem.W.hasDictIn K C=true
 po:PySem.W.plainOver K C=true
 sa:PySem.W.findIn K (.ref C) "__setattr__" = some (some (.builtin "object.__setattr__"))
theorem Cls.get{K:nW}{C:Addr}(c:Cls K C)(f:Str):PySem.W.plainGet K C f=true:=c.pg
structure Con(K:nW)(C:Addr)(f:Str)(v:V)(u:Value):Prop where
 at_:PySem.W.findIn K (.ref C) f=some (some u)
 rel:RelV v u
 get:PySem.W.specialIn K u "__get__" = some none
 cp:PySem.W.copiedNames.contains f=false
structure Meth(K:nW)(C:Addr)(m:Str)(f:Addr):Prop where
 at_:PySem.W.findIn K (.ref C) m=some (some (.ref f))
 fn:PySem.W.isFn K (.ref f)=true
 kp:PySem.W.keepIn K (.ref f)=true
section
variable{X:Cx}{af:List (Addr×Obj)}{σ:St}{H:Hp}{s:Shared}{a C dx:Addr}{fs:List (Str×V)}{f:Str}{v:V}{A:Around}{E:Value->Shared->Prop}
end
section
variable{X:Cx}{o e value:Expr}{f:Str}{pos pos' tpos:Pos}{ta tv:TE}
end
section
variable{X:Cx}{af:List (Addr×Obj)}{σ:St}{H:Hp}{s:Shared}{A:Around}{E:Value->Shared->Prop}{Q:Value->Shared->Prop}{c:Value}{b:Bool}
inductive TyOf(K:nW)(H:Hp):V->Value->Prop where
 | non:TyOf K H .non (.type "NoneType")
 | bl (x:Bool):TyOf K H (.bl x) (.type "bool")
 | int (i:Int):TyOf K H (.int i) (.type "int")
 | str (x:Str):TyOf K H (.str x) (.type "str")
 | flt (x:UInt64):TyOf K H (.flt x) (.type "float")
 | lst {a:Addr} {xs:List V} (e:H a=some (.lst xs)):TyOf K H (.ref a) (.type "list")
 | frz {a:Addr} {o:Obj} {xs:List V} (e:H a=some (.frz o (.lst xs))):TyOf K H (.ref a) (.type "list")
 | tup {a:Addr} {xs:List V} (e:H a=some (.tup xs)):TyOf K H (.ref a) (.type "tuple")
 | dK {a:Addr} {ai:List (Key×V)} (e:H a=some (.dK ai)):TyOf K H (.ref a) (.type "dict")
 | dT {a:Addr} {ai:List (List Key×V)} (e:H a=some (.dT ai)):TyOf K H (.ref a) (.type "dict")
 | ins {a C dx:Addr} {fs:List (Str×V)} (e:H a=some (.ins C dx fs)) (cl:Cls K C) (ha:PySem.W.findIn K (.ref C) "__class__" = some (some (.builtin "object.__class__")))
   (hn:PySem.W.specialIn K (.builtin "object.__class__") "__get__" = some (some (.builtin "getset_descriptor.__get__"))) (htk:PySem.W.takesIn K (.builtin "object.__class__")=some true)
   (hm:PySem.W.mroIn K C (.type "object")=some true):TyOf K H (.ref a) (.ref C)
theorem QO{x:V}{u t:Value}(I:Inv X af σ H s)(rx:RelV x u)(ty:TyOf X.K H x t)(e:PySem.W.kitOne X.K t c=some b)(h:∀tk,Q (.bool b) { s with toks:=tk }) :
  wpAny (model X.prog X.w) A (call (.builtin "isinstance") [u,c]) Q E s:=by
 cases ty with
 | non=>cases (show u=Value.none from rx);exact PySem.W.kia_one PySem.W.kitx_none I.kIn True.intro e (λz=>nomatch z) h
 | bl y=>cases (show u=Value.bool y from rx);exact PySem.W.kia_one PySem.W.kitx_bool I.kIn True.intro e (λz=>nomatch z) h
 | int i=>obtain⟨t,q⟩:=(show ∃t,u=Value.int i t from rx);cases q;exact PySem.W.kia_one PySem.W.kitx_int I.kIn True.intro e (λz=>nomatch z) h
 | str y=>obtain⟨t,q⟩:=(show ∃t,u=Value.str y t from rx);cases q;exact PySem.W.kia_one PySem.W.kitx_str I.kIn True.intro e (λz=>nomatch z) h
 | flt y=>obtain⟨t,q⟩:=(show ∃t,u=Value.float y t from rx);cases q;exact PySem.W.kia_one PySem.W.kitx_float I.kIn True.intro e (λz=>nomatch z) h
 | @lst a xs ea=>
  cases (show u=Value.ref a from rx);obtain⟨_,_,n,_,h1⟩:=(show ObjOk X.prog X.w H s.heap a (.lst xs)from I.hok a _ ea);exact PySem.W.kia_one PySem.W.kitx_list I.kIn ⟨_,h1,rfl⟩ e (λz=>nomatch z) h
 | @frz a ob xs ea=>
  cases (show u=Value.ref a from rx);obtain⟨_,_,_,n,_,h1⟩:=(show ObjOk X.prog X.w H s.heap a (.frz ob (.lst xs))from I.hok a _ ea);exact PySem.W.kia_one PySem.W.kitx_list I.kIn ⟨_,h1,rfl⟩ e (λz=>nomatch z) h
 | @tup a xs ea=>
  cases (show u=Value.ref a from rx);obtain⟨_,_,_,p⟩:=(show ObjOk X.prog X.w H s.heap a (.tup xs)from I.hok a _ ea);obtain⟨o,h1,h2,_⟩:=p.1;exact PySem.W.kia_one PySem.W.kitx_tuple I.kIn ⟨o,h1,h2⟩ e (λz=>nomatch z) h
 | @dK a ai ea=>
  cases (show u=Value.ref a from rx);obtain⟨_,_,vs,_,p⟩:=(show ObjOk X.prog X.w H s.heap a (.dK ai)from I.hok a _ ea);obtain⟨o,es,ep,h1,h2,_⟩:=p;exact PySem.W.kia_one PySem.W.kitx_dict I.kIn ⟨o,h1,h2.1⟩ e (λz=>nomatch z) h
 | @dT a ai ea=>
  cases (show u=Value.ref a from rx);obtain⟨_,_,xs,_,o,es,ep,h1,h2,_⟩:=(show ObjOk X.prog X.w H s.heap a (.dT ai)from I.hok a _ ea);exact PySem.W.kia_one PySem.W.kitx_dict I.kIn ⟨o,h1,h2.1⟩ e (λz=>nomatch z) h
 | @ins a C dx fs ea cl ha hn htk hm=>
  cases (show u=Value.ref a from rx);obtain⟨mA,O,_⟩:=XZ I.hok ea;obtain⟨od,J,_⟩:=O.look;exact PySem.W.kia_one (PySem.W.kitx_own (cl.get _) cl.hd ha hn htk hm) I.kIn J e (λz=>nomatch z) h
end
structure Room(k:Nat)(A:Around):Prop where
 hd:A.handled=none
 dp:A.depth+3*k+5<recursionLimit
 un:A.units+16*k+200<cLine
theorem Room.mono{j k:Nat}{A:Around}(r:Room k A)(h:j<=k):Room j A:=⟨r.hd,by have:=r.dp;lia,by have:=r.un;lia⟩
theorem Room.deeper{k:Nat}{A:Around}(r:Room (k+1) A)(env:Env):Room k (A.deeper env):=
 ⟨r.hd,by have:=r.dp;show A.depth+1+3*k+5<_;lia,by have:=r.un;show A.units+3+16*k+200<_;lia⟩
theorem KW{A:Around}{C:Addr}{us:List Value}{kw:List (Str×Value)} :(A.under (.builtin "type.__call__" ⟨.ref C::us,kw⟩)).depth=A.depth+1:=by
 first | rfl | simp [Around.under,Code.weight,Code.isCreation,Code.isGuard,Code.isCaller,Code.frames,Code.isFrame,guardIds]
theorem KU{A:Around}{C:Addr}{us:List Value}{kw:List (Str×Value)} :(A.under (.builtin "type.__call__" ⟨.ref C::us,kw⟩)).units=A.units+1:=by
 first | rfl | simp [Around.under,Code.cUnits,Code.frames,Code.isFrame]
theorem Room.make{k:Nat}{A:Around}(r:Room (k+1) A)(C:Addr)(us:List Value)(kw:List (Str×Value)):Room k (A.under (.builtin "type.__call__" ⟨.ref C::us,kw⟩)):=
 ⟨r.hd,by have:=r.dp;rw[KW];lia,by have:=r.un;rw[KU];lia⟩
theorem Room.depth{k:Nat}{A:Around}(r:Room k A):A.depth<recursionLimit:=by have:=r.dp;lia
theorem Room.units{k:Nat}{A:Around}(r:Room k A):A.units+64<cLine:=by have:=r.un;lia
theorem Room.units0{k:Nat}{A:Around}(r:Room k A):A.units<cLine:=by have:=r.un;lia
def tNil:TA:=λ_ H Q=>Q [] H
def xG(ta:TE)(tr:TA):TA:=fun σ H Q=>ta σ H λx H1=>tr σ H1 λxs H2=>Q (x::xs) H2
section
variable{X:Cx}{e:Expr}{es:List Expr}{te:TE}{t:TA}{pos:Pos}
theorem jD:PA X [] tNil:=λ_ _ _ _ H Q I h=>Calls.spliced_nil ⟨[],H,I,.nil,h⟩
theorem jA(ha:PE X e te)(hr:PA X es t)(hs:starEach (e::es) X.env=(false,eval e X.env)::starEach es X.env:=by rfl):PA X (e::es) (xG te t):=by
 intro pos af s σ H Q I h;rw[hs];show wpAny _ _ (spliced ((false,eval e X.env)::backTo pos (starEach es X.env))) _ _ s;refine Calls.spliced_cons (thn (ha af s σ H _ I h) λu s1 ⟨x,H1,I1,r1,q1⟩=>?_);exact thn (hr pos af s1 σ H1 _ I1 q1) λus s2 ⟨xs,H2,I2,r2,q2⟩=>⟨x::xs,H2,I2,.cons r1 r2,q2⟩
def tTup(t:TA):TE:=fun σ H Q=>t σ H λxs H1=>xs.length<=sizeLine/\∀p,H1 p=none->Q (.ref p) (upd H1 p (.tup xs))
theorem pe_tup{x1}(h:PA X es t):PE X (.Tuple es x1 pos) (tTup t):=by
 intro af s σ H Q I hq;refine wpAny_Tuple_spliced (thn (h pos af s σ H _ I hq) λus s1 ⟨xs,H1,I1,r,z,q⟩=>⟨by rw[<-r.length];exact z, ?_⟩);have hf:H1 s1.heap.objs.size=none:=I1.hok.fresh gC ;refine⟨.ref s1.heap.objs.size,upd H1 s1.heap.objs.size (.tup xs),I1.laid (t':=s1.toks) (λb u e=>gP _ e) gC ?_,rfl,q _ hf⟩;exact⟨z,us,r,⟨_,hU _ rfl,rfl,_,rfl⟩,.of (hU _ rfl) rfl⟩
end
abbrev Sp:=List V->Hp->VK->XK->Prop
abbrev CXT:=List Env->Hp->Shared->XK->Value->Shared->Prop
structure Env0(P:Program)(w:World)(K:nW)(mg:Str->Option Value)(base:Heap)(A:Around)(outer:List Env)(s:Shared)(H:Hp):Prop where
 frames:A.frames=some outer
 mod:Mod K mg base
 bs:∀b o,base.get? b=some o->s.heap.get? b=some o/\H b=none
 bsz:base.objs.size<=s.heap.objs.size
 funs:s.heap.FunFrames base outer
 frf:∀b∈frs outer,H b=none
 hok:HOk P w H s.heap
 bare:AllBare s.gens
def CE(outer:List Env)(P:Program)(w:World)(H:Hp)(s:Shared)(Q:VK)(u:Value)(s':Shared):Prop:=
 ∃v H',s'.os=s.os/\AllBare s'.gens/\Un (frs outer) [] H H' s.heap s'.heap/\HOk P w H' s'.heap/\RelV v u/\Q v H'
def CR(CX:CXT)(outer:List Env)(P:Program)(w:World)(H:Hp)(s:Shared)(Q:VK)(E:XK)(r:Result)(s':Shared):Prop:=
 match r with
 | .ok (.ret u)=>CE outer P w H s Q u s'
 | .ok _=>False
 | .error e=>CX outer H s E e s'
structure FnOk(P:Program)(w:World)(K:nW)(mg:Str->Option Value)(base:Heap)(CX:CXT)(k:Nat)(f:Addr)(fd:FuncData)(ps:List Str)(sp:Sp):Prop where
 len:∀vs H Q E,sp vs H Q E->vs.length=ps.length
 run:∀(A:Around) (outer:List Env) (s:Shared) (H:Hp) (args:Args) (us:List Value) (vs:List V) (Q:VK) (E:XK),Room k A->Env0 P w K mg base A outer s H->BindsTo s fd args (ps.zip us)->Vals vs us->sp vs H Q E->
  codeAny (model P w) A (.call (.ref f) args) (CR CX outer P w H s Q E) s
theorem Env0.make{P:Program}{w:World}{K:nW}{mg:Str->Option Value}{base:Heap}{A:Around}{outer:List Env}{s:Shared}{H:Hp}(e:Env0 P w K mg base A outer s H)(C:Addr)(us:List Value)(kw:List (Str×Value)) :
  Env0 P w K mg base (A.under (.builtin "type.__call__" ⟨.ref C::us,kw⟩)) outer s H:=⟨by first | exact e.frames | (simpa [Around.under,Code.envs,Code.isFrame,pushEnvs]using e.frames),e.mod,e.bs,e.bsz,e.funs,e.frf,e.hok,e.bare⟩
section
variable{X:Cx}{af:List (Addr×Obj)}{σ:St}{H:Hp}{s s':Shared}
theorem Inv.env0(I:Inv X af σ H s):Env0 X.prog X.w X.K X.mg X.base X.A X.stack s H:=
 ⟨I.ok.frames,I.ok.mod,I.bs,nG I.ok.bsz I.sz,I.stack,I.stkFree,I.hok,I.bare⟩
theorem Inv.after{Q:VK}{u:Value}(I:Inv X af σ H s)(h:CE X.stack X.prog X.w H s Q u s'):EP X af σ Q u s':=by
 obtain⟨v,H',os,bare,un,hok,r,q⟩:=h;obtain⟨hh,g,d,t,os'⟩:=s';obtain rfl:os'=s.os:=os;exact⟨v,H',I.call (h':=hh) (g':=g) (d':=d) (t':=t) (ch:=[]) un hok bare (λb z=>absurd z (by simp)),r,q⟩
end
def MD(sp:Sp)(dvs:List V)(E:XK)(t:TA):TE:=fun σ H Q=>t σ H λvs H1=>sp (vs++dvs) H1 Q E
def Binds(K:nW)(fd:FuncData)(ps:List Str)(ds:List Value):Prop:=
 ∀(s:Shared) (us:List Value),K.In s.heap->(us++ds).length=ps.length->BindsTo s fd ⟨us,[]⟩ (ps.zip (us++ds))
theorem Binds.all{K:nW}{fd:FuncData}{ps:List Str}(h:∀us:List Value,us.length=ps.length->bindArgs fd ⟨us,[]⟩=pure (ps.zip us)):Binds K fd ps []:=λs us _ hl=>by
 rw[List.append_nil]at hl ⊢;exact .of_eq (h us hl)
def Passes(CX:CXT)(X:Cx)(E:XK):Prop:=∀(af:List (Addr×Obj)) (σ:St) (H:Hp) (s:Shared) (e:Value) (s':Shared),Inv X af σ H s->CX X.stack H s E e s'->X.xe e s'
section
variable{X:Cx}{CX:CXT}{k:Nat}{f C:Addr}{fd:FuncData}{ps:List Str}{sp:Sp}{dvs:List V}{ds:List Value}{E:XK}{x m:Str}{p pos apos:Pos}{e o:Expr}{es:List Expr}{ta:TE}{t:TA}
theorem run_fn{af:List (Addr×Obj)}{σ:St}{H:Hp}{s:Shared}{Q:VK}{us:List Value}{vs:List V}(F:FnOk X.prog X.w X.K X.mg X.base CX k f fd ps sp)(hr:Room k X.A)(hb:Binds X.K fd ps ds)(hd:Vals dvs ds)(hx:Passes CX X E)
  (I:Inv X af σ H s) (r:Vals vs us) (h:sp (vs++dvs) H Q E):wpAny (model X.prog X.w) X.A (call (.ref f) us) (EP X af σ Q) X.xe s:=by
 have r2:Vals (vs++dvs) (us++ds):=r.append hd;have hl:(us++ds).length=ps.length:=by rw[<-r2.length];exact F.len _ _ _ _ h
 refine wpAny_call (codeAny_mono (F.run X.A X.stack s H ⟨us,[]⟩ (us++ds) (vs++dvs) Q E hr I.env0 (hb s us I.kIn hl) r2 h) λr s' hq=>?_);cases r with
 | error e=>exact hx af σ H s e s' I hq
 | ok fl=>
  cases fl with
  | ret u=>exact I.after hq
  | next=>exact False.elim hq
  | brk=>exact False.elim hq
  | cont=>exact False.elim hq
theorem jT(F:FnOk X.prog X.w X.K X.mg X.base CX k f fd ps sp)(hr:Room k X.A)(hg:Gl X x)(hm:X.mg x=some (.ref f))(hk:PySem.W.keepIn X.K (.ref f)=true)(hb:Binds X.K fd ps ds)(hd:Vals dvs ds)(hx:Passes CX X E)
  (ha:PA X (e::es) t) (hdb:(x==("__debug__" :Str))=false:=by decide) (he:starEach (e::es) X.env=(false,eval e X.env)::starEach es X.env:=by rfl) (hpl:(backTo pos (starEach es X.env)).any (·.1)=false:=by rfl) :
  PE X (.Call (.Name x p) (e::es) [] pos) (MD sp dvs E t):=by
 intro af s σ H Q I h;refine wpAny_Call_Name_kw (uD I hg hm ?_ hdb);refine PySem.W.callWith_K (h₀:=X.base) I.ok.mod.kin hk (thn (ha pos af s σ H _ I h) λus s1 ⟨vs,H1,I1,r,q⟩=>⟨I1.kIn, ?_⟩) he hpl;exact run_fn F hr hb hd hx I1 r q
structure Mk(K:nW)(C f:Addr):Prop where
 makes:PySem.W.makesIn K C=true
 init:PySem.W.findIn K (.ref C) "__init__" = some (some (.ref f))
 fn:PySem.W.isFn K (.ref f)=true
 kp:PySem.W.keepIn K (.ref C)=true
end
def PK(X:Cx)(kws:List Keyword)(t:TA):Prop:=
 ∀(pos:Pos) (af:List (Addr×Obj)) (s:Shared) (σ:St) (H:Hp) (Q:List V->Hp->Prop),Inv X af σ H s->t σ H Q->wpAny (model X.prog X.w) X.A (evalAll ((backToKw pos (keywordEach kws X.env)).map (·.2))) (AP X af σ Q) X.xe s
section
variable{X:Cx}{CX:CXT}{k:Nat}{f C:Addr}{fd:FuncData}{ps ks:List Str}{sp:Sp}{E:XK}{x m:Str}{p pos apos kpos:Pos}{e o:Expr}{es:List Expr}{kws:List Keyword}{te ta:TE}{t tk:TA}{nm:Option Str}
theorem pk_nil:PK X [] tNil:=λ_ _ _ _ H Q I h=>wpAny_evalAll_nil ⟨[],H,I,.nil,h⟩
theorem WS(ha:PE X e te)(hr:PK X kws t):PK X (⟨nm,e,kpos⟩::kws) (xG te t):=by
 intro pos af s σ H Q I h;show wpAny _ _ (evalAll ((do let v<-eval e X.env;standAt pos;pure v)::(backToKw pos (keywordEach kws X.env)).map (·.2))) _ _ s;refine wpAny_evalAll_cons (nQ (thn (ha af s σ H _ I h) λu s1 ⟨x,H1,I1,r1,q1⟩=>nQ (wpAny_standAt (nS ?_))));exact thn (hr pos af s1 σ H1 _ I1 q1) λus s2 ⟨xs,H2,I2,r2,q2⟩=>⟨x::xs,H2,I2,.cons r1 r2,q2⟩
structure KBinds(K:nW)(fd:FuncData)(ps ks:List Str)(g:List Value->List Value->List Value)(gV:List V->List V->List V):Prop where
 to:∀(s:Shared) (us ws:List Value),K.In s.heap->(g us ws).length=ps.length->BindsTo s fd ⟨us,ks.zip ws⟩ (ps.zip (g us ws))
 rel:∀{vs:List V} {us:List Value} {zs:List V} {ws:List Value},Vals vs us->Vals zs ws->Vals (gV vs zs) (g us ws)
variable{g:List Value->List Value->List Value}{gV:List V->List V->List V}
end
structure FnScope(N P:List Str)(sc:Scope):Prop where
 kind:sc.kind=.function
 co:sc.isCoroutine=false
 gen:sc.isGenerator=false
 nd:N.Nodup
 pre:N.take P.length=P
 par:∀x∈P,sc.names.lookup x=some .local∨sc.names.lookup x=some .cell
 nofree:∀y∈sc.names,y.2≠.free
theorem EL{kindOf:Str->Option NameKind}{x:Str} :∀{binds:List (Str×Value)} {m:Str->Option Value},(∀v,(x,v)∉binds)->bindL kindOf binds m x=m x
 | [],_,_=>rfl
 | (n,v)::r,m,h=>by
  unfold bindL;rw[EL λw hw=>h w (gY _ hw)];split
  ·have:x≠n:=by rintro rfl;exact h v mC
   simp [this]
  ·rfl
theorem EN{kindOf:Str->Option NameKind}{x:Str} :∀{binds:List (Str×Value)} {m:Str->Option Value},(∀v,(x,v)∉binds)->bindC kindOf binds m x=m x
 | [],_,_=>rfl
 | (n,v)::r,m,h=>by
  unfold bindC;rw[EN λw hw=>h w (gY _ hw)];split
  ·rfl
  ·have:x≠n:=by rintro rfl;exact h v mC
   simp [this]
theorem EM{kindOf:Str->Option NameKind}{x:Str}{v:Value} :∀{P:List Str} {vs:List Value} {i:Nat} {m:Str->Option Value},P.Nodup->P[i]? = some x->vs[i]? = some v->kindOf x=some .local->
  bindL kindOf (P.zip vs) m x=some v
 | [],_,_,_,_,h,_,_=>by simp at h
 | _::_,[],_,_,_,_,h,_=>by simp at h
 | p::P,w::vs,0,m,nd,h1,h2,hk=>by
  simp at h1 h2;subst h1;subst h2;show bindL kindOf ((p,w)::P.zip vs) m p=_;unfold bindL;rw[EL λv hv=>(List.nodup_cons.mp nd).1 (List.of_mem_zip hv).1,nV hk];simp
 | p::P,w::vs,i+1,m,nd,h1,h2,hk=>by
  show bindL kindOf ((p,w)::P.zip vs) m x=_;unfold bindL;exact EM (i:=i) (List.nodup_cons.mp nd).2 (by simpa using h1) (by simpa using h2) hk
theorem EO{kindOf:Str->Option NameKind}{x:Str}{v:Value} :∀{P:List Str} {vs:List Value} {i:Nat} {m:Str->Option Value},P.Nodup->P[i]? = some x->vs[i]? = some v->kindOf x≠some .local->
  bindC kindOf (P.zip vs) m x=some v
 | [],_,_,_,_,h,_,_=>by simp at h
 | _::_,[],_,_,_,_,h,_=>by simp at h
 | p::P,w::vs,0,m,nd,h1,h2,hk=>by
  simp at h1 h2;subst h1;subst h2;show bindC kindOf ((p,w)::P.zip vs) m p=_;unfold bindC;rw[EN λv hv=>(List.nodup_cons.mp nd).1 (List.of_mem_zip hv).1,nU hk];simp
 | p::P,w::vs,i+1,m,nd,h1,h2,hk=>by
  show bindC kindOf ((p,w)::P.zip vs) m x=_;unfold bindC;exact EO (i:=i) (List.nodup_cons.mp nd).2 (by simpa using h1) (by simpa using h2) hk
def start(N:List Str)(vs:List V):St:=vs.map some++List.replicate (N.length-vs.length) none
def xA(CX:CXT)(P:Program)(w:World)(K:nW)(mg:Str->Option Value)(base:Heap)(N:List Str)(qual:Str)(scope:Scope)(f:Addr)(cd:Value)(A:Around)(outer:List Env)(s:Shared)(H:Hp)(E:XK):Cx where
 prog:=P
 w:=w
 K:=K
 mg:=mg
 base:=base
 A:=A.deeper (envOfC qual scope s.heap.objs.size f cd)
 N:=N
 s₀:=s
 H₀:=H
 env:=envOfC qual scope s.heap.objs.size f cd
 outer:=outer
 stack:=envOfC qual scope s.heap.objs.size f cd::outer
 ex:=[]
 calm:=true
 fn:=λ_=>true
 pn:=[]
 xe:=λe s'=>wpAny (model P w) (A.deeper (envOfC qual scope s.heap.objs.size f cd)) (leaving (envOfC qual scope s.heap.objs.size f cd) e) (λ_ s''=>CX outer H s E e s'') (λe' s''=>CX outer H s E e' s'') s'
theorem JQ{sc:Scope}{n:Nat}{x:Str}(h:sc.names.lookup x=some .cell):∃c,(cellsFrom n sc.names []).lookup x=some c:=by
 have q:=PySem.W.cellsFrom_some sc.names n [] (.inl h);exact Option.isSome_iff_exists.mp q
theorem QP{CX:CXT}{P:Program}{w:World}{K:nW}{mg:Str->Option Value}{base:Heap}{N ps:List Str}{qual:Str}{scope:Scope}{f:Addr}{cd:Value}{A:Around}{outer:List Env}{s s1:Shared}{H:Hp}{E:XK}{us:List Value}{vs:List V}
  (S:FnScope N ps scope) (hd:A.handled=none) (e0:Env0 P w K mg base A outer s H) (hl:vs.length=ps.length) (r:Vals vs us)
  (x:InCallC s s.heap.objs.size (bindL (envOfC qual scope s.heap.objs.size f cd).kindOf (ps.zip us) λ_=>none) (cellsFrom (s.heap.objs.size+1) scope.names []) (bindC (envOfC qual scope s.heap.objs.size f cd).kindOf (ps.zip us) λ_=>none) s1) :
  Inv (xA CX P w K mg base N qual scope f cd A outer s H E) [] (start N vs) H s1:=by
 have hpl:ps.length<=N.length:=by have:=congrArg List.length S.pre;rw[mK]at this;lia
 obtain⟨h1,tk,rfl,hk⟩:=x.done;have noA:∀b:Addr,b∉(xA CX P w K mg base N qual scope f cd A outer s H E).ex:=λb z=>absurd (show b∈([]:List Addr)from z) (by simp);refine⟨⟨e0.mod,S.kind,rfl,rfl,nN _,λy z c h1 h2=>?_,λy hy=>?_,λy c _ h=>?_,λ_=>hd,Around.frames_deeper e0.frames,.inr ⟨rfl,rfl⟩,λb z=>absurd z (noA b),e0.bs,e0.bsz,λb _ _=>noA b,λb z=>absurd z (noA b),e0.funs,e0.frf⟩,
  rfl,e0.bare,Un.kept hk,⟨_,x.toInCall.ns,λi y v h1 h2 h3=>?_⟩,λy c h=>⟨_,x.cell y c h⟩,e0.hok.fresh gC,λy c h=>?_,λp hp=>absurd (show p∈([]:List (Addr×Obj))from hp) (by simp),e0.hok.kept hk, ?_⟩
 ·exact name_of_addr x.apart (PySem.mem_of_lookup h1) (PySem.mem_of_lookup h2)
 ·have hy:scope.names.lookup y=some .cell∨scope.names.lookup y=some .free:=hy;rcases hy with hy | hy
  ·exact JQ hy
  ·exact absurd rfl (S.nofree _ (PySem.mem_of_lookup hy))
 ·exact nJ (x.above y c (PySem.mem_of_lookup h))
 ·have hi:i<vs.length:=by
   unfold start at h2;by_cases hi:i<vs.length
   ·exact hi
   ·rw[gH (by simpa using hi)]at h2;rw[List.getElem?_replicate]at h2;split at h2<;>cases h2
  have ha:vs[i]? = some v:=by
   unfold start at h2;rw[gJ (by simpa using hi),mE]at h2;cases e:vs[i]? with
   | none=>rw[e]at h2;cases h2
   | some a=>rw[e]at h2;cases h2;rfl
  obtain⟨u,hu,rv⟩:=r.get ha;have hp:ps[i]? = some y:=by
   rw[<-S.pre,gM (by lia)];exact h1
  have ndP:ps.Nodup:=by rw[<-S.pre];exact S.nd.sublist (List.take_sublist _ _)
  refine⟨u,rv, ?_⟩;rcases S.par y (gX hp)with k | k
  ·exact .inl ⟨k,EM ndP hp hu k⟩
  ·obtain⟨c,e⟩:=JQ (n:=s.heap.objs.size+1) k;refine .inr ⟨.inl k,c,e, ?_⟩;have q:=x.cell y c e;rw[EO ndP hp hu (by show scope.names.lookup y≠_;rw[k];decide)]at q;exact q
 ·exact e0.hok.fresh (nJ (x.above y c (PySem.mem_of_lookup h)))
 ·unfold start;show _=N.length;rw[List.length_append,mQ,gT]
  lia
theorem CO{CX:CXT}{P:Program}{w:World}{K:nW}{mg:Str->Option Value}{base:Heap}{k:Nat}{f:Addr}{name qual:Str}{params:Arguments}{body:List Stmt}{scope:Scope}{dV kV doc pm cdv ct oc:Value}{an od:Option Addr}
  {osl:Array (Option Value)} {N ps:List Str} {sp:Sp} (lk:K.lookup f=some ⟨oc,od,.func (PySem.W.fnOf name qual params body scope dV kV doc pm an cdv ct),osl⟩) (hcd:PySem.W.codeIn K cdv qual=true) (S:FnScope N ps scope)
  (len:∀vs H Q E,sp vs H Q E->vs.length=ps.length)
  (hbody:∀(A:Around) (outer:List Env) (s:Shared) (H:Hp) (vs:List V) (Q:VK) (E:XK),Room k (A.deeper (envOfC qual scope s.heap.objs.size f cdv))->sp vs H Q E->
   ∃t,PSs (xA CX P w K mg base N qual scope f cdv A outer s H E) body t/\t { nx:=λ_ H'=>Q .non H',rt:=Q } (start N vs) H) :
  FnOk P w K mg base CX (k+1) f (PySem.W.fnOf name qual params body scope dV kV doc pm an cdv ct) ps sp:=by
 refine⟨len,λA outer s H args us vs Q E hr e0 hb r hsp=>?_⟩;have hl:=len _ _ _ _ hsp;have KX:K.In s.heap:=e0.mod.kin.keeps λb o e=>(e0.bs b o e).1;have lim:s.heap.NoLimit:=e0.mod.nolimit.keeps λb o e=>(e0.bs b o e).1;have hkind:∀y∈ps.zip us,scope.names.lookup y.1=some .local∨(scope.names.lookup y.1=some .cell/\((cellsFrom (s.heap.objs.size+1) scope.names []).lookup y.1).isSome=true):=λ⟨n,v⟩ hy=>by
  rcases S.par n (List.of_mem_zip hy).1 with q | q
  ·exact .inl q
  ·exact .inr ⟨q,PySem.W.cellsFrom_some _ _ _ (.inl q)⟩
 refine codeAny_call_function hr.depth (KX _ _ lk) rfl S.co S.gen rfl (PySem.W.codeRec_of KX hcd) (hb _ _ _ _ ?_);refine wpAny_newFunctionEnv_cells S.kind hkind λenv he s1 x=>?_;subst he;refine⟨lim.keeps x.toInCall.keep,codeAny_func ?_⟩;obtain⟨t,ht,hq⟩:=hbody A outer s H vs Q E (hr.deeper _) hsp;have I:Inv (xA CX P w K mg base N qual scope f cdv A outer s H E) [] (start N vs) H s1:=QP S hr.hd e0 hl r x;refine nT (ht [] s1 (start N vs) H _ I hq) (λfl s' hs=>?_) λe s' hs=>hs;have fin:∀{σ':St} {H':Hp} {v:V} {u:Value},Inv (xA CX P w K mg base N qual scope f cdv A outer s H E) [] σ' H' s'->RelV v u->Q v H'->CE outer P w H s Q u s':=
  fun {σ' H' v u} J rv q=>⟨v,H',J.os,J.bare,J.base,J.hok,rv,q⟩
 cases fl with
 | ret u=>
  obtain⟨v,σ',H',J,rv,q⟩:=hs;exact fin J rv q
 | next=>
  obtain⟨σ',H',J,q⟩:=hs;exact fin (v:=V.non) (u:=Value.none) J rfl q
 | brk=>
  obtain⟨_,_,_,q⟩:=hs;exact False.elim q
 | cont=>
  obtain⟨_,_,_,q⟩:=hs;exact False.elim q
section
variable{X:Cx}{x:Str}{p pos:Pos}{e:Expr}{es:List Expr}{t:TA}{id T:String}{r:List V->Hp->VK->Prop}
def tCB(r:List V->Hp->VK->Prop)(t:TA):TE:=fun σ H Q=>t σ H λvs H1=>r vs H1 Q
theorem jU(hc:CallR X (.builtin id) r)(hg:Gl X x)(hm:X.mg x=none)(hv:bootBuiltins x=some (.builtin id))(ha:PA X (e::es) t)(hn:x≠"__name__":=by decide)(hdb:(x==("__debug__" :Str))=false:=by decide)
  (he:starEach (e::es) X.env=(false,eval e X.env)::starEach es X.env:=by rfl) (hpl:(backTo pos (starEach es X.env)).any (·.1)=false:=by rfl):PE X (.Call (.Name x p) (e::es) [] pos) (tCB r t):=by
 intro af s σ H Q I h;refine wpAny_Call_Name_kw (yT I hg hm hv ?_ hn hdb);exact PyProof.Rows.callWith_builtin1 (thn (ha pos af s σ H _ I h) λus s1 ⟨vs,H1,I1,r1,q1⟩=>hc af s1 σ H1 vs us Q I1 r1 q1) he hpl
theorem kP(hc:CallR X (.type T) r)(hg:Gl X x)(hm:X.mg x=none)(hv:bootBuiltins x=some (.type T))(ha:PA X (e::es) t)(hn:x≠"__name__":=by decide)(hdb:(x==("__debug__" :Str))=false:=by decide)
  (he:starEach (e::es) X.env=(false,eval e X.env)::starEach es X.env:=by rfl) (hpl:(backTo pos (starEach es X.env)).any (·.1)=false:=by rfl):PE X (.Call (.Name x p) (e::es) [] pos) (tCB r t):=by
 intro af s σ H Q I h;refine wpAny_Call_Name_kw (yT I hg hm hv ?_ hn hdb);exact PyProof.Rows.callWith_type1 (thn (ha pos af s σ H _ I h) λus s1 ⟨vs,H1,I1,r1,q1⟩=>hc af s1 σ H1 vs us Q I1 r1 q1) he hpl
end
end L2
namespace HT
open PySem PyProof.Rows
section
open PySem.SeqAt
open PySem.AutoSeq1 (wpAny_loadPart')
open PySem.MeetsSeq PySem.MeetsSeq2 PySem.MeetsSeq3
end
section
variable{prog:Program}{w:World}{A:Around}{E:Value->Shared->Prop}{s:Shared}
theorem YO{t b:Addr}{vs ws:List Value}{Q:Value->Shared->Prop}(ht:IsTup s.heap t vs.toArray)(hb:IsTup s.heap b ws.toArray)(hv:vs≠[])
  (h1:ws=[]->Q (.ref t) s) (h2:ws≠[]->Q (.ref s.heap.objs.size) { s with heap:=s.heap.push { cls:=.type "tuple",data:=.seq (vs++ws).toArray } })
  (hsz:vs.length+ws.length<=sizeLine):wpAny (model prog w) A (binaryOp .Add (.ref t) (.ref b)) Q E s:=by
 obtain⟨⟨cls,dd,data,sl⟩,ho,hc,n,hd⟩:=id ht;obtain⟨⟨cls2,dd2,data2,sl2⟩,ho2,hc2,n2,hd2⟩:=id hb;simp only at hc hd hc2 hd2;subst hc hd hc2 hd2;have e:vs.toArray++ws.toArray=(vs++ws).toArray:=by simp
 by_cases hw:ws=[]
 ·exact concat_meets ⟨_,ho,rfl⟩ ⟨_,ho2,rfl⟩ noFill_tuple_add seq_tuple_add PySem.F.slot_tuple_add PySem.F.entry_tuple_add (PySem.F.args_tuple_add_2 _ _)
   (tuple_addW1 t b vs.toArray ws.toArray n n2 dd dd2 sl sl2 (by simpa using hv) (by simp [hw])) ⟨ho,ho2,h1 hw⟩
 ·refine concat_meets ⟨_,ho,rfl⟩ ⟨_,ho2,rfl⟩ noFill_tuple_add seq_tuple_add PySem.F.slot_tuple_add PySem.F.entry_tuple_add (PySem.F.args_tuple_add_2 _ _)
   (tuple_addW2 t b vs.toArray ws.toArray n n2 dd dd2 sl sl2 (by simpa using hv) (by simpa using hw) (by rw[mF,mF];exact hsz)) ⟨ho,ho2, ?_⟩
  rw[e];exact h2 hw
def sIx(n d:Nat):Option Int->Nat
 | none=>d
 | some v=>if v<0 then(v+(n:Int)).toNat else min v.toNat n
theorem sIx_none(n d:Nat):sIx n d none=d:=rfl
theorem sIx_nat(n d k:Nat):sIx n d (some (k:Int))=min k n:=by
 show(if (k:Int)<0 then((k:Int)+(n:Int)).toNat else min (k:Int).toNat n)=min k n;rw[nU (by lia),mJ]
theorem sIx_le(n d:Nat)(hd:d<=n)(o:Option Int):sIx n d o<=n:=by
 cases o with
 | none=>exact hd
 | some v=>
  show(if v<0 then(v+(n:Int)).toNat else min v.toNat n)<=n;by_cases hv:v<0
  ·rw[nV hv];lia
  ·rw[nU hv];exact Nat.min_le_right _ _
theorem OP(v:Int)(n d:Nat):(if v<0 then max (v+(n:Int)) 0 else min v (n:Int))=((sIx n d (some v):Nat):Int):=by
 show(if v<0 then max (v+(n:Int)) 0 else min v (n:Int))=(((if v<0 then(v+(n:Int)).toNat else min v.toNat n):Nat):Int);by_cases hv:v<0
 ·simp only[nV hv];lia
 ·simp only[nU hv];lia
theorem LV(lo hi:Option Int)(n:Nat):Builtin.Slice.sliceAdjust lo hi 1 (n:Int)=(((sIx n 0 lo:Nat):Int),((sIx n n hi:Nat):Int)):=by
 have h1:¬((1:Int)<0):=by lia
 unfold Builtin.Slice.sliceAdjust;simp only[h1,if_false];refine Prod.ext ?_ ?_
 ·cases lo with
  | none=>rfl
  | some v=>exact OP v n 0
 ·cases hi with
  | none=>rfl
  | some v=>exact OP v n n
theorem KK(i j:Nat):Builtin.Slice.slicePlaces (i:Int) (j:Int) 1=j-i:=by
 unfold Builtin.Slice.slicePlaces;have h1:(1:Int)>0:=by lia
 simp only[h1,if_true,Int.ediv_one];split<;>lia
theorem BH{v:Value}{o:Option Int}{Q:Option Int->Shared->Prop}(p:IsPart v o)(h:Q o s):wpAny (model prog w) A (Builtin.Slice.slicePartIndex v) Q E s:=by
 cases p with
 | none=>exact slicePart_none h
 | int i t=>exact slicePart_int h
theorem yC{sl:Addr}{vl vu:Value}{lo hi:Option Int}{n:Nat}{Q:Int×Int×Nat->Shared->Prop}(hs:s.heap.IsSliceOf sl vl vu .none)(pl:IsPart vl lo)(pu:IsPart vu hi)
  (h:Q (((sIx n 0 lo:Nat):Int),1,sIx n n hi-sIx n 0 lo) s):wpAny (model prog w) A (Builtin.Slice.sliceApplied (.ref sl) (pure (n:Int))) Q E s:=by
 obtain⟨os,hos,hcs,hds⟩:=id hs;unfold Builtin.Slice.sliceApplied Builtin.Slice.sliceFields;refine nQ (nQ (wpAny_field hos hds (x:=vl) rfl (nQ (wpAny_field hos hds (x:=vu) rfl (nQ (wpAny_field hos hds (x:=.none) rfl (nS ?_)))))));refine nQ (slicePart_none ?_);show wpAny _ _ (if ((1:Int)==0)=true then _ else _) _ _ s;rw[nU (by decide)];refine nQ (BH pl (nQ (BH pu (nQ (nS ?_)))));show wpAny _ _ (match Builtin.Slice.sliceAdjust lo hi 1 (n:Int)with | (lo,hi)=>pure (lo,(1:Int),Builtin.Slice.slicePlaces lo hi 1)) _ _ s;rw[LV lo hi n];show wpAny _ _ (pure (((sIx n 0 lo:Nat):Int),(1:Int),Builtin.Slice.slicePlaces ((sIx n 0 lo:Nat):Int) ((sIx n n hi:Nat):Int) 1)) _ _ s;rw[KK];exact nS h
theorem TB(xs:Array Value)(i k:Nat):((List.range k).filterMap λ(m:Nat)=>xs[((i:Int)+(m:Int)*1).toNat]?).toArray=((xs.toList.drop i).take k).toArray:=by
 have e:(λ(m:Nat)=>xs[((i:Int)+(m:Int)*1).toNat]?)=λm=>xs[i+m]? :=by
  funext m
  have:((i:Int)+(m:Int)*1).toNat=i+m:=by lia
  rw[this]
 rw[e];have:=pick_run xs i k;rw[List.filterMap_map]at this;have e2:((λx=>xs[x]?) ∘ λx=>i+x)=λm=>xs[i+m]? :=rfl;rw[e2]at this;rw[this]
theorem getItem_tuple_cut{t sl:Addr}{items:Array Value}{vl vu:Value}{lo hi:Option Int}{Q:Value->Shared->Prop}(ht:IsTup s.heap t items)(hs:s.heap.IsSliceOf sl vl vu .none)(pl:IsPart vl lo)(pu:IsPart vu hi)
  (hw:¬(sIx items.size 0 lo=0/\sIx items.size items.size hi=items.size))
  (h:Q (.ref s.heap.objs.size) { s with heap:=s.heap.push { cls:=.type "tuple",data:=.seq ((items.toList.drop (sIx items.size 0 lo)).take (sIx items.size items.size hi-sIx items.size 0 lo)).toArray } })
  (hsz:items.size<=sizeLine):wpAny (model prog w) A (getItem (.ref t) (.ref sl)) Q E s:=by
 have htake:sizeOk (.seq ((items.toList.drop (sIx items.size 0 lo)).take (sIx items.size items.size hi-sIx items.size 0 lo)).toArray):=by
  show((items.toList.drop (sIx items.size 0 lo)).take (sIx items.size items.size hi-sIx items.size 0 lo)).toArray.size<=sizeLine;rw[mF,mK,List.length_drop,Array.length_toList]
  lia
 have hj:sIx items.size items.size hi<=items.size:=sIx_le _ _ gC hi;obtain⟨os,hos,hcs,hds⟩:=id hs;have hTs:s.TypeIs (.ref sl) "slice":=⟨os,hos,hcs⟩;unfold getItem;try with_reducible refine wpAny_holding ?_
 first | refine nQ (nS ?_) | skip
 refine nQ (wpAny_sequenceKey ht.typeIs (by decide) ?_);refine nQ (wpAny_callSpecial?_slot (name:=Str.ofString "__getitem__") ht.typeIs PyProof.Rows.slot_tuple_getitem
  (wpAny_call_entry PyProof.Rows.slot_tuple_getitem ht.typeIs entry_tuple_getitem ?_ (args_tuple_getitem _ _)))
 show wpAny _ _ (Builtin.Tuple.tupleItemsOf (.ref t) >>= _) _ _ s;refine nQ (tupleItemsOf_ ht ?_);refine nQ (wpAny_typeOf hTs ?_);rw[nV (by decide)];refine nQ (yC hs pl pu ?_);have hno:¬((((sIx items.size 0 lo:Nat):Int)==0&&(1:Int)==1&&(sIx items.size items.size hi-sIx items.size 0 lo)==items.size)=true):=by
  intro q;rw[mO,mO]at q;have q1:((sIx items.size 0 lo:Nat):Int)=0:=eq_of_beq q.1.1;have q2:sIx items.size items.size hi-sIx items.size 0 lo=items.size:=eq_of_beq q.2;exact hw ⟨by lia,by lia⟩
 show wpAny _ _ (if (((sIx items.size 0 lo:Nat):Int)==0&&(1:Int)==1&&(sIx items.size items.size hi-sIx items.size 0 lo)==items.size)=true then _ else _) _ _ s;rw[nU hno,TB];first
  | exact nQ (m:=Builtin.Tuple.tupleExact _) (wpAny_newObj_type (nS ⟨_,rfl,nS h⟩) htake)
  | exact nQ (m:=Builtin.Tuple.tupleExact _) (wpAny_newObj_type (nQ (nS (nS ⟨_,rfl,nS h⟩))) htake)
  | exact nQ (nQ (m:=Builtin.Tuple.tupleExact _) (wpAny_newObj_type (nS (nS ⟨_,rfl,nS h⟩)) htake))
  | exact nQ (nQ (m:=Builtin.Tuple.tupleExact _) (wpAny_newObj_type (nS ⟨_,rfl,nS h⟩) htake))
end
end HT
namespace L2
open PySem PySem.Spec PyProof.Rows
abbrev TO:=St->Hp->(Option Int->Hp->Prop)->Prop
def PO(X:Cx)(e:Option Expr)(t:TO):Prop:=
 ∀(af:List (Addr×Obj)) (s:Shared) (σ:St) (H:Hp) (Q:Option Int->Hp->Prop),Inv X af σ H s->t σ H Q->
  wpAny (model X.prog X.w) X.A (evalPart e X.env) (λu s'=>∃o H',Inv X af σ H' s'/\IsPart u o/\Q o H') X.xe s
def tNoPart:TO:=λ_ H Q=>Q none H
def tPart(t:TE):TO:=fun σ H Q=>t σ H λx H1=>∃i,x=.int i/\Q (some i) H1
theorem kK{ns:List Int} :∀{us:List Value},Vals (ns.map V.int) us->IntsAre us ns:=by
 induction ns with
 | nil=>intro us r;rw[List.map_nil]at r;cases r;exact .nil
 | cons n ns ih=>
  intro us r;rw[mX]at r;cases r with
  | cons r1 r2=>
   obtain⟨t,e⟩:=r1;subst e;exact .cons n t (ih r2)
section
variable{X:Cx}{e:Expr}{te:TE}{lo hi:Option Expr}{tl th:TO}{pos p2:Pos}
theorem qC:PO X none tNoPart:=by
 intro af s σ H Q I h;rw[evalPart_none];exact nS ⟨none,H,I,.none,h⟩
theorem kR(h:PE X e te):PO X (some e) (tPart te):=by
 intro af s σ H Q I hw;rw[evalPart_some];refine thn (h af s σ H _ I hw) λu s1 ⟨x,H1,I1,r1,q1⟩=>?_;obtain⟨i,rfl,q⟩:=q1;obtain⟨t,rfl⟩:=r1;exact⟨some i,H1,I1,.int i t,q⟩
def SlR(X:Cx)(r:V->Option Int->Option Int->Hp->VK->Prop):Prop:=
 ∀(af:List (Addr×Obj)) (s:Shared) (σ:St) (H:Hp) (x:V) (v vl vu:Value) (lo hi:Option Int) (sl:Addr) (Q:VK),Inv X af σ H s->RelV x v->s.heap.IsSliceOf sl vl vu .none->IsPart vl lo->IsPart vu hi->r x lo hi H Q->
  ∃T id,typeLookup (.type T) "__getitem__" = pure (some (.builtin id))/\s.TypeIs v T/\wpAny (model X.prog X.w) X.A (getItem v (.ref sl)) (EP X af σ Q) X.xe s
def tSl(r:V->Option Int->Option Int->Hp->VK->Prop)(te:TE)(tl th:TO):TE:=fun σ H Q=>te σ H λx H1=>tl σ H1 λl H2=>th σ H2 λu H3=>r x l u H3 Q
theorem kN{r:V->Option Int->Option Int->Hp->VK->Prop}(hr:SlR X r)(he:PE X e te)(hl:PO X lo tl)(hu:PO X hi th):PE X (.Subscript e (.Slice lo hi none p2) pos) (tSl r te tl th):=by
 intro af s σ H Q I h;refine Subscript_ (thn (he af s σ H _ I h) λv s1 ⟨x,H1,I1,r1,q1⟩=>?_);refine wpAny_Slice (thn (hl af s1 σ H1 _ I1 q1) λvl s2 ⟨l,H2,I2,pl,q2⟩=>thn (hu af s2 σ H2 _ I2 q2) λvu s3 ⟨u,H3,I3,pu,q3⟩=>?_);rw[evalPart_none];refine nS ?_;have I4:Inv X af σ H3 { s3 with heap:=s3.heap.push { cls:=.type "slice",data:=.fields #[vl,vu,.none] } } :=I3.kept (t':=s3.toks) λb ob q=>gP _ q;obtain⟨T,id,hT,ht,hg⟩:=hr af { s3 with heap:=s3.heap.push { cls:=.type "slice",data:=.fields #[vl,vu,.none] } } σ H3 x v vl vu l u s3.heap.objs.size Q I4 r1 (Heap.IsSliceOf.new ..) pl pu q3;show wpAny (model X.prog X.w) X.A (subscriptTail e (.Slice lo hi none p2) v (.ref s3.heap.objs.size)) (EP X af σ Q) X.xe { s3 with heap:=s3.heap.push { cls:=.type "slice",data:=.fields #[vl,vu,.none] } };exact tail_any (ops:=[.ref s3.heap.objs.size,v]) ht hT hg (by with_unfolding_all rfl)
def xF(xs:List V)(lo hi:Option Int):List V:=(xs.drop (HT.sIx xs.length 0 lo)).take (HT.sIx xs.length xs.length hi-HT.sIx xs.length 0 lo)
theorem AC(xs:List V)(lo hi:Option Int):(xF xs lo hi).length<=xs.length:=by
 unfold xF;rw[mK,List.length_drop]
 lia
def rSlT(K:nW):V->Option Int->Option Int->Hp->VK->Prop:=λx lo hi H Q=>∃a xs,x=.ref a/\SqT K H a xs/\
 ¬(HT.sIx xs.length 0 lo=0/\HT.sIx xs.length xs.length hi=xs.length)/\∀p,H p=none->Q (.ref p) (upd H p (.tup (xF xs lo hi)))
theorem SH:SlR X (rSlT X.K):=by
 intro af s σ H x v vl vu lo hi sl Q I rx hs pl pu h;obtain⟨a,xs,rfl,hx,hw,q⟩:=h;cases rx;obtain⟨its,r,ht,hz⟩:=I.tuple hx;have hlen:its.toArray.size=xs.length:=by rw[mF];exact r.length.symm
 refine⟨"tuple",_,PyProof.Rows.slot_tuple_getitem.lookup,ht.typeIs, ?_⟩;refine HT.getItem_tuple_cut ht hs pl pu (by rw[hlen];exact hw) ?_ (by rw[hlen];exact hz);rw[hlen];refine⟨.ref s.heap.objs.size,_,I.laid (t':=s.toks) (o:=.tup (xF xs lo hi)) (λb ob q=>gP _ q) gC ?_,rfl,q _ (I.hok.fresh gC)⟩;exact⟨nG (AC xs lo hi) hz,_,(r.drop (HT.sIx xs.length 0 lo)).take (HT.sIx xs.length xs.length hi-HT.sIx xs.length 0 lo),IsTup.new _ _,.of (hU _ rfl) rfl⟩
theorem Vals.nil_iff{xs:List V}{us:List Value}(r:Vals xs us):us=[]↔xs=[]:=by
 cases r with
 | nil=>simp
 | cons _ _=>simp
end
def ixN(n:Nat)(i:Int):Option Nat:=if 0<=i then(if i<n then some i.toNat else none)else if -(n:Int)<=i then some (i+n).toNat else none
def atI{α:Type}(xs:List α)(i:Int):Option α:=(ixN xs.length i).bind λj=>xs[j]?
theorem OD{n:Nat}{i:Int}{j:Nat}(h:ixN n i=some j):seqIndex? i n=some j/\j<n/\-(n:Int)<=i/\i<n:=by
 unfold ixN at h;by_cases h0:0<=i
 ·rw[nV h0]at h;by_cases h1:i<n
  ·rw[nV h1]at h;have e:i.toNat=j:=Option.some.inj h;exact⟨by rw[seqIndex_of h0 h1,e],by lia,by lia,h1⟩
  ·rw[nU h1]at h;cases h
 ·rw[nU h0]at h;by_cases h1: -(n:Int)<=i
  ·rw[nV h1]at h;have e:(i+n).toNat=j:=Option.some.inj h;exact⟨by rw[seqIndex_neg (by lia) h1,e],by lia,h1,by lia⟩
  ·rw[nU h1]at h;cases h
theorem BB{α:Type}{xs:List α}{i:Int}{v:α}(h:atI xs i=some v):∃j,seqIndex? i xs.length=some j/\xs[j]? = some v/\j<xs.length/\-(xs.length:Int)<=i/\i<xs.length:=by
 unfold atI at h;cases e:ixN xs.length i with
 | none=>rw[e]at h;cases h
 | some j=>
  rw[e]at h;obtain⟨h1,h2,h3,h4⟩:=OD e;exact⟨j,h1,h,h2,h3,h4⟩
theorem kY{α:Type}{xs:List α}{j:Nat}{v:α}(h:xs[j]? = some v):atI xs (j:Int)=some v:=by
 have hj:j<xs.length:=(gI.mp h).1;have e:ixN xs.length (j:Int)=some j:=by
  unfold ixN;rw[nV (by lia),nV (by lia)];simp
 unfold atI;rw[e];exact h
def PlainIx(b:Expr):Prop:=∀o i,subscripted b false o i=operate [o,i] (getItem o i)
def IxR(X:Cx)(r:R2):Prop:=
 ∀(value slice:Expr) (af:List (Addr×Obj)) (s:Shared) (σ:St) (H:Hp) (x y:V) (v u:Value) (Q:VK),Inv X af σ H s->RelV x v->RelV y u->r x y H Q->
  subscripted slice false v u=operate [v,u] (getItem v u)->wpAny (model X.prog X.w) X.A (subscriptTail value slice v u) (EP X af σ Q) X.xe s
def MtR(X:Cx)(id:String)(r:V->List V->Hp->VK->Prop):Prop:=
 ∀(af:List (Addr×Obj)) (s:Shared) (σ:St) (H:Hp) (x:V) (xs:List V) (v:Value) (us:List Value) (Q:VK),Inv X af σ H s->RelV x v->Vals xs us->r x xs H Q->
  wpAny (model X.prog X.w) X.A (call (.builtin id) (v::us)) (EP X af σ Q) X.xe s
section
variable{X:Cx}{a b:Expr}{ta tb:TE}{pos:Pos}
theorem kB{r:R2}(hr:IxR X r)(ha:PE X a ta)(hb:PE X b tb)(hs:PlainIx b):PE X (.Subscript a b pos) (tOp r ta tb):=by
 intro af s σ H Q I h;exact Subscript_ (binT ha hb I h λv u s2 x y H2 I2 rx ry q=>hr a b af s2 σ H2 x y v u Q I2 rx ry q (hs _ _))
def KG(K:nW):R2:=λx y H Q=>∃p xs i v,x=.ref p/\y=.int i/\SqL K H p xs/\atI xs i=some v/\Q v H
def rIxT(K:nW):R2:=λx y H Q=>∃p xs i v,x=.ref p/\y=.int i/\SqT K H p xs/\atI xs i=some v/\Q v H
def rIxS:R2:=λx y H Q=>∃z i c,x=.str z/\y=.int i/\z.length<=sizeLine/\atI z.cps.toList i=some c/\Q (.str ⟨#[c]⟩) H
theorem kX:IxR X (KG X.K):=by
 intro value slice af s σ H x y v u Q I rx ry h hs;obtain⟨p,xs,i,z,rfl,rfl,hq,he,q⟩:=h;cases rx;obtain⟨t,rfl⟩:=ry;obtain⟨its,r,pl,hz⟩:=I.list hq;obtain⟨j,h1,h2,h3,h4,h5⟩:=BB he;obtain⟨w,ew,rw'⟩:=r.get h2;have hl:=r.length;have hn:=wK;have fin:EP X af σ Q w s:=⟨z,H,I,rw',q⟩;by_cases h0:0<=i
 ·have hj:i.toNat=j:=by
   rw[seqIndex_of h0 h5]at h1;exact Option.some.inj h1
  exact item_listR pl.isList h0 (by lia) (by rw[hj];simpa using ew) fin hs
 ·have hj:(i+(its.toArray.size:Int)).toNat=j:=by
   rw[seqIndex_neg (by lia) h4]at h1;rw[mF,<-hl];exact Option.some.inj h1
  exact subscriptTail_builtinR (x:=w) pl.isList.typeIs slot_list_getitem.lookup
   (wpAny_getItem_list_neg (Q:=λr s'=>r=w/\EP X af σ Q r s') pl.isList (by lia) (by rw[mF]<;>lia) (by lia) (by rw[hj];simpa using ew) ⟨rfl,fin⟩) hs
theorem kF:IxR X (rIxT X.K):=by
 intro value slice af s σ H x y v u Q I rx ry h hs;obtain⟨p,xs,i,z,rfl,rfl,hq,he,q⟩:=h;cases rx;obtain⟨t,rfl⟩:=ry;obtain⟨its,r,pl,hz⟩:=I.tuple hq;obtain⟨j,h1,h2,h3,h4,h5⟩:=BB he;obtain⟨w,ew,rw'⟩:=r.get h2;have hl:=r.length;have hn:=wK;have fin:EP X af σ Q w s:=⟨z,H,I,rw',q⟩;exact subscriptTail_builtinR (x:=w) pl.typeIs slot_tuple_getitem.lookup
  (getItem_tuple (j:=j) (Q:=λr s'=>r=w/\EP X af σ Q r s') pl (by lia) (by lia) (by rw[mF,<-hl];exact h1) (by simpa using ew) ⟨rfl,fin⟩) hs
theorem LC:IxR X rIxS:=by
 intro value slice af s σ H x y v u Q I rx ry h hs;obtain⟨z,i,c,rfl,rfl,hz,he,q⟩:=h;obtain⟨t,rfl⟩:=rx;obtain⟨t',rfl⟩:=ry;obtain⟨j,h1,h2,h3,h4,h5⟩:=BB he;have hl:z.cps.toList.length=z.length:=by simp [Str.length]
 rw[hl]at h1 h4 h5;have hn:=wK;exact tail_any (typeIs_str s z t) slot_str_getitem.lookup (getItem_str (c:=c) (by
  have e1:decide (i < -(2^63:Int))=false:=mR (by lia);have e2:decide (i ≥ 2^63)=false:=mR (by lia);rw[e1,e2,Bool.or_false]) (by rw[h1];simpa using h2) ⟨.str ⟨#[c]⟩,H,I.tok _,⟨_,rfl⟩,q⟩) hs
theorem KS(its:List Value)(n j:Nat)(u:Value):Obj.mapSeq (·.setIfInBounds j u) { cls:=.type "list",data:=.seq its.toArray n } = { cls:=.type "list",data:=.seq (its.set j u).toArray n } :=by
 simp [Obj.mapSeq]
theorem Inv.lst{af:List (Addr×Obj)}{σ:St}{H:Hp}{s:Shared}{p:Addr}{xs:List V}(I:Inv X af σ H s)(h:H p=some (.lst xs)) :
  ∃(its:List Value) (n:Nat),Vals xs its/\s.heap.get? p=some { cls:=.type "list",data:=.seq its.toArray n }/\xs.length<=sizeLine:=by
 obtain⟨z,its,n,r,e⟩:=I.hok p _ h;exact⟨its,n,r,e,z⟩
theorem Inv.lstUpd{af:List (Addr×Obj)}{σ:St}{H:Hp}{s:Shared}{p:Addr}{xs ys:List V}{its its':List Value}{n n':Nat}{f:Obj->Obj}(I:Inv X af σ H s)(h:H p=some (.lst xs))
  (ho:s.heap.get? p=some { cls:=.type "list",data:=.seq its.toArray n }) (hf:f { cls:=.type "list",data:=.seq its.toArray n } = { cls:=.type "list",data:=.seq its'.toArray n' }) (r:Vals ys its') (hz:ys.length<=sizeLine) (t:Nat) :
  Inv X af σ (upd H p (.lst ys)) { s with heap:=s.heap.update p f,toks:=t } :=by
 have e:(s.heap.update p f).get? p=some { cls:=.type "list",data:=.seq its'.toArray n' } :=by
  rw[Heap.get?_update_self f ho (by rw[hf]<;>rfl),hf]
 refine I.write (x:=p) (e:=p) (by rw[h];trivial) (.inl rfl) (λb u hb q=>(Heap.get?_update_other _ _ (Ne.symm hb)).trans q) ⟨_,e⟩ ?_;exact⟨hz,its',n',r,e⟩
def rSetL:V->V->V->Hp->(Hp->Prop)->Prop:=λo i v H Q=>∃p xs k j,o=.ref p/\i=.int k/\H p=some (.lst xs)/\ixN xs.length k=some j/\Q (upd H p (.lst (xs.set j v)))
theorem vZ:PSet X rSetL:=by
 intro af s σ H o i v ov iv u Q I ro ri rv h;obtain⟨p,xs,k,j,rfl,rfl,hp,hj,q⟩:=h;cases ro;obtain⟨t,rfl⟩:=ri;obtain⟨its,n,r,ho,hz⟩:=I.lst hp;obtain⟨h1,h2,h3,h4⟩:=OD hj;have hl:=r.length;have hn:=wK;have I':Inv X af σ (upd H p (.lst (xs.set j v))) { s with heap:=s.heap.update p (Obj.mapSeq (·.setIfInBounds j u)) } :=
  I.lstUpd hp ho (KS its n j u) (r.set rv j) (by rw[List.length_set];exact hz) s.toks
 by_cases h0:0<=k
 ·have hk:k.toNat=j:=by
   rw[seqIndex_of h0 h4]at h1;exact Option.some.inj h1
  exact PySem.W.ki_setAt ho h0 (by lia) (by rw[mF,<-hl];exact h4) (by rw[hk];exact⟨_,I',q⟩)
 ·have hk:(k+(its.toArray.size:Int)).toNat=j:=by
   rw[seqIndex_neg (by lia) h3]at h1;rw[mF,<-hl];exact Option.some.inj h1
  exact PySem.W.ki_setBack ho (by lia) (by rw[mF,<-hl];exact h3) (by lia) (by rw[hk];exact⟨_,I',q⟩)
theorem FA(lo hi:Option Int)(n:Nat):(sliceBounds lo hi none n).1=((HT.sIx n 0 lo:Nat):Int)/\(sliceBounds lo hi none n).2.1=((HT.sIx n n hi:Nat):Int)/\(sliceBounds lo hi none n).2.2=1:=by
 refine⟨?_, ?_,rfl⟩
 ·cases lo with
  | none=>simp [sliceBounds,HT.sIx]
  | some i=>
   simp only[sliceBounds,HT.sIx,Option.getD_none,show(1:Int)>0 by decide,if_true];by_cases h:i<0
   ·simp only[h,if_true]<;>lia
   ·simp only[h,if_false]<;>lia
 ·cases hi with
  | none=>simp [sliceBounds,HT.sIx]
  | some i=>
   simp only[sliceBounds,HT.sIx,Option.getD_none,show(1:Int)>0 by decide,if_true];by_cases h:i<0
   ·simp only[h,if_true]<;>lia
   ·simp only[h,if_false]<;>lia
theorem DA(its:List Value)(lo hi:Option Int):slicePick its.toArray lo hi none=((its.drop (HT.sIx its.length 0 lo)).take (HT.sIx its.length its.length hi-HT.sIx its.length 0 lo)).toArray:=by
 obtain⟨h1,h2,h3⟩:=FA lo hi its.toArray.size;unfold slicePick;rw[h1,h2,h3];simp only[sliceRange_one,pick_run,mF]<;>rfl
def rSlL(K:nW):V->Option Int->Option Int->Hp->VK->Prop:=λx lo hi H Q=>∃a xs,x=.ref a/\SqL K H a xs/\∀p,H p=none->Q (.ref p) (upd H p (.lst (xF xs lo hi)))
theorem AL:SlR X (rSlL X.K):=by
 intro af s σ H x v vl vu lo hi sl Q I rx hs pl pu h;obtain⟨a,xs,rfl,hx,q⟩:=h;cases rx;obtain⟨its,r,ht,hz⟩:=I.list hx;have hlen:=r.length;refine⟨"list",_,slot_list_getitem.lookup,ht.isList.typeIs, ?_⟩;refine wpAny_getItem_list_slice ht.isList hs pl pu .none (by simp) ?_ (by rw[mF]<;>lia);rw[DA,<-hlen];refine⟨.ref s.heap.objs.size,_,I.laid (t':=s.toks) (o:=.lst (xF xs lo hi)) (λb ob q=>gP _ q) gC ?_,rfl,q _ (I.hok.fresh gC)⟩;exact⟨nG (AC xs lo hi) hz,_,0,(r.drop (HT.sIx xs.length 0 lo)).take (HT.sIx xs.length xs.length hi-HT.sIx xs.length 0 lo),hU _ rfl⟩
def yX:V->Bool
 | .non=>true
 | .bl _=>true
 | .int _=>true
 | .str _=>true
 | _=>false
def eqV:V->V->Bool
 | .non,.non=>true
 | .bl a,.bl b=>a==b
 | .bl a,.int b=>(if a then 1 else 0)==b
 | .int a,.bl b=>a==(if b then 1 else 0)
 | .int a,.int b=>a==b
 | .str a,.str b=>a==b
 | _,_=>false
theorem LK{A:Around}{s:Shared}{y x:V}{u v:Value}(ry:RelV y u)(rx:RelV x v)(fy:yX y=true)(fx:yX x=true):SeqAt.EqAt A s u v (eqV y x):=by
 cases y with
 | non=>
  cases ry;cases x with
  | non=>cases rx;exact SeqAt.EqAt.same _
  | bl b=>cases rx;exact SeqAt.EqAt.none_bool b
  | int b=>obtain⟨t,rfl⟩:=rx;exact SeqAt.EqAt.none_int b t
  | str b=>obtain⟨t,rfl⟩:=rx;exact SeqAt.EqAt.none_str b t
  | _=>exact absurd (show false=true from fx) hW
 | bl a=>
  cases ry;cases x with
  | non=>cases rx;exact SeqAt.EqAt.bool_none a
  | bl b=>cases rx;exact SeqAt.EqAt.bool_bool a b
  | int b=>obtain⟨t,rfl⟩:=rx;exact SeqAt.EqAt.bool_int a b t
  | str b=>obtain⟨t,rfl⟩:=rx;exact SeqAt.EqAt.bool_str a b t
  | _=>exact absurd (show false=true from fx) hW
 | int a=>
  obtain⟨t',rfl⟩:=ry;cases x with
  | non=>cases rx;exact SeqAt.EqAt.int_none a t'
  | bl b=>cases rx;exact SeqAt.EqAt.int_bool a t' b
  | int b=>obtain⟨t,rfl⟩:=rx;exact SeqAt.EqAt.int_int a t' b t
  | str b=>obtain⟨t,rfl⟩:=rx;exact SeqAt.EqAt.int_str a t' b t
  | _=>exact absurd (show false=true from fx) hW
 | str a=>
  obtain⟨t',rfl⟩:=ry;cases x with
  | non=>cases rx;exact SeqAt.EqAt.str_none a t'
  | bl b=>cases rx;exact SeqAt.EqAt.str_bool a t' b
  | int b=>obtain⟨t,rfl⟩:=rx;exact SeqAt.EqAt.str_int a t' b t
  | str b=>obtain⟨t,rfl⟩:=rx;exact SeqAt.EqAt.str_str a t' b t
  | _=>exact absurd (show false=true from fx) hW
 | _=>exact absurd (show false=true from fy) hW
def eqU(x:V)(u:Value):Bool:=match u with
 | .none=>eqV .non x
 | .bool b=>eqV (.bl b) x
 | .int i _=>eqV (.int i) x
 | .str z _=>eqV (.str z) x
 | _=>false
theorem UY{x y:V}{u:Value}(r:RelV y u)(f:yX y=true):eqU x u=eqV y x:=by
 cases y with
 | non=>cases r;rfl
 | bl b=>cases r;rfl
 | int i=>obtain⟨t,rfl⟩:=r;rfl
 | str z=>obtain⟨t,rfl⟩:=r;rfl
 | _=>exact absurd (show false=true from f) hW
theorem uJ{x:V} :∀{xs:List V} {us:List Value},Vals xs us->xs.all yX=true->us.any (eqU x)=xs.any λy=>eqV y x
 | _,_,.nil,_=>rfl
 | y::xs,u::us,.cons r t,f=>by
  rw[List.all_cons,mO]at f;rw[List.any_cons,List.any_cons,UY r f.1,uJ t f.2]
theorem zM{A:Around}{s:Shared}{x:V}{v:Value}(rx:RelV x v)(fx:yX x=true):∀{xs:List V} {us:List Value},Vals xs us->xs.all yX=true->∀u∈us,SeqAt.EqAt A s u v (eqU x u)
 | _,_,.nil,_=>λu hu=>by cases hu
 | y::xs,u::us,.cons r t,f=>λu' hu=>by
  rw[List.all_cons,mO]at f;rcases mY.mp hu with rfl | hu
  ·rw[UY r f.1];exact LK r rx f.1 fx
  ·exact zM rx fx t f.2 u' hu
def inV(x:V)(xs:List V):Bool:=xs.any λy=>eqV y x
def rIn(K:nW)(neg:Bool):R2:=λx y H Q=>∃p xs,y=.ref p/\(SqL K H p xs∨SqT K H p xs)/\yX x=true/\xs.all yX=true/\Q (.bl (if neg then !inV x xs else inV x xs)) H
theorem PZ:OpR X (compareOp .In) (rIn X.K false):=by
 intro af s σ H x y v u Q I rx ry h;obtain⟨p,xs,rfl,hq,fx,fs,q⟩:=h;cases ry;rcases hq with hq | hq
 ·obtain⟨its,r,pl,hz⟩:=I.list hq;refine SeqAt.in_listAt (eqU x) pl.isList (λw hw=>zM rx fx r fs w (by simpa using hw)) ⟨.bl _,H,I,rfl, ?_⟩;rw[show its.toArray.any (eqU x)=its.any (eqU x) by simp,uJ r fs];exact q
 ·obtain⟨its,r,pl,hz⟩:=I.tuple hq;refine SeqAt.in_tupleAt (eqU x) pl (λw hw=>zM rx fx r fs w (by simpa using hw)) ⟨.bl _,H,I,rfl, ?_⟩;rw[show its.toArray.any (eqU x)=its.any (eqU x) by simp,uJ r fs];exact q
theorem FN:OpR X (compareOp .NotIn) (rIn X.K true):=by
 intro af s σ H x y v u Q I rx ry h;obtain⟨p,xs,rfl,hq,fx,fs,q⟩:=h;cases ry;rcases hq with hq | hq
 ·obtain⟨its,r,pl,hz⟩:=I.list hq;refine SeqAt.notIn_listAt (eqU x) pl.isList (λw hw=>zM rx fx r fs w (by simpa using hw)) ⟨.bl _,H,I,rfl, ?_⟩;rw[show its.toArray.any (eqU x)=its.any (eqU x) by simp,uJ r fs];exact q
 ·obtain⟨its,r,pl,hz⟩:=I.tuple hq;refine SeqAt.notIn_tupleAt (eqU x) pl (λw hw=>zM rx fx r fs w (by simpa using hw)) ⟨.bl _,H,I,rfl, ?_⟩;rw[show its.toArray.any (eqU x)=its.any (eqU x) by simp,uJ r fs];exact q
theorem FM:OpR X (compareOp .NotIn) (λx y H Q=>∃i j,x=.str i/\y=.str j/\Q (.bl (!(!(Builtin.Str.occurrences j i 0 j.length 1).isEmpty))) H):=by
 intro af s σ H x y v u Q I rx ry h;obtain⟨i,j,rfl,rfl,q⟩:=h;obtain⟨t,rfl⟩:=rx;obtain⟨t',rfl⟩:=ry;exact notIn_str ⟨.bl _,H,I,rfl,q⟩
theorem kL:CallR X (.builtin "len") (λxs H Q=>∃p ys,xs=[.ref p]/\(SqL X.K H p ys∨SqT X.K H p ys)/\Q (.int ys.length) H):=by
 intro af s σ H xs us Q I r h;obtain⟨p,ys,rfl,hq,q⟩:=h;obtain⟨u,rfl,rx⟩:=vI r;cases rx;have hn:=wK;rcases hq with hq | hq
 ·obtain⟨its,r',pl,hz⟩:=I.list hq;have hlen:=r'.length;exact Calls.call_len_list pl.isList (by simp only[mF]<;>lia) ⟨.int ys.length,H,I.tok _,⟨s.toks+1,by rw[mF,hlen]⟩,q⟩
 ·obtain⟨its,r',pl,hz⟩:=I.tuple hq;have hlen:=r'.length;exact len_tuple pl (by simp only[mF]<;>lia) ⟨.int ys.length,H,I.tok _,⟨s.toks+1,by rw[mF,hlen]⟩,q⟩
theorem qN:CallR X (.builtin "len") (λxs H Q=>∃z,xs=[.str z]/\z.length<=sizeLine/\Q (.int z.length) H):=by
 intro af s σ H xs us Q I r h;obtain⟨z,rfl,hz,q⟩:=h;obtain⟨u,rfl,t,rfl⟩:=vI r;have hn:=wK;exact len_str (by lia) ⟨.int z.length,H,I.tok _,⟨_,rfl⟩,q⟩
theorem GZ:CallR X (.type "list") (λxs H Q=>∃p ys,xs=[.ref p]/\(SqL X.K H p ys∨SqT X.K H p ys)/\∀l,H l=none->Q (.ref l) (upd H l (.lst ys))):=by
 intro af s σ H xs us Q I r h;obtain⟨p,ys,rfl,hq,q⟩:=h;obtain⟨u,rfl,rx⟩:=vI r;cases rx;have fin:∀(its:List Value),Vals ys its->ys.length<=sizeLine->∀(h':Heap) (c':Nat),(∀b o',s.heap.get? b=some o'->h'.get? b=some o')->
   h'.get? s.heap.objs.size=some { cls:=.type "list",dict:=none,data:=.seq its.toArray c',slots:=#[] }->EP X af σ Q (.ref s.heap.objs.size) { s with heap:=h' } :=λits r' hz h' c' kp e=>
  ⟨.ref s.heap.objs.size,_,I.laid (t':=s.toks) kp gC (show ObjOk X.prog X.w _ h' _ (.lst ys)from⟨hz,its,c',r',e⟩),rfl,q _ (I.hok.fresh gC)⟩
 rcases hq with hq | hq
 ·obtain⟨its,r',pl,hz⟩:=I.list hq;have hlen:=r'.length;obtain⟨o,ho,hc,n,hd⟩:=pl.isList;exact call_list_seq p (.inl rfl) ho hc hd (λh' c' kp e=>fin its r' hz h' c' kp e) (by simp only[mF]<;>lia)
 ·obtain⟨its,r',pl,hz⟩:=I.tuple hq;have hlen:=r'.length;obtain⟨o,ho,hc,n,hd⟩:=pl;exact call_list_seq p (.inr rfl) ho hc hd (λh' c' kp e=>fin its r' hz h' c' kp e) (by simp only[mF]<;>lia)
theorem vE:CallR X (.type "tuple") (λxs H Q=>∃p ys,xs=[.ref p]/\((SqL X.K H p ys/\∀l,H l=none->Q (.ref l) (upd H l (.tup ys)))∨(SqT X.K H p ys/\Q (.ref p) H))):=by
 intro af s σ H xs us Q I r h;obtain⟨p,ys,rfl,h⟩:=h;obtain⟨u,rfl,rx⟩:=vI r;cases rx;rcases h with⟨hq,q⟩ | ⟨hq,q⟩
 ·obtain⟨its,r',pl,hz⟩:=I.list hq;have hlen:=r'.length;refine call_tuple_list pl.isList (λh' kp=>?_) (by simp only[mF]<;>lia);have I1:Inv X af σ H { s with heap:=h' } :=I.kept (t':=s.toks) kp;have I2:Inv X af σ (upd H h'.objs.size (.tup ys)) { s with heap:=h'.push { cls:=.type "tuple",data:=.seq its.toArray } } :=
   I1.laid (t':=s.toks) (λb o e=>gP _ e) gC (show ObjOk X.prog X.w _ _ _ (.tup ys)from⟨hz,its,r',IsTup.new _ _,.of (hU _ rfl) rfl⟩)
  exact⟨.ref h'.objs.size,_,I2,rfl,q _ (I1.hok.fresh gC)⟩
 ·obtain⟨its,r',pl,hz⟩:=I.tuple hq;exact call_tuple_same pl ⟨.ref p,H,I,rfl,q⟩
def tyV(K:nW)(T:String)(x:V)(H:Hp):Prop:=match x with
 | .str _=>T="str"
 | .int _=>T="int"
 | .ref p=>(T="list"/\∃xs,SqL K H p xs)∨(T="tuple"/\∃o,K.lookup p=some o/\o.cls=.type "tuple"/\o.dict=none)∨
   (T="dict"/\((∃ai,H p=some (.dK ai))∨∃ai,H p=some (.dT ai)))∨(T="set"/\∃S n,H p=some (.set S n))∨(T="tuple"/\∃xs,H p=some (.tup xs))
 | _=>False
theorem RM{af:List (Addr×Obj)}{σ:St}{H:Hp}{s:Shared}{T:String}{x:V}{v:Value}(I:Inv X af σ H s)(r:RelV x v)(ty:tyV X.K T x H) :
  s.TypeIs v T/\∀a,v=.ref a->∃ob,s.heap.get? a=some ob/\ob.dict=none:=by
 cases x with
 | str z=>
  obtain⟨t,rfl⟩:=r;cases (show T="str" from ty);exact⟨typeIs_str s z t,λ_ e=>nomatch e⟩
 | int i=>
  obtain⟨t,rfl⟩:=r;cases (show T="int" from ty);exact⟨typeIs_int s i t,λ_ e=>nomatch e⟩
 | ref p=>
  cases r;rcases ty with⟨rfl,xs,hq⟩ | ⟨rfl,o,hk,hc,hd⟩ | ⟨rfl,hk⟩ | ⟨rfl,S,n,hk⟩ | ⟨rfl,xs,hk⟩
  rotate_left 4
  ·obtain⟨_,its,_,⟨o,h1,h2,_⟩,nd⟩:=(show ObjOk X.prog X.w H s.heap p (.tup xs)from I.hok p _ hk);exact⟨⟨o,h1,h2⟩,λa e=>by cases e;exact⟨o,h1,nd _ h1⟩⟩
  ·obtain⟨its,_,pl,_⟩:=I.list hq;refine⟨pl.isList.typeIs,λa e=>?_⟩;cases e;obtain⟨o,n,e,c,hd,_⟩:=pl;exact⟨o,e,hd⟩
  ·refine⟨⟨o,I.kIn p o hk,hc⟩,λa e=>?_⟩;cases e;exact⟨o,I.kIn _ o hk,hd⟩
  ·have z:∃o,s.heap.get? p=some o/\o.ExactDict:=by
    rcases hk with⟨ai,hk⟩ | ⟨ai,hk⟩
    ·obtain⟨_,_,_,_,o,_,_,e,ex,_⟩:=I.hok p _ hk;exact⟨o,e,ex⟩
    ·obtain⟨_,_,_,_,o,_,_,e,ex,_⟩:=I.hok p _ hk;exact⟨o,e,ex⟩
   obtain⟨o,e,ex⟩:=z;refine⟨⟨o,e,ex.1⟩,λa e2=>?_⟩;cases e2;exact⟨o,e,ex.2.1⟩
  ·obtain⟨o,_,_,_,e,ex,_⟩:=I.hok p _ hk;refine⟨⟨o,e,ex.1⟩,λa e2=>?_⟩;cases e2;exact⟨o,e,ex.2.1⟩
 | _=>exact False.elim ty
def tBM0(K:nW)(T:String)(r:V->List V->Hp->VK->Prop)(to:TE):TE:=fun σ H Q=>to σ H λx H1=>tyV K T x H1/\r x [] H1 Q
def tBM(K:nW)(T:String)(r:V->List V->Hp->VK->Prop)(to:TE)(t:TA):TE:=fun σ H Q=>to σ H λx H1=>tyV K T x H1/\t σ H1 λxs H2=>r x xs H2 Q
variable{o e:Expr}{es:List Expr}{to:TE}{t:TA}{name:Str}{apos cpos:Pos}{T id:String}{r:V->List V->Hp->VK->Prop}
theorem pe_bm0(pa:PlainAttrs T)(slot:Slot T name id)(hty:typeOf (.builtin id)=pure (.type "method_descriptor"))(hm:MtR X id r)(ho:PE X o to)
  (hbase:attributeBase o name X.env (eval o X.env)=eval o X.env:=by rfl) (hline:(apos.endLine==cpos.line)=true:=by rfl):PE X (.Call (.Attribute o name apos) [] [] cpos) (tBM0 X.K T r to):=by
 intro af s σ H Q I h;refine wpAny_Call_method0_late hbase hline (thn (ho af s σ H _ I h) λv s1 ⟨x,H1,I1,r1,ty,q1⟩=>?_);obtain⟨h1,h2⟩:=RM I1 r1 ty;exact⟨T,id,pa,slot,hty,h1,h2,Calls.callWith_builtin rfl (PySem.evalArgs_none (hm af s1 σ H1 x [] v [] Q I1 r1 .nil q1))⟩
theorem qQ(pa:PlainAttrs T)(slot:Slot T name id)(hty:typeOf (.builtin id)=pure (.type "method_descriptor"))(hm:MtR X id r)(ho:PE X o to)(ha:PA X (e::es) t)
  (hbase:attributeBase o name X.env (eval o X.env)=eval o X.env:=by rfl)
  (hfew:((backTo cpos (starEach (e::es) X.env)).all (λx=>!x.1)&&(backToKw cpos (keywordEach [] X.env)).all (λx=>x.1.isSome)
   &&decide ((e::es).length+([]:List Keyword).length+(if ([]:List Keyword).isEmpty then 0 else 1)<30))=true:=by rfl)
  (hline:(apos.endLine==cpos.line)=true:=by rfl) (hs:starEach (e::es) X.env=(false,eval e X.env)::starEach es X.env:=by rfl) (hplain:(backTo cpos (starEach es X.env)).any (·.1)=false:=by rfl) :
  PE X (.Call (.Attribute o name apos) (e::es) [] cpos) (tBM X.K T r to t):=by
 intro af s σ H Q I h;refine wpAny_Call_method_late hbase hfew hline rfl (thn (ho af s σ H _ I h) λv s1 ⟨x,H1,I1,r1,ty,q1⟩=>?_);obtain⟨h1,h2⟩:=RM I1 r1 ty;refine⟨T,id,pa,slot,hty,h1,h2, ?_⟩;have hA:=ha cpos af s1 σ H1 _ I1 q1;rw[hs]at hA ⊢;refine Calls.callWith_builtin (by show(false||(backTo cpos (starEach es X.env)).any (·.1))=false;rw[hplain]<;>rfl) (Calls.evalArgs_plain ?_);exact thn hA λus s2 ⟨vs,H2,I2,r2,q2⟩=>hm af s2 σ H2 x vs v us Q I2 r1 r2 q2
end
def MtM(X:Cx)(id:String)(r:V->List V->Hp->VK->Prop):Prop:=
 ∀(af:List (Addr×Obj)) (s:Shared) (σ:St) (H:Hp) (x:V) (xs:List V) (v:Value) (us:List Value) (Q:VK),Inv X af σ H s->RelV x v->Vals xs us->r x xs H Q->
  wpAny (model X.prog X.w) X.A (call (.builtin id) (v::us)) (EP X af σ Q) X.xe s
theorem Vals.one:∀{x:V} {us:List Value},Vals [x] us->∃u,us=[u]/\RelV x u
 | _,_,.cons r .nil=>⟨_,rfl,r⟩
theorem Vals.two:∀{x y:V} {us:List Value},Vals [x,y] us->∃u v,us=[u,v]/\RelV x u/\RelV y v
 | _,_,_,.cons r (.cons q .nil)=>⟨_,_,rfl,r,q⟩
theorem Vals.rep{xs:List V}{us:List Value}(h:Vals xs us):∀k:Nat,Vals (List.replicate k xs).flatten (List.replicate k us).flatten
 | 0=>.nil
 | k+1=>by
  rw[List.replicate_succ,List.replicate_succ,List.flatten_cons,List.flatten_cons];exact Vals.append h (Vals.rep h k)
theorem ED(its:List Value):∀(k:Nat) (acc:List Value),
  List.foldl (λx1 x2=>x1++x2) acc.toArray (List.replicate k its.toArray)=(acc++(List.replicate k its).flatten).toArray
 | 0,acc=>by simp
 | k+1,acc=>by
  have e:acc.toArray++its.toArray=(acc++its).toArray:=by simp
  have e2:(acc++its)++(List.replicate k its).flatten=acc++(List.replicate (k+1) its).flatten:=by
   rw[List.replicate_succ,List.flatten_cons,List.append_assoc]
  rw[<-e2,<-ED its k (acc++its),<-e,List.replicate_succ,List.foldl_cons]
section
variable{X:Cx}{af:List (Addr×Obj)}{σ:St}{H:Hp}{s:Shared}{l b:Addr}{xs ys zs:List V}
theorem Inv.lset{its its':List Value}{n:Nat}{f:Array Value->Array Value}{t':Nat}(I:Inv X af σ H s)(hH:H l=some (.lst xs))
  (e:s.heap.get? l=some { cls:=.type "list",data:=.seq its.toArray n }) (hf:f its.toArray=its'.toArray) (hv:Vals ys its') (hz:ys.length<=sizeLine) :
  Inv X af σ (upd H l (.lst ys)) { s with heap:=s.heap.update l (Obj.mapSeq f),toks:=t' } :=by
 have q:=PySem.IsL.update e f;rw[hf]at q;refine I.write (x:=l) (e:=l) (by rw[hH];exact trivial) (.inl rfl) (λb' u hb hu=>(Heap.get?_update_other s.heap (Obj.mapSeq f) (Ne.symm hb)).trans hu) ⟨_,q⟩ ?_;exact⟨hz,its',_,hv,q⟩
theorem Inv.lnew{its:List Value}{t':Nat}(I:Inv X af σ H s)(hv:Vals ys its)(hz:ys.length<=sizeLine) :
  Inv X af σ (upd H s.heap.objs.size (.lst ys)) { s with heap:=s.heap.push { cls:=.type "list",data:=.seq its.toArray },toks:=t' } :=
 I.laid (λ_ _ q=>gP _ q) gC ⟨hz,its,0,hv,hU _ rfl⟩
theorem Inv.fresh(I:Inv X af σ H s):H s.heap.objs.size=none:=I.hok.fresh gC 
theorem Inv.lstM(I:Inv X af σ H s)(hH:H l=some (.lst xs)):xs.length<=sizeLine/\∃(its:List Value) (n:Nat),Vals xs its/\xs.length=its.length/\s.heap.get? l=some { cls:=.type "list",data:=.seq its.toArray n } :=by
 obtain⟨z,its,n,r,e⟩:=I.hok l _ hH;exact⟨z,its,n,r,r.length,e⟩
theorem IL{n:Nat}(h:n<=sizeLine):Builtin.List.listTooLong n=false:=by
 unfold Builtin.List.listTooLong;exact mR (by lia)
end
section
variable{X:Cx}
def rAppend:V->List V->Hp->VK->Prop:=λx vs H Q=>∃l xs y,x=.ref l/\vs=[y]/\H l=some (.lst xs)/\xs.length<sizeLine/\Q .non (upd H l (.lst (xs++[y])))
theorem qP:MtM X "list.append" rAppend:=by
 intro af s σ H x vs v us Q I rx rv h;obtain⟨l,xs,y,rfl,rfl,hH,hz,q⟩:=h;cases rx;obtain⟨u,rfl,ru⟩:=rv.one;obtain⟨z,its,n,r,hl,e⟩:=I.lstM hH;refine call_meets F.slot_list_append ⟨_,e,rfl⟩ F.entry_list_append (F.args_list_append_2 _ _) (PySem.list_append l its.toArray n u (by rw[mF];lia)) ⟨e, ?_⟩;refine⟨.non,_,I.lset (its':=its++[u]) hH e (by simp) (r.append (.cons ru .nil)) ?_,rfl,q⟩;rw[List.length_append,List.length_singleton]
 lia
def rExtend:V->List V->Hp->VK->Prop:=λx vs H Q=>∃l b xs zs,x=.ref l/\vs=[.ref b]/\H l=some (.lst xs)/\H b=some (.lst zs)/\xs.length+zs.length<=sizeLine/\Q .non (upd H l (.lst (xs++zs)))
theorem mt_extend:MtM X "list.extend" rExtend:=by
 intro af s σ H x vs v us Q I rx rv h;obtain⟨l,b,xs,zs,rfl,rfl,hH,hB,hz,q⟩:=h;cases rx;obtain⟨u,rfl,ru⟩:=rv.one;cases ru;obtain⟨z,its,n,r,hl,e⟩:=I.lstM hH;obtain⟨z2,its2,n2,r2,hl2,e2⟩:=I.lstM hB;have hsz:its.toArray.size+its2.toArray.size<=sizeLine:=by rw[mF,mF];lia
 have hlong:¬(!its.toArray.isEmpty&&Builtin.List.listTooLong (its.toArray.size+its2.toArray.size))=true:=by
  rw[IL hsz,Bool.and_false];exact hW
 refine call_meets F.slot_list_extend ⟨_,e,rfl⟩ F.entry_list_extend (F.args_list_extend_2 _ _)
  (AutoSeq1.list_extend_list_list_0 l its.toArray n b its2.toArray n2 hlong (by rw[mF];lia) (by lia)) ⟨e,e2, ?_⟩
 refine⟨.non,_,I.lset (its':=its++its2) hH e (by simp) (r.append r2) ?_,rfl,q⟩;rw[List.length_append]
 lia
def rCat:R2:=λx y H Q=>∃l b xs zs,x=.ref l/\y=.ref b/\H l=some (.lst xs)/\H b=some (.lst zs)/\xs.length+zs.length<=sizeLine/\∀p,H p=none->Q (.ref p) (upd H p (.lst (xs++zs)))
theorem KO:OpR X (binaryOp .Add) rCat:=by
 intro af s σ H x y v u Q I rx ry h;obtain⟨l,b,xs,zs,rfl,rfl,hH,hB,hz,q⟩:=h;cases rx;cases ry;obtain⟨z,its,n,r,hl,e⟩:=I.lstM hH;obtain⟨z2,its2,n2,r2,hl2,e2⟩:=I.lstM hB;refine PySem.P.add_list e e2 ?_ (by rw[mF,mF];lia);have ea:its.toArray++its2.toArray=(its++its2).toArray:=by simp
 rw[ea];exact⟨.ref _,_,I.lnew (t':=s.toks) (r.append r2) (by rw[List.length_append];lia),rfl,q _ I.fresh⟩
def rRep:R2:=λx y H Q=>∃l k xs,x=.ref l/\y=.int k/\H l=some (.lst xs)/\-(2^63)<=k/\k<2^63/\xs.length*k.toNat<=sizeLine/\
 ∀p,H p=none->Q (.ref p) (upd H p (.lst (List.replicate k.toNat xs).flatten))
theorem XV{α:Type}(xs:List α)(k:Nat):(List.replicate k xs).flatten.length=k*xs.length:=by
 induction k with
 | zero=>simp
 | succ k ih=>rw[List.replicate_succ,List.flatten_cons,List.length_append,ih,Nat.succ_mul,Nat.add_comm]
theorem KM:OpR X (binaryOp .Mult) rRep:=by
 intro af s σ H x y v u Q I rx ry h;obtain⟨l,k,xs,rfl,rfl,hH,h1,h2,hz,q⟩:=h;cases rx;obtain⟨t,rfl⟩:=ry;obtain⟨z,its,n,r,hl,e⟩:=I.lstM hH;have hlen:its.toArray.size*k.toNat<=sizeLine:=by rw[mF,<-hl];exact hz
 have hcap:¬its.toArray.size*k.toNat>(2^63-1)/8:=by
  have:(sizeLine:Nat)<=(2^63-1)/8:=by decide
  lia
 have hfit:¬(!Builtin.List.listFitsIndex k)=true:=by
  rw[fitsIndex_both h1 h2];exact hW
 have hlong:¬Builtin.List.listTooLong (its.toArray.size*k.toNat)=true:=by
  rw[IL hlen];exact hW
 have hnew:List.foldl (λx1 x2=>x1++x2) #[] (List.replicate (if its.toArray.isEmpty=true then 0 else k.toNat) its.toArray)=(List.replicate k.toNat its).flatten.toArray:=by
  have f0:∀m:Nat,List.foldl (λx1 x2=>x1++x2) #[] (List.replicate m its.toArray)=(List.replicate m its).flatten.toArray:=λm=>by
   have:=ED its m [];rw[List.nil_append]at this;exact this
  rw[f0];cases its with
  | nil=>simp
  | cons a r'=>rw[nU (by simp)]
 refine wpAny_binaryOp_repeat_ref (T:="list") (U:="int") (by decide) ⟨_,e,rfl⟩ (λs'=>typeIs_int s' k t) noFill_list_mul F.fills_int_mul F.slot_int_rmul repeat_list F.slot_int_index.lookup
  (call_meets F.slot_int_rmul (typeIs_int s k t) F.entry_int_rmul (F.args_int_rmul_2 _ _) (int___rmul___int_list k t l its.toArray n)
   ⟨e,rfl,⟨_,e,rfl⟩,call_meets F.slot_list_mul ⟨_,e,rfl⟩ F.entry_list_mul (F.args_list_mul_2 _ _) (AutoListH.list___mul___list_int_3 l its.toArray n k t hfit hcap hlong) ⟨e, ?_⟩⟩)
 rw[hnew];exact⟨.ref _,_,I.lnew (t':=s.toks) (r.rep k.toNat) (by rw[XV,Nat.mul_comm];exact hz),rfl,q _ I.fresh⟩
end
section
variable{prog:Program}{w:World}{A:Around}{E:Value->Shared->Prop}{s:Shared}
set_option maxRecDepth 100000 in
end
section
variable{X:Cx}
end
end L2
namespace Att
open PySem PySem.W PySem.Calls PyProof.Rows
theorem AE{P:Params}{h:Heap} :∀(ns:List Int) (vs:List Value),WellAll P h vs (ns.map WData.int)->IntsAre vs ns:=by
 intro ns;induction ns with
 | nil=>
  intro vs w;rw[List.map_nil]at w;cases w;exact .nil
 | cons n ns ih=>
  intro vs w;rw[mX]at w;cases w with
  | cons a b=>
   cases a;exact .cons _ _ (ih _ b)
theorem PN{l:OpenLaw}{n:Nat}(hn:l.most=some n){P:Params}{h:Heap}{args:List WData}{vals:List Value}
  (hpre:l.row.toRowW.claim.pre args=true) (hwl:WellAll P h vals args) :
  ∃a vs ns,vals=[Value.ref a]/\args=[WData.list (ns.map WData.int)]/\h.get? a=some { cls:=.type "list",data:=.seq vs.toArray }/\IntsAre vs ns/\ns.length<=n:=by
 have hsh:WShape.hasAll [] args [.list .int]=true:=(pre_splitW hpre).1;have hc:l.pre.holds [] { args:=args } = true:=(pre_splitW hpre).2;obtain⟨d,r,rfl,h1,h2⟩:=hasAllW_cons hsh;obtain rfl:=hasAllW_nil h2;obtain⟨xs,rfl,h3⟩:=hasW_list h1;obtain⟨ns,rfl⟩:=items_int h3;have hlen:ns.length<=n:=by
  unfold OpenLaw.pre at hc;have h4:(WTm.not (.lt (.lit (.int (n:Int))) (.len (.arg 0)))).holds [] { args:=[.list (ns.map .int)] } = true:=by
   have h4:=(holds_andW hc).1;rw[hn]at h4;exact h4
  have h5:=condW_of h4 (w_not (w_lt w_lit (w_len_list (w_arg rfl))));rw[mQ]at h5;refine Nat.le_of_not_lt λq=>?_;have q':(n:Int)<((ns.length:Nat):Int):=by lia
  first
   | (rw[mT q']at h5;exact absurd h5 (by decide))
   | (simp at h5;lia)
 cases hwl with
 | cons w1 w2=>
  cases w2;cases w1 with
  | list ho hall=>exact⟨_,_,ns,rfl,rfl,ho,AE ns _ hall,hlen⟩
theorem PV(l:OpenLaw)(args:List WData):l.row.toRowW.claim.post args (.bool true) args=true:=
 postW_of (r:=l.row.toRowW) (X:=(true==true))
  (show WShape.has [] (.bool true) .bool=true by first | rfl | decide | simp [WShape.has,WShape.arms,WShape.armsAll])
  (show(WTm.eq .res (.lit (.bool true))).value [] { args:=args,res:=some (.bool true),after:=args } = some (.bool (true==true))from w_eq_bool (w_res rfl) w_lit) rfl
theorem attach_call{l:OpenLaw}{n:Nat}{q:Program}{loose:List Str}{XP:(Str->Option Value)->Heap->Prop}{YP:World->Heap->Prop}{d:DefRec}
  (hn:l.most=some n) (hdf:d.params.defaults=[])
  (call:∀(w:World) (s₀ s₁:Shared) (mg mb:Str->Option Value) (fa:Addr) (o:Obj) (pm cd doc:Value) (a:Addr) (vs:List Value) (ns:List Int),
   Ground q loose [] XP w s₀ mg mb s₁.heap->YP w s₁.heap->
   s₁.heap.get? fa=some o->o.data=.func (docDef d.name d.params d.body d.scope pm cd doc)->s₁.heap.CodeRec cd d.name->mg d.name=some (.ref fa)->
   s₁.heap.get? a=some { cls:=.type "list",data:=.seq vs.toArray }->IntsAre vs ns->ns.length<=n->s₁.gens = #[]->
   codeAny (model l.prog w) callerA (.call (.ref fa) ⟨[.ref a],[]⟩) (λr s'=>r=.ok (.ret (.bool true))/\OldK s₁.heap s'.heap/\s'.os=s₁.os/\AllBare s'.gens) s₁) :
  WalkO q loose XP YP l.row.toRowW d [] (λf vs=>PySem.call f vs):=by
 intro w s₀ s₁ mg mb G Y fa o pm cd doc dV kV ho hd hcd hD hmg hg args vals as hpre hlay hrd hwl hlo;obtain rfl:dV=.none:=Dflts.none hD hdf;obtain rfl:kV=.none:=Dflts.noKw hD;obtain⟨a,vs,ns,rfl,rfl,hobj,hints,hlen⟩:=PN hn hpre hwl;refine enter_call (codeAny_mono (call w s₀ s₁ mg mb fa o pm cd doc a vs ns G Y ho (fd_plain hd) hcd hmg hobj hints hlen hg) λr s' hq=>?_);obtain⟨rfl,h2,h3,h4⟩:=hq;exact⟨.inl ⟨.bool true,.bool true,[],rfl,λ_=>rfl,.bool true,PV l _,λ_=>⟨List.Pairwise.nil,λ_ hm=>(nomatch hm)⟩⟩,h2,h3,h4⟩
section
variable{prog:Program}{w:World}{A:Around}{E:Value->Shared->Prop}{s:Shared}{K:Frag}
end
end Att
namespace L2
open PySem PySem.Spec PyProof.Rows
theorem DM:∀{vs:List Value} {ns:List Int},IntsAre vs ns->Vals (ns.map V.int) vs
 | _,_,.nil=>.nil
 | _,_,.cons n t h=>.cons ⟨t,rfl⟩ (DM h)
def Only(H:Hp):Prop:=∀b,H b=none∨∃o xs,H b=some (.frz o (.lst xs))
theorem UG{P:Program}{w:World}{K:nW}{mg mb:Str->Option Value}{CX:CXT}{k:Nat}{fa a:Addr}{fd:FuncData}{x:Str}{sp:Sp}{s₁:Shared}{vs:List Value}{ns:List Int}
  (KX:K.In s₁.heap) (hns:s₁.heap.Ns mainGlobals mg) (hb:s₁.heap.Ns builtinsNs mb) (hbb:∀x:Str,x≠"__name__"->mb x=bootBuiltins x) (hlim:s₁.heap.NoLimit) (hg:s₁.gens = #[])
  (ha:s₁.heap.get? a=some { cls:=.type "list",data:=.seq vs.toArray }) (hi:IntsAre vs ns) (hl:ns.length<=sizeLine) (hr:Room k callerA)
  (F:∀base:Heap,K.In base->base.Ns mainGlobals mg->FnOk P w K mg base CX k fa fd [x] sp) (hbind:∀(s:Shared) (u:Value),BindsTo s fd ⟨[u],[]⟩ [(x,u)])
  (hsp:∀H:Hp,Only H->SqL K H a (ns.map V.int)->sp [.ref a] H (λv _=>v=.bl true) λ_ _ _=>False)
  (hCX:∀H e s',CX [] H s₁ (λ_ _ _=>False) e s'->False) :
  codeAny (model P w) callerA (.call (.ref fa) ⟨[.ref a],[]⟩) (λr s'=>r=.ok (.ret (.bool true))/\OldK s₁.heap s'.heap/\s'.os=s₁.os/\AllBare s'.gens) s₁:=by
 have rv:=DM hi;have lenV:=hi.length;have core:∀H:Hp,Only H->SqL K H a (ns.map V.int)->HOk P w H s₁.heap->(∀b,H b≠none->b=a)->(H a≠none->K.lookup a=none)->
   codeAny (model P w) callerA (.call (.ref fa) ⟨[.ref a],[]⟩) (λr s'=>r=.ok (.ret (.bool true))/\OldK s₁.heap s'.heap/\s'.os=s₁.os/\AllBare s'.gens) s₁:=by
  intro H hO hS hok hA hK;have base_of:∀{b:Addr} {o:Obj},s₁.heap.get? b=some o->H b=none->(GJ s₁.heap H).get? b=some o:=λe n=>UO e n;have noA:∀{b:Addr} {o:Obj} {es:Array DictEntry} {ep:Nat},s₁.heap.get? b=some o->o.data=.dict es ep->H b=none:=fun {b o es ep} e d=>by
   cases q:H b with
   | none=>rfl
   | some u=>
    have e':b=a:=hA b (by rw[q];simp);subst e';rw[ha]at e;cases e;have d':Data.seq vs.toArray _=Data.dict es ep:=d;cases d'
  have nsK:∀{b:Addr} {m:Str->Option Value},s₁.heap.Ns b m->(GJ s₁.heap H).Ns b m:=fun {b m} ⟨o,es,ep,e,d,r⟩=>⟨o,es,ep,base_of e (noA e d),d,r⟩;have hKb:K.In (GJ s₁.heap H):=λb o e=>base_of (KX b o e) (by
   cases q:H b with
   | none=>rfl
   | some u=>
    have e':b=a:=hA b (by rw[q];simp);subst e';rw[hK (by rw[q];simp)]at e;cases e)
  have hM:Mod K mg (GJ s₁.heap H):=⟨hKb,nsK hns,⟨mb,nsK hb,hbb⟩,let ⟨mc,h1,h2⟩:=hlim;⟨mc,nsK h1,h2⟩⟩;have e0:Env0 P w K mg (GJ s₁.heap H) callerA [] s₁ H:=⟨rfl,hM,λb o e=>XH e,nM (QQ _ _),trivial,λb hb=>absurd (show b∈([]:List Addr)from hb) (by simp),hok,.of_eq hg⟩;refine codeAny_mono ((F _ hKb (nsK hns)).run callerA [] s₁ H ⟨[.ref a],[]⟩ [.ref a] [.ref a] _ _ hr e0 (hbind s₁ (.ref a)) (.cons rfl .nil) (hsp H hO hS)) λr s' h=>?_;cases r with
  | error e=>exact(hCX H e s' h).elim
  | ok fl=>
   cases fl with
   | next=>exact False.elim h
   | brk=>exact False.elim h
   | cont=>exact False.elim h
   | ret u=>
    obtain⟨v,H',os,bare,un,hok',r',q⟩:=h;have q':v=.bl true:=q;subst q';obtain rfl:u=Value.bool true:=r';refine⟨rfl,OldK.of_keep λb o e=>?_,os,bare⟩;cases q:H b with
    | none=>exact un.keep b o e q (by intro z;exact absurd (show b∈([]:List Addr)from z) (by simp)) (by simp)
    | some u=>
     rcases hO b with z | ⟨ob,xs,z⟩
     ·rw[q]at z;cases z
     ·have z2:=un.frzs b ob _ z;obtain⟨e1,_⟩:=hok b _ z;obtain⟨e2,_⟩:=hok' b _ z2;rw[e]at e1;cases e1;exact e2
 cases hk:K.lookup a with
 | some o=>
  have e:=KX a o hk;rw[ha]at e;cases e;refine core (λ_=>none) (λ_=>.inl rfl) (.inr ⟨_,vs.toArray,_,hk,rfl,rfl,rfl,by rw[mF,lenV];exact hl,by simpa using rv⟩) (λb u z=>by have z':(none:Option HO)=some u:=z;cases z') (λb z=>absurd rfl z) λz=>absurd rfl z
 | none=>
  refine core (λb=>if b=a then some (.frz { cls:=.type "list",data:=.seq vs.toArray } (.lst (ns.map V.int)))else none) (λb=>?_) (.inl (.inr ⟨{ cls:=.type "list",data:=.seq vs.toArray },nV rfl⟩)) (λb u z=>?_) (λb z=>?_) λ_=>hk
  ·by_cases hb:b=a
   ·exact .inr ⟨_,_,nV hb⟩
   ·exact .inl (nU hb)
  ·by_cases hb:b=a
   ·have z':=(nV hb).symm.trans z;cases z';subst hb;exact⟨ha,by rw[mQ];exact hl,vs,_,rv,ha⟩
   ·have z':=(nU hb).symm.trans z;cases z'
  ·by_cases hb:b=a
   ·exact hb
   ·exact absurd (nU hb) z
theorem VT{l:PySem.W.OpenLaw}{n k:Nat}{q:Program}{loose:List Str}{XP:(Str->Option Value)->Heap->Prop}{YP:World->Heap->Prop}{d:DefRec}{K:Params->nW}{CX:World->CXT}{sp:World->Sp}{x:Str}
  (hn:l.most=some n) (hn2:n<=sizeLine) (hdf:d.params.defaults=[]) (hr:Room k callerA)
  (hY:∀(w:World) (h:Heap),YP w h->(K w.params).In h)
  (F:∀(w:World) (mg:Str->Option Value) (fa:Addr) (h:Heap),(K w.params).In h->h.Ns mainGlobals mg->mg d.name=some (.ref fa)->
   ∃fd:FuncData,(∀(s:Shared) (u:Value),BindsTo s fd ⟨[u],[]⟩ [(x,u)])/\
    ∀base:Heap,(K w.params).In base->base.Ns mainGlobals mg->FnOk l.prog w (K w.params) mg base (CX w) k fa fd [x] (sp w))
  (hsp:∀(w:World) (H:Hp) (a:Addr) (ns:List Int),ns.length<=n->Only H->SqL (K w.params) H a (ns.map V.int)->sp w [.ref a] H (λv _=>v=.bl true) λ_ _ _=>False)
  (hCX:∀(w:World) (H:Hp) (s:Shared) (e:Value) (s':Shared),CX w [] H s (λ_ _ _=>False) e s'->False) :
  PySem.W.WalkO q loose XP YP l.row.toRowW d [] (λf vs=>PySem.call f vs):=by
 refine Att.attach_call hn hdf λw s₀ s₁ mg mb fa o pm cd doc a vs ns G Y ho hd hcd hmg hobj hints hlen hg=>?_;have KX:=hY w _ Y;obtain⟨fd,hb,hF⟩:=F w mg fa _ KX G.T.g hmg;exact UG KX G.T.g G.T.b G.T.builtins G.T.nolimit hg hobj hints (nG hlen hn2) hr hF hb (λH hO hS=>hsp w H a ns hlen hO hS) λH e s'=>hCX w H s₁ e s'
abbrev CX0:CXT:=λ_ _ _ _ _ _=>False
abbrev E0:XK:=λ_ _ _=>False
theorem kU{X:Cx} :Passes CX0 X E0:=λ_ _ _ _ _ _ _ h=>h.elim
structure Fun(K:nW)(x qual:Str)(st:Stmt)(f:Addr)(fd:FuncData):Prop where
 ex:∃(oc:Value) (od:Option Addr) (kV doc pm:Value) (an:Option Addr) (cdv ct:Value) (osl:Array (Option Value)),
  fd=PySem.W.fnOf x qual (vM st) (vF st) (jJ st) .none kV doc pm an cdv ct/\K.lookup f=some ⟨oc,od,.func fd,osl⟩/\PySem.W.codeIn K cdv qual=true
 kp:PySem.W.keepIn K (.ref f)=true
section
variable{P:Program}{w:World}{K:nW}{mg:Str->Option Value}{base:Heap}
theorem Fun.ok{x qual:Str}{st:Stmt}{f:Addr}{fd:FuncData}{N ps:List Str}{k:Nat}{sp:Sp}(F:Fun K x qual st f fd)(S:FnScope N ps (jJ st))(len:∀vs H Q E,sp vs H Q E->vs.length=ps.length)
  (hbody:∀(cdv:Value) (A:Around) (outer:List Env) (s:Shared) (H:Hp) (vs:List V) (Q:VK) (E:XK),Room k (A.deeper (envOfC qual (jJ st) s.heap.objs.size f cdv))->sp vs H Q E->
   ∃t,PSs (xA CX0 P w K mg base N qual (jJ st) f cdv A outer s H E).nox (vF st) t/\t { nx:=λ_ H'=>Q .non H',rt:=Q } (start N vs) H):FnOk P w K mg base CX0 (k+1) f fd ps sp:=by
 obtain⟨oc,od,kV,doc,pm,an,cdv,ct,osl,rfl,lk,hcd⟩:=F.ex;refine CO lk hcd S len λA outer s H vs Q E hr hsp=>?_;obtain⟨t,h,q⟩:=hbody cdv A outer s H vs Q E hr hsp;exact⟨t,h.nox,q⟩
theorem Fun.binds{x qual:Str}{st:Stmt}{f:Addr}{fd:FuncData}{ps:List Str}(F:Fun K x qual st f fd)
  (h:∀(kV doc pm:Value) (an:Option Addr) (cdv ct:Value) (us:List Value),us.length=ps.length->bindArgs (PySem.W.fnOf x qual (vM st) (vF st) (jJ st) .none kV doc pm an cdv ct) ⟨us,[]⟩=pure (ps.zip us)):Binds K fd ps []:=by
 obtain⟨oc,od,kV,doc,pm,an,cdv,ct,osl,rfl,lk,hcd⟩:=F.ex;exact .all (h kV doc pm an cdv ct)
theorem LG{x qual:Str}{st:Stmt}{f:Addr}{oc:Value}{od an:Option Addr}{osl:Array (Option Value)}{kV doc pm cdv ct:Value}(l:K.lookup f=some ⟨oc,od,.func (PySem.W.fnOf x qual (vM st) (vF st) (jJ st) .none kV doc pm an cdv ct),osl⟩)
  (c:PySem.W.codeIn K cdv qual=true) (k:PySem.W.keepIn K (.ref f)=true):Fun K x qual st f (PySem.W.fnOf x qual (vM st) (vF st) (jJ st) .none kV doc pm an cdv ct):=⟨⟨oc,od,kV,doc,pm,an,cdv,ct,osl,rfl,l,c⟩,k⟩
end
section
variable{X:Cx}
theorem pv(i:Nat){x:Str}{pos:Pos}(hN:X.N[i]? = some x:=by rfl)(hv:Vis X.env.scope x:=by first | exact Or.inl rfl | exact Or.inr (Or.inl rfl) | exact Or.inr (Or.inr rfl))(hd:(x==("__debug__" :Str))=false:=by decide)
  (hcd:(x==("__classdict__" :Str))=false:=by decide):PE X (.Name x pos) (kG i):=pe_var hN hv hd hcd
end
theorem qV{A B:Prop}(h:B):if false=true then A else B:=by
 rw[nU hW];exact h
theorem kD{A B:Prop}(h:A):if true=true then A else B:=by
 rw[nV rfl];exact h
theorem uE{c A B:Prop} [Decidable c](h1:c->A)(h2:¬c->B):if c then A else B:=by
 by_cases h:c
 ·rw[nV h];exact h1 h
 ·rw[nU h];exact h2 h
def Same(H H':Hp):Prop:=∀b o,H b=some o->H' b=some o
theorem Same.refl(H:Hp):Same H H:=λ_ _ h=>h
theorem Same.trans{H H1 H2:Hp}(a:Same H H1)(b:Same H1 H2):Same H H2:=λc o h=>b c o (a c o h)
theorem Same.free{H H':Hp}(e:Same H H'){l:Addr}(h:H' l=Option.none):H l=Option.none:=by
 cases q:H l with
 | none=>rfl
 | some o=>
  rw[e l o q]at h;cases h
end L2
namespace LwM
theorem JE(a b:Int):Int.gcd b (a%b)=Int.gcd a b:=by
 rw[Int.emod_def,Int.mul_comm b,Int.gcd_sub_mul_right_right,Int.gcd_comm]
theorem AZ(a b:Int)(h:0<b):(1:Int)<=(Int.gcd a b:Int):=by
 have:0<Int.gcd a b:=Int.gcd_pos_of_ne_zero_right _ (by lia)
 lia
theorem gcd_le(a b:Int)(h:0<b):(Int.gcd a b:Int)<=b:=Int.le_of_dvd h (Int.gcd_dvd_right a b)
theorem CP(t g:Int)(h:1<=g):(t/g).natAbs<=t.natAbs:=by
 rcases Int.lt_or_le t 0 with n | n
 ·have h1:t/g<0:=Int.ediv_neg_of_neg_of_pos n (by lia);have h2:t<=t/g:=by
   rw[Int.le_ediv_iff_mul_le (by lia)];have:=Int.mul_le_mul_of_nonpos_left (a:=t) (b:=g) (c:=1) (by lia) h
   lia
  lia
 ·have h1:0<=t/g:=Int.ediv_nonneg n (by lia);have h2:t/g<=t:=Int.ediv_le_self g n
  lia
theorem log2_lt{n:Nat}{k:Nat}(hk:0<k)(h:n<2^k):n.log2<k:=by
 by_cases e:n=0
 ·subst e;simpa using hk
 ·exact(Nat.log2_lt e).mpr h
end LwM
namespace Lw
open PySem PySem.Spec PyProof.Rows L2
inductive Kd where
 | non | bl | int | str | lst | tup
 deriving DecidableEq
def Kd.ty:Kd->String
 | .non=>"NoneType" | .bl=>"bool" | .int=>"int" | .str=>"str" | .lst=>"list" | .tup=>"tuple"
inductive KdOf(H:Hp):V->Kd->Prop where
 | non:KdOf H .non .non
 | bl (b:Bool):KdOf H (.bl b) .bl
 | int (i:Int):KdOf H (.int i) .int
 | str (x:Str):KdOf H (.str x) .str
 | lst {a:Addr} {xs:List V} (e:H a=some (.lst xs)):KdOf H (.ref a) .lst
 | tup {a:Addr} {xs:List V} (e:H a=some (.tup xs)):KdOf H (.ref a) .tup
theorem KdOf.ty{K:nW}{H:Hp}{v:V}{k:Kd}(h:KdOf H v k):TyOf K H v (.type k.ty):=by
 cases h with
 | non=>exact .non
 | bl b=>exact .bl b
 | int i=>exact .int i
 | str x=>exact .str x
 | lst e=>exact .lst e
 | tup e=>exact .tup e
def Kd.isInt:Kd->Bool
 | .int=>true | .bl=>true | _=>false
def Kd.isBool:Kd->Bool
 | .bl=>true | _=>false
def Kd.isTup:Kd->Bool
 | .tup=>true | _=>false
def Isi(T:String)(f:Kd->Bool):Prop:=∀(K:nW) (k:Kd),PySem.W.kitOne K (.type k.ty) (.type T)=some (f k)
theorem GA:Isi "int" Kd.isInt:=λK k=>by cases k<;>rfl
theorem uG:Isi "bool" Kd.isBool:=λK k=>by cases k<;>rfl
theorem uF:Isi "tuple" Kd.isTup:=λK k=>by cases k<;>rfl
section
variable{X:Cx}
def rIsi(T:String)(f:Kd->Bool):List V->Hp->VK->Prop:=λxs H Q=>match xs with
 | [x,y]=>y=.ty T/\∃k,KdOf H x k/\Q (.bl (f k)) H
 | _=>False
theorem VO{T:String}{f:Kd->Bool}(hf:Isi T f):CallR X (.builtin "isinstance") (rIsi T f):=by
 intro af s σ H xs us Q I r h
 match xs,h with
 | [x,y],h=>
  obtain⟨rfl,k,ty,q⟩:=h;obtain⟨u,w',rfl,ru,rw'⟩:=LY r;cases (show w'=Value.type T from rw');exact QO I ru (ty.ty) (hf X.K k) λtk=>⟨.bl (f k),H,I.tok tk,rfl,q⟩
theorem xD{T:String}{f:Kd->Bool}{x:Str}{e:Expr}{te:TE}{p p2 pos:Pos}(hf:Isi T f)(hm:X.mg "isinstance" = none)(hm2:X.mg x=none)(hb:bootBuiltins x=some (.type T))(he:PE X e te)
  (hg:Gl X "isinstance":=by rfl) (hg2:Gl X x:=by rfl) (hn:x≠"__name__":=by decide) (hd:(x==("__debug__" :Str))=false:=by decide)
  (hs:starEach [e,.Name x p2] X.env=(false,eval e X.env)::starEach [.Name x p2] X.env:=by rfl) (hs2:starEach [.Name x p2] X.env=(false,eval (.Name x p2) X.env)::starEach [] X.env:=by rfl)
  (hpl:(backTo pos (starEach [.Name x p2] X.env)).any (·.1)=false:=by rfl):PE X (.Call (.Name "isinstance" p) [e,.Name x p2] [] pos) (tCB (rIsi T f) (xG te (xG (tC (.ty T)) tNil))):=
 jU (X:=X) (p:=p) (pos:=pos) (VO hf) hg hm boot_isinstance (jA he (jA (NI (v:=.ty T) hg2 hm2 hb rfl hn hd) jD hs2) hs) (by decide) (by decide) hs hpl
theorem CI:∀{vs:List Value} {ns:List Int} {j:Nat} (_:IntsAre vs ns) (h:j<vs.length),∃n t,ns[j]? = some n/\vs[j]=.int n t
 | _,_,_,.nil,h=>absurd h (Nat.not_lt_zero _)
 | _,_,0,.cons n t _,_=>⟨n,t,rfl,rfl⟩
 | _,_,j+1,.cons _ _ r,h=>by
  obtain⟨n,t,e1,e2⟩:=CI (j:=j) r (by simpa using h);exact⟨n,t,by simpa using e1,by simpa using e2⟩
theorem qO:∀{vs:List Value} {ns:List Int},IntsAre vs ns->vs.length=ns.length
 | _,_,.nil=>rfl
 | _,_,.cons _ _ r=>by simp [qO r]
def CDivL(_ j:Int):Prop:=0<j/\j.natAbs<2^8000
theorem BU:OpR X (binaryOp .FloorDiv) (rI CDivL λi j=>.int (i/j)):=opI λi j _ _ _ _ _ hc q=>by
 refine floordiv_int (by have:=hc.1;lia) ?_ (.inl (PyProof.noPylong_of_log2 (hX (LwM.log2_lt (by decide) hc.2) (by decide))));rw[Int.fdiv_eq_ediv_of_nonneg _ (Int.le_of_lt hc.1)];exact q
def CMulL(i j:Int):Prop:=i.natAbs<2^100000/\j.natAbs<2^100000
theorem uA:OpR X (binaryOp .Mult) (rI CMulL λi j=>.int (i*j)):=opI λ_ _ _ _ _ _ _ hc q=>mul_int q (IntMulOk.of_bits (nG (PySem.intBits_le_iff.mpr hc.1) (by decide)) (nG (PySem.intBits_le_iff.mpr hc.2) (by decide)))
end
theorem kQ{c:Bool}{A B:Prop}(h:c=true)(a:A):if c=true then A else B:=by
 rw[nV h];exact a
theorem kW{c:Bool}{A B:Prop}(h:c=false)(b:B):if c=true then A else B:=by
 subst h;exact qV b
theorem zD{t k:TS}{D:Ends}{σ:L2.St}{H:Hp}(J:L2.St->Hp->Prop)(h2:∀σ H,J σ H->k D σ H)(h1:(∀σ H,J σ H->k D σ H)->t { D with nx:=k D } σ H):yA t k D σ H:=h1 h2
def But(p:Addr)(H H':Hp):Prop:=∀c o,H c=some o->c≠p->H' c=some o
theorem But.refl(p:Addr)(H:Hp):But p H H:=λ_ _ h _=>h
theorem But.trans{p:Addr}{H H1 H2:Hp}(a:But p H H1)(b:But p H1 H2):But p H H2:=λc o h n=>b c o (a c o h n) n
theorem But.upd(p:Addr)(H:Hp)(o:HO):But p H (upd H p o):=λc _ h n=>by
 rw[jN n];exact h
theorem But.of{p:Addr}{H H':Hp}(s:Same H H'):But p H H':=λc o h _=>s c o h
theorem jW{H:Hp}{p:Addr}(o:HO)(n:H p=none):Same H (upd H p o):=λb q e=>by
 rw[jN (jY e n)];exact e
theorem fresh{H:Hp}{o:HO}{Q:VK}(h:∀p H',H p=none->Same H H'->H' p=some o->Q (.ref p) H'):∀p,H p=none->Q (.ref p) (upd H p o):=
 λp n=>h p _ n (jW o n) jF
def New(H:Hp)(o:HO)(Q:VK):Prop:=∀p H',H p=none->Same H H'->H' p=some o->Q (.ref p) H'
theorem New.at{H:Hp}{o:HO}{Q:VK}(h:New H o Q){p:Addr}(n:H p=none):Q (.ref p) (upd H p o):=h p _ n (jW o n) jF
section
variable{X:Cx}{es:List Expr}{t:TA}{pos:Pos}
def tTupF(t:TA):TE:=fun σ H Q=>t σ H λxs H1=>xs.length<=sizeLine/\New H1 (.tup xs) Q
def tLstF(t:TA):TE:=fun σ H Q=>t σ H λxs H1=>xs.length<=sizeLine/\New H1 (.lst xs) Q
theorem qD{x1}(h:PA X es t):PE X (.Tuple es x1 pos) (tTupF t):=by
 intro af s σ H Q I hq;refine wpAny_Tuple_spliced (thn (h pos af s σ H _ I hq) λus s1 ⟨xs,H1,I1,r,z,q⟩=>⟨by rw[<-r.length];exact z, ?_⟩);have hf:H1 s1.heap.objs.size=none:=I1.hok.fresh gC ;refine⟨.ref s1.heap.objs.size,upd H1 s1.heap.objs.size (.tup xs),I1.laid (t':=s1.toks) (λb u e=>gP _ e) gC ?_,rfl,q.at hf⟩;exact⟨z,us,r,⟨_,hU _ rfl,rfl,_,rfl⟩,.of (hU _ rfl) rfl⟩
theorem qE(h:PA X es t):PE X (.List es pos) (tLstF t):=by
 intro af s σ H Q I hq;refine wpAny_List_spliced (thn (h pos af s σ H _ I hq) λus s1 ⟨xs,H1,I1,r,z,q⟩=>⟨by rw[<-r.length];exact z, ?_⟩);have hf:H1 s1.heap.objs.size=none:=I1.hok.fresh gC ;refine⟨.ref s1.heap.objs.size,upd H1 s1.heap.objs.size (.lst xs),I1.laid (t':=s1.toks) (λb u e=>gP _ e) gC ?_,rfl,q.at hf⟩;exact⟨z,us,0,r,hU _ rfl⟩
theorem VN{f:Value}{r r':List V->Hp->VK->Prop}(h:CallR X f r)(i:∀xs H Q,r' xs H Q->r xs H Q):CallR X f r':=
 λaf s σ H xs us Q I rv q=>h af s σ H xs us Q I rv (i xs H Q q)
theorem ZY{r r':V->Option Int->Option Int->Hp->VK->Prop}(h:SlR X r)(i:∀x a b H Q,r' x a b H Q->r x a b H Q):SlR X r':=
 λaf s σ H x v vl vu lo hi sl Q I rx hs pl pu q=>h af s σ H x v vl vu lo hi sl Q I rx hs pl pu (i x lo hi H Q q)
def rListF(K:nW):List V->Hp->VK->Prop:=λxs H Q=>∃p ys,xs=[.ref p]/\(SqL K H p ys∨SqT K H p ys)/\New H (.lst ys) Q
theorem LR:CallR X (.type "list") (rListF X.K):=VN GZ λxs H Q ⟨p,ys,e,h,q⟩=>⟨p,ys,e,h,λl n=>q.at n⟩
def rSlLF(K:nW):V->Option Int->Option Int->Hp->VK->Prop:=λx lo hi H Q=>∃a xs,x=.ref a/\SqL K H a xs/\New H (.lst (xF xs lo hi)) Q
theorem SI:SlR X (rSlLF X.K):=ZY AL λx a b H Q ⟨p,xs,e,h1,q⟩=>⟨p,xs,e,h1,λp n=>q.at n⟩
end
section
variable{prog:Program}{w:World}{A:Around}{R:Result->Shared->Prop}{s:Shared}
theorem yV{elt target iter:Expr}{scope:Scope}{pos:Pos}{it acc:Value}{env:Env}(I:Nat->Shared->Prop)
  (turn:∀n s,I n s->wpAny (model prog w) A (pyNext it) (λr s₁=>match r with
   | none=>R (.ok .next) s₁
   | some v=>wpAny (model prog w) A (letOwnedTupleGo target it v) (λ_ s₁'=>wpAny (model prog w) A (assign target env v) (λ_ s₂=>wpAny (model prog w) A (eval elt env) (λx s₃=>
     wpAny (model prog w) A (call (.builtin "list.append") [acc,x]) (λ_ s₄=>∃m,m<n/\I m s₄) (notedBy (model prog w) A env λe s'=>R (.error e) s') s₃)
     (notedBy (model prog w) A env λe s'=>R (.error e) s') s₂) (notedBy (model prog w) A env λe s'=>R (.error e) s') s₁') (notedBy (model prog w) A env λe s'=>R (.error e) s') s₁) (notedBy (model prog w) A env λe s'=>R (.error e) s') s)
  (n:Nat) (h:I n s) :
  codeAny (model prog w) A (.compLoop (.ListComp elt [⟨target,iter,[],0⟩] scope pos) 0 it acc env) R s:=by
 refine codeAny_loop rfl I (λn s hI=>?_) n h;show wpAny _ _ ((compTurn (.ListComp elt [⟨target,iter,[],0⟩] scope pos) 0 it acc env).onRaise (λx=>do noteFrame x env;theTreesLotGoes x)) _ _ s;refine wpAny_noted ?_;rw[compTurn_list1];refine nQ (wpAny_standAt (nQ (nT (turn n s hI) (λr s₁ h₁=>?_) λ_ _ h'=>h')));cases r with
 | none=>exact nS h₁
 | some v=>
  refine nQ (nT h₁ (λ_ s₁' h₁'=>?_) λ_ _ h'=>h');exact nQ (nT h₁' (λ_ s₂ h₂=>nQ (nQ (nT h₂ (λx s₃ h₃=>nQ (nT h₃
   (λ_ s₄ h₄=>nS (nS ⟨rfl,h₄⟩)) λ_ _ h'=>h')) λ_ _ h'=>h'))) λ_ _ h'=>h')
end
def vA(X:Cx)(N:List Str)(scope:Scope)(C:Addr)(fp:List Addr)(s2:Shared)(H2:Hp):Cx:=
 { X with N:=N,s₀:=s2,H₀:=H2,env:=compEnv scope C X.env,outer:=X.stack,stack:=X.stack,ex:=fp,fn:=λ_=>true,pn:=[],xe:=λ_ _=>False }
def CompGo(n:Nat)(J:It)(g:TG)(te:TE)(Q:VK)(p:Addr)(H':Hp):Prop:=
 ∃W:Nat->Nat->List V->Hp->Prop,(∃m,W 0 m [] H')/\∀i m ys H2,W i m ys H2->H2 p=some (.lst ys)/\ys.length<sizeLine/\
  ((J.stop i H2/\Q (.ref p) H2)∨(J.go i H2/\∀x H3,J.yld i H2 x H3->g x (List.replicate n none) H3 fun σ4 H4=>te σ4 H4 λy H5=>H5 p=some (.lst ys)/\∃m',m'<m/\W (i+1) m' (ys++[y]) (upd H5 p (.lst (ys++[y])))))
def YT(n:Nat)(wi:TI)(g:TG)(te:TE):TE:=fun σ H Q=>wi σ H λJ H1=>∀p H',H1 p=none->Same H1 H'->H' p=some (.lst [])->CompGo n J g te Q p H'
section
variable{X:Cx}
theorem QZ{af:List (Addr×Obj)}{σ:L2.St}{H1:Hp}{s2:Shared}{N:List Str}{scope:Scope}{C:Addr}{fp:List Addr}(I:Inv X af σ H1 s2)(hk:scope.kind=.function)
  (hn:∀x,scope.names.lookup x≠some .cell/\scope.names.lookup x≠some .free) (hC:s2.heap.objs.size<=C) (hf:∀b∈fp,FpOk X af H1 b) (hlt:∀b∈fp,b<s2.heap.objs.size):(vA X N scope C fp s2 H1).Ok where
 mod:=I.ok.mod
 kind:=hk
 glob:=I.ok.glob
 blt:=I.ok.blt
 above:=hC
 inj:=λx y c h=>nomatch h
 has:=λx h=>h.elim (λz=>absurd z (hn x).1) (λz=>absurd z (hn x).2)
 cab:=λx c _ h=>nomatch h
 hd:=I.ok.hd
 frames:=I.ok.frames
 stk:=.inl rfl
 exf:=λb hb=>⟨nH (hX (hlt b hb) hC),λx c h=>nomatch h⟩
 bs:=I.bs
 bsz:=nG I.ok.bsz I.sz
 noex:=λb o e hb=>by
  rcases(hf b hb).2.2.2.1 with z | z
  ·exact I.ok.noex b o e z
  ·exact absurd (hX (nF e) (nG I.ok.bsz z)) (mZ _)
 exfs:=λb hb z=>(mY.mp (I.stkSub b z)).elim (hf b hb).2.1 (hf b hb).2.2.1
 funs:=I.stack
 frf:=I.stkFree
theorem WT{N:List Str}{elt target iter:Expr}{scope:Scope}{pos:Pos}{wi:TI}{g:TG}{te:TE}(hc:X.calm=true)
  (hk:scope.kind=.function) (hn:∀x,scope.names.lookup x≠some .cell/\scope.names.lookup x≠some .free) (hfree:∀x∈scope.names,x.2≠.free) (hcell:∀x∈scope.names,x.2≠.cell) (hnames:∀x∈scope.names,x.2=.local->scope.names.lookup x.1=some .local)
  (hi:PI X target iter wi) (hg:∀C fp s2 H2,PG (vA X N scope C fp s2 H2) target g) (he:∀C fp s2 H2,PE (vA X N scope C fp s2 H2) elt te)
  (hs:∀x,foldedSetIterable iter X.env x=pure x:=by intro _;rfl):PE X (.ListComp elt [⟨target,iter,[],0⟩] scope pos) (YT N.length wi g te):=by
 intro af s σ H Q I h;refine wpAny_ListComp hfree hk hnames (thn (hi af s σ H _ I h) λv s1 h1=>thn h1 λitv s2 h2=>?_) hs;obtain⟨it,fp,tn,J,H1,e,I2,T,st2,f2,hR⟩:=h2;subst e;have hlt:∀b∈fp,b<s2.heap.objs.size:=λb hb=>by
  obtain⟨o,ho,_⟩:=T.obj 0 _ st2 b hb;exact nF ho
 refine wpAny_newObj_type (wpAny_newFunctionEnv hcell (by intro y hy;simp at hy) (λh₁ hns₁ hsb₁=>?_) hk);dsimp only at hns₁ hsb₁ ⊢;generalize hHH:s2.heap.push { cls:=.type "list",dict:=none,data:=.seq ([]:List Value).toArray } = HH at hns₁ hsb₁ ⊢;have hCe:HH.objs.size=s2.heap.objs.size+1:=by rw[<-hHH,mW]
 have hDC:s2.heap.objs.size≠HH.objs.size:=by rw[hCe];exact nH (Nat.lt_succ_self _)
 have hCle:s2.heap.objs.size<=HH.objs.size:=by rw[hCe];exact Nat.le_succ _
 have old:∀b o,s2.heap.get? b=some o->h₁.get? b=some o:=λb o e=>hsb₁.extBut b o (by rw[hCe];exact nH (Nat.lt_succ_of_lt (nF e))) (gP _ (hHH▸gP _ e));have hD:h₁.get? s2.heap.objs.size=some { cls:=.type "list",dict:=none,data:=.seq ([]:List Value).toArray } :=hsb₁.extBut _ _ hDC (gP _ (hHH▸hU _ rfl));have nD:H1 s2.heap.objs.size=none:=I2.hok.fresh gC ;obtain⟨W,⟨m0,w0⟩,turn⟩:=hR s2.heap.objs.size _ nD (jW (.lst []) nD) jF;have ok:=QZ (N:=N) (C:=HH.objs.size) I2 hk hn hCle f2 hlt;have I4:Inv (vA X N scope HH.objs.size fp s2 H1) [] (List.replicate N.length none) (upd H1 s2.heap.objs.size (.lst [])) { s2 with heap:=h₁,toks:=s2.toks+([]:List (Str×Value)).length } :=by
  refine⟨ok,rfl,I2.bare,Un.laid old gC nD,⟨_,hns₁,λi x v _ e2 _=>?_⟩,(λx c z=>nomatch z), ?_,(λx c z=>nomatch z),(λp hp=>nomatch hp),I2.hok.laid old gC ?_,by rw[gT];rfl⟩
  ·rw[List.getElem?_replicate]at e2;split at e2<;>cases e2
  ·show(upd H1 s2.heap.objs.size (.lst [])) HH.objs.size=none;rw[jN (Ne.symm hDC)];exact I2.hok.fresh hCle
  ·exact⟨by show 0<=sizeLine;decide,[],0,.nil,hD⟩
 have stat:∀{H':Hp},(∀b∈fp,H' b=none)->∀b∈fp,FpOk (vA X N scope HH.objs.size fp s2 H1) [] H' b:=λhn b hb=>
  ⟨hn b hb,(ok.exf b hb).1,ok.exfs b hb,.inl hb,(ok.exf b hb).2,λp hp=>nomatch hp⟩
 have st4:tn 0 h₁:=T.keep _ _ _ st2 λb _ o e=>old b o e;have fr4:∀b∈fp,(upd H1 s2.heap.objs.size (.lst [])) b=none:=λb hb=>by
  rw[jN (nH (hlt b hb))];exact(f2 b hb).1
 have loop:codeAny (model X.prog X.w) X.A (.compLoop (.ListComp elt [⟨target,iter,[],0⟩] scope pos) 0 (.ref it) (.ref s2.heap.objs.size) (compEnv scope HH.objs.size X.env))
   (λr s'=>∃m,s'.heap.Ns HH.objs.size m/\∀h',Heap.SameBut HH.objs.size s'.heap h'->
      match r with | .ok _=>EP X af σ Q (.ref s2.heap.objs.size) { s' with heap:=h' } | .error x=>wpAny (model X.prog X.w) X.A (passOn "comprehension.variables-let-go" x (compEnv scope HH.objs.size X.env)) (EP X af σ Q) X.xe { s' with heap:=h' })
   { s2 with heap:=h₁,toks:=s2.toks+([]:List (Str×Value)).length } :=by
  refine yV (λn s'=>∃i ys H',Inv (vA X N scope HH.objs.size fp s2 H1) [] (List.replicate N.length none) H' s'/\tn i s'.heap/\(∀b∈fp,H' b=none)/\W i n ys H') ?_ m0 ⟨0,[],_,I4,st4,fr4,w0⟩;rintro n s3 ⟨i,ys,H3,I3,st3,fr3,w3⟩;obtain⟨hp3,hz3,hw⟩:=turn i n ys H3 w3;rcases hw with⟨stop,qn⟩ | ⟨go,step⟩
  ·refine thn (T.done (vA X N scope HH.objs.size fp s2 H1) rfl rfl rfl hc i [] s3 _ H3 _ I3 (stat fr3) st3 stop) λr s4 ⟨hr,I5⟩=>?_;subst hr;obtain⟨m,hm,_⟩:=id I5.loc;refine⟨m,hm,λh' sb=>⟨.ref s2.heap.objs.size,H3, ?_,rfl,qn⟩⟩;have k:∀b o,b≠HH.objs.size->s4.heap.get? b=some o->h'.get? b=some o:=λb o hb e=>sb.extBut b o hb e;have nb:∀b o,s2.heap.get? b=some o->b≠HH.objs.size:=λb o e=>by rw[hCe];exact nH (Nat.lt_succ_of_lt (nF e))
   have U:=I5.base;have fC:H3 HH.objs.size=none:=I5.free;refine I2.call' (ch:=fp) (s':={ s4 with heap:=h' }) I5.os ⟨λb o e n hb hx=>k b o (nb b o e) (U.keep b o e n hb hx),λb o e n hb hx=>?_,U.free,λb o e hx=>?_,U.tups,U.frzs,U.tbls⟩ (λb u e=>?_) I5.bare (λb hb=>⟨(f2 b hb).2.2.2.1,(f2 b hb).2.1,(f2 b hb).2.2.2.2.1,(f2 b hb).2.2.2.2.2⟩)
   ·obtain⟨sl,q⟩:=U.slot b o e n hb hx;exact⟨sl,k b _ (nb b o e) q⟩
   ·obtain⟨o',q⟩:=U.there b o e hx;exact⟨o',k b _ (nb b o e) q⟩
   ·refine(I5.hok b u e).stay (λc v hcc q=>k c v ?_ q) (λ_ q=>q) λ_ _ q=>q;rcases hcc with z | z
    ·rw[z];intro y;rw[y,fC]at e;cases e
    ·intro y;rw[y,fC]at z;cases z
  ·refine nT (T.item (vA X N scope HH.objs.size fp s2 H1) rfl rfl rfl hc i [] s3 _ H3 (λ_ _=>False) I3 (stat fr3) st3 go) (λr s4 ⟨u,hr,h4⟩=>?_) λ_ _ z=>z.elim;subst hr;refine nT h4 (λ_ s5 ⟨x,H5,I5,r5,y5,st5,fr5⟩=>?_) λ_ _ z=>z.elim;have I5':=I5.pinned (stat fr5) (T.obj _ _ st5);refine nT (hg _ _ _ _ _ s5 _ H5 x u _ I5' r5 (step x H5 y5)) (λ_ s6 ⟨σ6,H6,I6,q6⟩=>?_) λ_ _ z=>z.elim;refine nT (he _ _ _ _ _ s6 σ6 H6 _ I6 q6) (λy s7 ⟨yv,H7,I7,r7,q7⟩=>?_) λ_ _ z=>z.elim;obtain⟨e7,m',hm',w7⟩:=q7;refine nT (qP (X:=vA X N scope HH.objs.size fp s2 H1) _ s7 σ6 H7 (.ref s2.heap.objs.size) [yv] (.ref s2.heap.objs.size) [y] (λ_ H8=>H8=upd H7 s2.heap.objs.size (.lst (ys++[yv]))) I7 rfl (.cons r7 .nil) ⟨_,ys,yv,rfl,rfl,e7,hz3,rfl⟩) (λ_ s8 ⟨_,H8,I8,_,q8⟩=>?_) λ_ _ z=>z.elim;subst q8;refine⟨m',hm',i+1,_,_,(I8.unpinned).weak (by rw[gT,I8.len];rfl) (λj v ev=>?_),T.keep _ _ _ st5 λb hb o e=>(I8.pin (b,o) (gS _ (gS _ (vU hb e)))).1,λb hb=>?_,w7⟩
   ·rw[List.getElem?_replicate]at ev;split at ev<;>cases ev
   ·obtain⟨o,e,d⟩:=T.obj _ _ st5 b hb;exact(I8.pin (b,o) (gS _ (gS _ (vU hb e)))).2.1
 exact codeAny_compStart_list loop (T.self _ 0 _ _ _ st4 loop)
end
mutual
inductive DecV(H:Hp):V->PyData->Prop where
 | non:DecV H .non .none
 | bl (b:Bool):DecV H (.bl b) (.bool b)
 | int (i:Int):DecV H (.int i) (.int i)
 | str (x:Str):DecV H (.str x) (.str x)
 | lst {a:Addr} {xs:List V} {ds:List PyData} (e:H a=some (.lst xs)) (h:DecVs H xs ds):DecV H (.ref a) (.list ds)
 | tup {a:Addr} {xs:List V} {ds:List PyData} (e:H a=some (.tup xs)) (h:DecVs H xs ds):DecV H (.ref a) (.tuple ds)
inductive DecVs(H:Hp):List V->List PyData->Prop where
 | nil:DecVs H [] []
 | cons {x:V} {d:PyData} {xs:List V} {ds:List PyData} (h:DecV H x d) (t:DecVs H xs ds):DecVs H (x::xs) (d::ds)
end
section
variable{X:Cx}
mutual
theorem DecV.reads{af:List (Addr×Obj)}{σ:L2.St}{H:Hp}{s:Shared}(I:Inv X af σ H s):∀{x:V} {d:PyData} {u:Value},DecV H x d->RelV x u->∃as,Reads s.heap u d as
 | _,_,_,.non,r=>by cases r;exact⟨_,.none⟩
 | _,_,_,.bl b,r=>by cases r;exact⟨_,.bool b⟩
 | _,_,_,.int i,r=>by obtain⟨t,rfl⟩:=r;exact⟨_,.int i t⟩
 | _,_,_,.str x,r=>by obtain⟨t,rfl⟩:=r;exact⟨_,.str x t⟩
 | _,_,_,.lst e h,r=>by
  cases r;obtain⟨its,rv,⟨o,n,ho,hc,_,hd⟩,_⟩:=I.list (SqL.of e);obtain⟨as,ra⟩:=DecVs.reads I h rv;exact⟨_,.list ho hc hd (by simpa using ra)⟩
 | _,_,_,.tup e h,r=>by
  cases r;obtain⟨its,rv,⟨o,ho,hc,n,hd⟩,_⟩:=I.tuple (SqT.of e);obtain⟨as,ra⟩:=DecVs.reads I h rv;exact⟨_,.tuple ho hc hd (by simpa using ra)⟩
theorem DecVs.reads{af:List (Addr×Obj)}{σ:L2.St}{H:Hp}{s:Shared}(I:Inv X af σ H s):∀{xs:List V} {ds:List PyData} {us:List Value},DecVs H xs ds->Vals xs us->∃as,ReadsAll s.heap us ds as
 | _,_,_,.nil,r=>by cases r;exact⟨_,.nil⟩
 | _,_,_,.cons h t,r=>by
  cases r with
  | cons q r=>
   obtain⟨as,ra⟩:=DecV.reads I h q;obtain⟨bs,rb⟩:=DecVs.reads I t r;exact⟨_,.cons ra rb⟩
end
def DataOk(d:PyData):Prop:=d.canLay0=true/\d.depth<=60
def rEqD:R2:=λx y H Q=>∃da db,DecV H x da/\DecV H y db/\DataOk da/\DataOk db/\Q (.bl (PyData.eqv da db)) H
def rNeD:R2:=λx y H Q=>∃da db,DecV H x da/\DecV H y db/\DataOk da/\DataOk db/\Q (.bl (!PyData.eqv da db)) H
theorem KN(hu:X.A.units+64<cLine):OpR X (compareOp .Eq) rEqD:=by
 intro af s σ H x y v u Q I rx ry h;obtain⟨da,db,d1,d2,o1,o2,q⟩:=h;obtain⟨as,ra⟩:=d1.reads I rx;obtain⟨bs,rb⟩:=d2.reads I ry;exact SeqAt.rcAt_reads ra rb o1.1 o2.1 (by have:=o1.2;lia) _ _ _ _ ⟨.bl _,H,I,rfl,q⟩
theorem op_neD(hu:X.A.units+64<cLine):OpR X (compareOp .NotEq) rNeD:=by
 intro af s σ H x y v u Q I rx ry h;obtain⟨da,db,d1,d2,o1,o2,q⟩:=h;obtain⟨as,ra⟩:=d1.reads I rx;obtain⟨bs,rb⟩:=d2.reads I ry;exact SeqAt.rcNeAt_reads ra rb o1.1 o2.1 (by have:=o1.2;lia) _ _ _ _ ⟨.bl _,H,I,rfl,q⟩
def rAll(K:nW):List V->Hp->VK->Prop:=λxs H Q=>∃(a:Addr) (bs:List Bool),xs=[.ref a]/\SqL K H a (bs.map V.bl)/\Q (.bl (bs.all id)) H
theorem OR:∀{bs:List Bool} {us:List Value} {i:Nat} {v:Value},Vals (bs.map V.bl) us->us[i]? = some v->v=.bool (bs.getD i true)
 | [],_,_,_,.nil,e=>by simp at e
 | b::_,_,0,_,.cons r _,e=>by
  cases r;simp at e;simp [<-e]
 | b::bs,_,i+1,_,.cons _ t,e=>by
  have:=OR (i:=i) t (by simpa using e);simpa using this
theorem RD(bs:List Bool):(List.range bs.length).all (λi=>bs.getD i true)=bs.all id:=by
 induction bs with
 | nil=>rfl
 | cons b r ih=>
  rw[mN,List.range_succ_eq_map,List.all_cons,List.all_map,List.all_cons,<-ih]
  rfl
theorem uI(hc:X.calm=true):CallR X (.builtin "all") (rAll X.K):=by
 intro af s σ H xs us Q I r h;obtain⟨a,bs,rfl,hq,q⟩:=h;obtain⟨u,rfl,ru⟩:=vI r;cases ru;obtain⟨its,rv,p,hz⟩:=I.list hq;have hl:=rv.length;rw[mQ]at hl;refine PySem.call_all_walk (wpAny_pyIter_list p.isList ?_);have ha:a<s.heap.objs.size:=by
  obtain⟨o,n,e,_⟩:=p;exact nF e
 refine⟨s.heap.objs.size,_,_,_,_,_,λi=>bs.getD i true,rfl,Walks.list (show X.A.in1.handled=none from I.ok.hd hc) s.heap.objs.size a (nH ha) its.toArray,⟨⟨_,hU _ rfl,rfl,rfl⟩,p.isList.at λo e=>gP _ e⟩, ?_, ?_⟩
 ·intro i v s' Q' E' hv hq';obtain rfl:=OR rv (by simpa using hv);exact wpAny_truthy_bool hq'
 ·intro h' tk k;rw[mF,<-hl,RD];refine⟨.bl _,H,I.kept (t':=tk) (λb o e=>?_),rfl,q⟩;exact k b o (by simp;exact nH (nF e)) (gP _ e)
theorem IE{N:List Str}{elt target iter:Expr}{scope:Scope}{pos:Pos}{wi:TI}{g:TG}{te:TE}(hc:X.calm=true)
  (hk:scope.kind=.function) (hfree:∀x∈scope.names,x.2≠.free) (hcell:∀x∈scope.names,x.2≠.cell) (hnames:∀x∈scope.names,x.2=.local->scope.names.lookup x.1=some .local)
  (hi:PI X target iter wi) (hg:∀C fp s2 H2,PG (vA X N scope C fp s2 H2) target g) (he:∀C fp s2 H2,PE (vA X N scope C fp s2 H2) elt te)
  (hs:∀x,foldedSetIterable iter X.env x=pure x:=by intro _;rfl):PE X (.ListComp elt [⟨target,iter,[],0⟩] scope pos) (YT N.length wi g te):=
 WT hc hk (λx=>⟨λz=>hcell _ (PySem.mem_of_lookup z) rfl,λz=>hfree _ (PySem.mem_of_lookup z) rfl⟩) hfree hcell hnames hi hg he hs
end
def CompW(xs:List V)(Pv:Nat->List V->Hp->Prop)(i m:Nat)(ys:List V)(H:Hp):Prop:=m=xs.length-i/\i<=xs.length/\ys.length=i/\Pv i ys H
theorem xP{xs:List V}{Pv:Nat->List V->Hp->Prop}{i m:Nat}{ys:List V}{x y:V}{H5:Hp}{p:Addr}(hx:xs[i]? = some x)(hm:m=xs.length-i)(hl:ys.length=i)(e:H5 p=some (.lst ys))(h:Pv (i+1) (ys++[y]) (upd H5 p (.lst (ys++[y])))) :
  H5 p=some (.lst ys)/\∃m',m'<m/\CompW xs Pv (i+1) m' (ys++[y]) (upd H5 p (.lst (ys++[y]))):=by
 have hi:i<xs.length:=(gI.mp hx).1;exact⟨e,xs.length-(i+1),by lia,rfl,by lia,by simp [hl],h⟩
section
end
def jV(X:Cx)(N:List Str)(scope:Scope)(cl:List (Str×Addr))(C:Addr)(fp:List Addr)(s2:Shared)(H2:Hp):Cx:=
 { X with N:=N,s₀:=s2,H₀:=H2,env:=compEnvC scope cl C X.env,outer:=X.stack,stack:=X.stack,ex:=fp,fn:=λ_=>false,pn:=[],xe:=λ_ _=>False }
def Keep(σ τ:L2.St):Prop:=∀(i:Nat) (v:V),σ[i]? = some (some v)->τ[i]? = some (some v)
theorem NY{x:Option V}{r:L2.St} :Keep (none::r) (x::r):=λi v h=>by
 cases i with
 | zero=>cases h
 | succ j=>exact h
theorem keep2{x y:Option V}{r:L2.St} :Keep (none::none::r) (x::y::r):=λi v h=>by
 cases i with
 | zero=>cases h
 | succ j=>cases j with
  | zero=>cases h
  | succ k=>exact h
def CompGoF(σ0:L2.St)(J:It)(g:TG)(te:TE)(Q:VK)(p:Addr)(H':Hp):Prop:=
 ∃W:Nat->Nat->List V->Hp->Prop,(∃m,W 0 m [] H')/\∀i m ys H2,W i m ys H2->H2 p=some (.lst ys)/\ys.length<sizeLine/\
  ((J.stop i H2/\Q (.ref p) H2)∨(J.go i H2/\∀x H3,J.yld i H2 x H3->g x σ0 H3 fun σ4 H4=>Keep σ0 σ4/\te σ4 H4 λy H5=>H5 p=some (.lst ys)/\∃m',m'<m/\W (i+1) m' (ys++[y]) (upd H5 p (.lst (ys++[y])))))
def KA(own:Nat)(idx:List Nat)(wi:TI)(g:TG)(te:TE):TE:=fun σ H Q=>wi σ H λJ H1=>∀p H',H1 p=none->Same H1 H'->H' p=some (.lst [])->
 CompGoF (List.replicate own none++idx.map λj=>(σ[j]?).getD none) J g te Q p H'
section
variable{X:Cx}
theorem LN{af:List (Addr×Obj)}{σ:L2.St}{H1:Hp}{s2:Shared}{N:List Str}{scope:Scope}{cl:List (Str×Addr)}{C:Addr}{fp:List Addr}(I:Inv X af σ H1 s2)(hk:scope.kind=.function)
  (hsub:∀x c,cl.lookup x=some c->X.env.cells.lookup x=some c) (hhas:∀x,((relabel scope X.env).names.lookup x=some .cell∨(relabel scope X.env).names.lookup x=some .free)->∃c,cl.lookup x=some c)
  (hC:s2.heap.objs.size<=C) (hf:∀b∈fp,FpOk X af H1 b) (hlt:∀b∈fp,b<s2.heap.objs.size):(jV X N scope cl C fp s2 H1).Ok where
 mod:=I.ok.mod
 kind:=hk
 glob:=I.ok.glob
 blt:=I.ok.blt
 above:=hC
 inj:=λx y c h1 h2=>I.ok.inj x y c (hsub x c h1) (hsub y c h2)
 has:=hhas
 cab:=λx c h _=>by cases h
 hd:=I.ok.hd
 frames:=I.ok.frames
 stk:=.inl rfl
 exf:=λb hb=>⟨nH (hX (hlt b hb) hC),λx c h=>(hf b hb).2.2.2.2.1 x c (hsub x c h)⟩
 bs:=I.bs
 bsz:=nG I.ok.bsz I.sz
 noex:=λb o e hb=>by
  rcases(hf b hb).2.2.2.1 with z | z
  ·exact I.ok.noex b o e z
  ·exact absurd (hX (nF e) (nG I.ok.bsz z)) (mZ _)
 exfs:=λb hb z=>(mY.mp (I.stkSub b z)).elim (hf b hb).2.1 (hf b hb).2.2.1
 funs:=I.stack
 frf:=I.stkFree
structure CmpH(X:Cx)(own:Nat)(idx:List Nat)(N:List Str)(scope:Scope)(cl:List (Str×Addr)):Prop where
 k:scope.kind=.function
 clos:closureFor scope X.env=pure cl
 cell:∀x∈scope.names,x.2≠.cell
 names:∀x∈scope.names,x.2=.local->scope.names.lookup x.1=some .local
 sub:∀x c,cl.lookup x=some c->X.env.cells.lookup x=some c
 has:∀x,((relabel scope X.env).names.lookup x=some .cell∨(relabel scope X.env).names.lookup x=some .free)->∃c,cl.lookup x=some c
 len:N.length=own+idx.length
 at':∀(k j:Nat) (x:Str),idx[k]? = some j->N[own+k]? = some x->X.N[j]? = some x/\X.env.kindOf x=some .cell/\(relabel scope X.env).names.lookup x=some .cell/\X.env.scope.names.lookup x=some .cell
def CGo(Y:Cx)(σ0:L2.St)(J:It)(B:Value->(Shared->Prop)->Shared->Prop)(Qn:Hp->Prop)(H':Hp):Prop:=
 ∃W:Nat->Nat->Hp->Prop,(∃m,W 0 m H')/\∀i m H2,W i m H2->(J.stop i H2/\Qn H2)∨(J.go i H2/\∀x H3,J.yld i H2 x H3->∀pns u s5 K,Inv Y pns σ0 H3 s5->RelV x u->
  (∀s8 σ6 H8 m',Inv Y pns σ6 H8 s8->Keep σ0 σ6->m'<m->W (i+1) m' H8->K s8)->B u K s5)
def LeaveOk(X:Cx)(af:List (Addr×Obj))(σ:L2.St)(use:Option (Value->Sem Unit))(Qc:Value->Shared->Prop)(Qn:Addr->Hp->Prop):Prop:=
 ∀N scope cl C fp s2 H1 σ0 H3 s4,Inv X af σ H1 s2->(∀b∈fp,FpOk X af H1 b)->C=s2.heap.objs.size+1->Inv (jV X N scope cl C fp s2 H1) [] σ0 H3 s4->Qn s2.heap.objs.size H3->
  compPost (model X.prog X.w) X.A X.xe use Qc (.ref s2.heap.objs.size) C (.ok .next) s4
theorem JO{af:List (Addr×Obj)}{σ:L2.St}{N scope cl C fp s2 H1 σ0 H3 s4}(I2:Inv X af σ H1 s2)(f2:∀b∈fp,FpOk X af H1 b)(hC:C=s2.heap.objs.size+1)(I5:Inv (jV X N scope cl C fp s2 H1) [] σ0 H3 s4) :
  (∃m,s4.heap.Ns C m)/\Inv X af σ H3 s4/\(∀b,b<s2.heap.objs.size->b≠C)/\∀σ' s5,Inv X af σ' H3 s5->∀h',(∀b o,b≠C->s5.heap.get? b=some o->h'.get? b=some o)->Inv X af σ' H3 { s5 with heap:=h' } :=by
 have lt:∀b,b<s2.heap.objs.size->b≠C:=λb hb=>by lia
 refine⟨I5.loc.imp λ_ h=>h.1,I2.call' (ch:=fp) (s':=s4) I5.os I5.base I5.hok I5.bare (λb hb=>⟨(f2 b hb).2.2.2.1,(f2 b hb).2.1,(f2 b hb).2.2.2.2.1,(f2 b hb).2.2.2.2.2⟩),lt,fun σ' s5 I6 h' k=>?_⟩;refine I6.turned (it:=C) (t':=s5.toks) k I5.free (Ne.symm (lt _ I2.lt)) (.inr (nG I2.sz (hC▸Nat.le_succ _))) (λx c hc=>?_) (λp hp=>lt _ (nF (I2.pin p hp).1));obtain⟨v,hv⟩:=I2.cell x c hc;exact lt _ hv.lt
theorem KY{af:List (Addr×Obj)}{σ:L2.St}{Q:VK} :LeaveOk X af σ none (EP X af σ Q) (λp H=>Q (.ref p) H):=by
 intro N scope cl C fp s2 H1 σ0 H3 s4 I2 f2 hC I5 qn;obtain⟨⟨m,hm⟩,IX,_,k⟩:=JO I2 f2 hC I5;exact⟨m,hm,λh' sb=>⟨.ref s2.heap.objs.size,H3,k _ _ IX h' (λb o hb e=>sb.extBut b o hb e),rfl,qn⟩⟩
def FlyOk(X:Cx)(af:List (Addr×Obj))(σ:L2.St)(use:Option (Value->Sem Unit))(Qc:Value->Shared->Prop)(F:Hp->Shared->Value->Shared->Prop)(N:List Str)(scope:Scope)(cl:List (Str×Addr)):Prop:=
 ∀C fp s2 H1 pns σ' H4 s4 v s5,Inv X af σ H1 s2->(∀b∈fp,FpOk X af H1 b)->C=s2.heap.objs.size+1->Inv (jV X N scope cl C fp s2 H1) pns σ' H4 s4->F H4 s4 v s5->
  notedBy (model X.prog X.w) X.A (compEnvC scope cl C X.env) (λe s'=>compPost (model X.prog X.w) X.A X.xe use Qc (.ref s2.heap.objs.size) C (.error e) s') v s5
theorem CU{own:Nat}{idx:List Nat}{N:List Str}{scope:Scope}{cl:List (Str×Addr)}(M:CmpH X own idx N scope cl)(hc:X.calm=true){e target iter:Expr}{gs:List Comprehension}{ifs:List Expr}{pos:Pos}{T:String}{data:Data}{u0:HO}{wi:TI}{G:It->Addr->Hp->Prop}
  {B:Env->Addr->(Result->Shared->Prop)->Value->(Shared->Prop)->Shared->Prop} {use:Option (Value->Sem Unit)} {Qc:Value->Shared->Prop} {Qn:Addr->Hp->Prop} {af:List (Addr×Obj)} {s:Shared} {σ:L2.St} {H:Hp} (I:Inv X af σ H s) (hi:PI X target iter wi)
  (h:wi σ H λJ H1=>∀p H',H1 p=none->Same H1 H'->H' p=some u0->G J p H') (hcl:clausesOf e=⟨target,iter,ifs,0⟩::gs) (hs:∀x,foldedSetIterable iter X.env x=pure x) (hd:sizeOk data) (hfr:({ cls:=.type T,dict:=none,data:=data } :Obj).isFreed=false)
  (hnew:∀s2 H1 h,Inv X af σ H1 s2->h.get? s2.heap.objs.size=some { cls:=.type T,dict:=none,data:=data }->ObjOk X.prog X.w (upd H1 s2.heap.objs.size u0) h s2.heap.objs.size u0)
  (hloop:∀{it:Value} {a:Addr} {env:Env} {R:Result->Shared->Prop} {s:Shared} (V:Nat->Shared->Prop),(∀n s,V n s->wpAny (model X.prog X.w) X.A (pyNext it) (λr s₁=>match r with
   | none=>R (.ok .next) s₁
   | some v=>wpAny (model X.prog X.w) X.A (letOwnedTupleGo target it v) (λ_ s₁'=>B env a R v (λs₄=>∃m,m<n/\V m s₄) s₁') (notedBy (model X.prog X.w) X.A env λe s'=>R (.error e) s') s₁) (notedBy (model X.prog X.w) X.A env λe s'=>R (.error e) s') s)->
   ∀n,V n s->codeAny (model X.prog X.w) X.A (.compLoop e 0 it (.ref a) env) R s)
  (hstart:∀{it acc:Value} {env:Env} {R:Result->Shared->Prop} {s:Shared},codeAny (model X.prog X.w) X.A (.compLoop e 0 it acc env) R s->wpAny (model X.prog X.w) X.A (pyIter it) (λit' s'=>codeAny (model X.prog X.w) X.A (.compLoop e 0 it' acc env) R s') (notedBy (model X.prog X.w) X.A env λx s'=>R (.error x) s') s->codeAny (model X.prog X.w) X.A (.compStart e 0 it acc env) R s)
  (F:Hp->Shared->Value->Shared->Prop) (hF:FlyOk X af σ use Qc F N scope cl)
  (hG:∀C fp s2 H2 J p H' R,(∀pns σ' H4 s4 v s5,Inv (jV X N scope cl C fp s2 H2) pns σ' H4 s4->F H4 s4 v s5->notedBy (model X.prog X.w) X.A (compEnvC scope cl C X.env) (λe s'=>R (.error e) s') v s5)->G J p H'->CGo (jV X N scope cl C fp s2 H2) (List.replicate own none++idx.map λj=>(σ[j]?).getD none) J (B (compEnvC scope cl C X.env) p R) (Qn p) H')
  (hL:LeaveOk X af σ use Qc Qn):wpAny (model X.prog X.w) X.A (comprehension e scope X.env pos (newObj (.type T) data) false (eval iter X.env) use) Qc X.xe s:=by
 refine wpAny_comprehension_free hcl hs M.clos M.k M.names (thn (hi af s σ H _ I h) λv s1 h1=>thn h1 λitv s2 h2=>?_);obtain⟨it,fp,tn,J,H1,e,I2,T,st2,f2,hR⟩:=h2;subst e;have hlt:∀b∈fp,b<s2.heap.objs.size:=λb hb=>by
  obtain⟨o,ho,_⟩:=T.obj 0 _ st2 b hb;exact nF ho
 refine wpAny_newObj_type (wpAny_newFunctionEnv M.cell (by intro y hy;simp at hy) (λh₁ hns₁ hsb₁=>?_) M.k) hd;dsimp only at hns₁ hsb₁ ⊢;generalize hHH:s2.heap.push _=HH at hns₁ hsb₁ ⊢;have hCe:HH.objs.size=s2.heap.objs.size+1:=by rw[<-hHH,mW]
 have hDC:s2.heap.objs.size≠HH.objs.size:=by rw[hCe];exact nH (Nat.lt_succ_self _)
 have hCle:s2.heap.objs.size<=HH.objs.size:=by rw[hCe];exact Nat.le_succ _
 have old:∀b o,s2.heap.get? b=some o->h₁.get? b=some o:=λb o e=>hsb₁.extBut b o (by rw[hCe];exact nH (Nat.lt_succ_of_lt (nF e))) (gP _ (hHH▸gP _ e));have hD:=hsb₁.extBut _ _ hDC (gP _ (hHH▸hU _ hfr));have nD:H1 s2.heap.objs.size=none:=I2.hok.fresh gC ;obtain⟨W,⟨m0,w0⟩,turn⟩:=hG HH.objs.size fp s2 H1 J _ _ (compPost (model X.prog X.w) X.A X.xe use Qc (.ref s2.heap.objs.size) HH.objs.size) (λpns σ' H4 s4 v s5 I4 f4=>hF _ _ _ _ _ _ _ _ _ _ I2 f2 hCe I4 f4) (hR s2.heap.objs.size _ nD (jW u0 nD) jF);generalize hσ:(List.replicate own none++idx.map λj=>(σ[j]?).getD none:L2.St)=σ0 at turn;have lσ:σ0.length=N.length:=by rw[<-hσ,List.length_append,gT,mQ,M.len]
 have ok:=LN (N:=N) (cl:=cl) (C:=HH.objs.size) I2 M.k M.sub M.has hCle f2 hlt;have oldC:∀c v,s2.heap.IsCell c v->h₁.IsCell c v:=λc v ⟨o,ho,hd⟩=>⟨o,old c o ho,hd⟩;have I4:Inv (jV X N scope cl HH.objs.size fp s2 H1) [] σ0 (upd H1 s2.heap.objs.size u0) { s2 with heap:=h₁,toks:=s2.toks+([]:List (Str×Value)).length } :=by
  refine⟨ok,rfl,I2.bare,Un.laid old gC nD,⟨_,hns₁,λi x v e1 e2 _=>?_⟩,(λx c z=>?_), ?_,(λx c z=>?_),(λp hp=>nomatch hp),I2.hok.laid old gC (hnew _ _ _ I2 hD),lσ⟩
  ·
   rw[<-hσ]at e2;by_cases hi':i<own
   ·rw[gJ (by rw[gT];exact hi'),List.getElem?_replicate]at e2;split at e2<;>cases e2
   ·obtain⟨k,rfl⟩:∃k,i=own+k:=⟨i-own,by lia⟩;rw[gH (by rw[gT];lia),gT,Nat.add_sub_cancel_left,mE]at e2;cases ej:idx[k]? with
    | none=>rw[ej]at e2;cases e2
    | some j=>
     rw[ej,Option.map_some]at e2;have e2:=Option.some.inj e2;obtain⟨n1,n2,n3,n4⟩:=M.at' k j x ej e1;have e3:σ[j]? = some (some v):=by
      cases q:σ[j]? with
      | none=>rw[q]at e2;cases e2
      | some y=>rw[q,Option.getD_some]at e2;rw[e2]
     obtain⟨m,hm,hl⟩:=I2.loc;obtain⟨u,ru,lk⟩:=hl j x v n1 e3 (.inr (.inl n4));refine⟨u,ru, ?_⟩;rcases lk with⟨kl,_⟩ | ⟨_,c,hcl,hic⟩
     ·rw[n2]at kl;cases kl
     ·obtain⟨c',hc'⟩:=M.has x (.inl n3);have:c'=c:=Option.some.inj ((M.sub x c' hc').symm.trans hcl);subst this;exact .inr ⟨.inl n3,c',hc',oldC _ _ hic⟩
  ·obtain⟨v,hv⟩:=I2.cell x c (M.sub x c z);exact⟨v,oldC _ _ hv⟩
  ·show(upd H1 s2.heap.objs.size u0) HH.objs.size=none;rw[jN (Ne.symm hDC)];exact I2.hok.fresh hCle
  ·obtain⟨v,hv⟩:=I2.cell x c (M.sub x c z);show(upd H1 s2.heap.objs.size u0) c=none;rw[jN (nH hv.lt)];exact I2.freeC x c (M.sub x c z)
 have stat:∀{H':Hp},(∀b∈fp,H' b=none)->∀b∈fp,FpOk (jV X N scope cl HH.objs.size fp s2 H1) [] H' b:=λhn b hb=>
  ⟨hn b hb,(ok.exf b hb).1,ok.exfs b hb,.inl hb,(ok.exf b hb).2,λp hp=>nomatch hp⟩
 have st4:tn 0 h₁:=T.keep _ _ _ st2 λb _ o e=>old b o e;have fr4:∀b∈fp,(upd H1 s2.heap.objs.size u0) b=none:=λb hb=>by
  rw[jN (nH (hlt b hb))];exact(f2 b hb).1
 have loop:=hloop (it:=.ref it) (a:=s2.heap.objs.size) (env:=compEnvC scope cl HH.objs.size X.env) (R:=compPost (model X.prog X.w) X.A X.xe use Qc (.ref s2.heap.objs.size) HH.objs.size) (s:={ s2 with heap:=h₁,toks:=s2.toks+([]:List (Str×Value)).length })
  (λn s'=>∃i H',Inv (jV X N scope cl HH.objs.size fp s2 H1) [] σ0 H' s'/\tn i s'.heap/\(∀b∈fp,H' b=none)/\W i n H') (by
  rintro n s3 ⟨i,H3,I3,st3,fr3,w3⟩;rcases turn i n H3 w3 with⟨stop,qn⟩ | ⟨go,step⟩
  ·refine thn (T.done (jV X N scope cl HH.objs.size fp s2 H1) rfl rfl rfl hc i [] s3 _ H3 _ I3 (stat fr3) st3 stop) λr s4 ⟨hr,I5⟩=>?_;subst hr;exact hL _ _ _ _ _ _ _ _ _ _ I2 f2 hCe I5 qn
  ·refine nT (T.item (jV X N scope cl HH.objs.size fp s2 H1) rfl rfl rfl hc i [] s3 _ H3 (λ_ _=>False) I3 (stat fr3) st3 go) (λr s4 ⟨u,hr,h4⟩=>?_) λ_ _ z=>z.elim;subst hr;refine nT h4 (λ_ s5 ⟨x,H5,I5,r5,y5,st5,fr5⟩=>?_) λ_ _ z=>z.elim;refine step x H5 y5 _ u s5 _ (I5.pinned (stat fr5) (T.obj _ _ st5)) r5 λs8 σ6 H8 m' I8 kp6 hm' w7=>?_;refine⟨m',hm',i+1,_,(I8.unpinned).weak (by rw[lσ,I8.len];rfl) kp6,T.keep _ _ _ st5 λb hb o e=>(I8.pin (b,o) (gS _ (gS _ (vU hb e)))).1,λb hb=>?_,w7⟩;obtain⟨o,e,d⟩:=T.obj _ _ st5 b hb;exact(I8.pin (b,o) (gS _ (gS _ (vU hb e)))).2.1) m0 ⟨0,_,I4,st4,fr4,w0⟩
 exact hstart loop (T.self _ 0 _ _ _ st4 loop)
theorem EI{own:Nat}{idx:List Nat}{N:List Str}{scope:Scope}{cl:List (Str×Addr)}(M:CmpH X own idx N scope cl)(hc:X.calm=true){e target iter:Expr}{gs:List Comprehension}{ifs:List Expr}{pos:Pos}{T:String}{data:Data}{u0:HO}{wi:TI}{G:It->Addr->Hp->Prop}
  {B:Env->Addr->(Result->Shared->Prop)->Value->(Shared->Prop)->Shared->Prop} {use:Option (Value->Sem Unit)} {Qc:Value->Shared->Prop} {Qn:Addr->Hp->Prop} {af:List (Addr×Obj)} {s:Shared} {σ:L2.St} {H:Hp} (I:Inv X af σ H s) (hi:PI X target iter wi)
  (h:wi σ H λJ H1=>∀p H',H1 p=none->Same H1 H'->H' p=some u0->G J p H') (hcl:clausesOf e=⟨target,iter,ifs,0⟩::gs) (hs:∀x,foldedSetIterable iter X.env x=pure x) (hd:sizeOk data) (hfr:({ cls:=.type T,dict:=none,data:=data } :Obj).isFreed=false)
  (hnew:∀s2 H1 h,Inv X af σ H1 s2->h.get? s2.heap.objs.size=some { cls:=.type T,dict:=none,data:=data }->ObjOk X.prog X.w (upd H1 s2.heap.objs.size u0) h s2.heap.objs.size u0)
  (hloop:∀{it:Value} {a:Addr} {env:Env} {R:Result->Shared->Prop} {s:Shared} (V:Nat->Shared->Prop),(∀n s,V n s->wpAny (model X.prog X.w) X.A (pyNext it) (λr s₁=>match r with
   | none=>R (.ok .next) s₁
   | some v=>wpAny (model X.prog X.w) X.A (letOwnedTupleGo target it v) (λ_ s₁'=>B env a R v (λs₄=>∃m,m<n/\V m s₄) s₁') (notedBy (model X.prog X.w) X.A env λe s'=>R (.error e) s') s₁) (notedBy (model X.prog X.w) X.A env λe s'=>R (.error e) s') s)->
   ∀n,V n s->codeAny (model X.prog X.w) X.A (.compLoop e 0 it (.ref a) env) R s)
  (hstart:∀{it acc:Value} {env:Env} {R:Result->Shared->Prop} {s:Shared},codeAny (model X.prog X.w) X.A (.compLoop e 0 it acc env) R s->wpAny (model X.prog X.w) X.A (pyIter it) (λit' s'=>codeAny (model X.prog X.w) X.A (.compLoop e 0 it' acc env) R s') (notedBy (model X.prog X.w) X.A env λx s'=>R (.error x) s') s->codeAny (model X.prog X.w) X.A (.compStart e 0 it acc env) R s)
  (hG:∀C fp s2 H2 J p H' R,G J p H'->CGo (jV X N scope cl C fp s2 H2) (List.replicate own none++idx.map λj=>(σ[j]?).getD none) J (B (compEnvC scope cl C X.env) p R) (Qn p) H')
  (hL:LeaveOk X af σ use Qc Qn):wpAny (model X.prog X.w) X.A (comprehension e scope X.env pos (newObj (.type T) data) false (eval iter X.env) use) Qc X.xe s:=
 CU M hc I hi h hcl hs hd hfr hnew hloop hstart (λ_ _ _ _=>False) (λ_ _ _ _ _ _ _ _ _ _ _ _ _ _ z=>z.elim) (λC fp s2 H2 J p H' R _=>hG C fp s2 H2 J p H' R) hL
theorem FR{af:List (Addr×Obj)}{σ:L2.St}(s2:Shared)(H1:Hp)(h:Heap)(_:Inv X af σ H1 s2)(hD:h.get? s2.heap.objs.size=some { cls:=.type "list",dict:=none,data:=.seq ([]:List Value).toArray }):ObjOk X.prog X.w (upd H1 s2.heap.objs.size (.lst [])) h s2.heap.objs.size (.lst []):=
 ⟨by show 0<=sizeLine;decide,[],0,.nil,hD⟩
abbrev BF(X:Cx)(target elt:Expr)(env:Env)(a:Addr)(R:Result->Shared->Prop)(v:Value)(K:Shared->Prop)(s:Shared):Prop:=
 wpAny (model X.prog X.w) X.A (assign target env v) (λ_ s₂=>wpAny (model X.prog X.w) X.A (eval elt env) (λx s₃=>
  wpAny (model X.prog X.w) X.A (call (.builtin "list.append") [.ref a,x]) (λ_ s₄=>K s₄) (notedBy (model X.prog X.w) X.A env λe s'=>R (.error e) s') s₃)
  (notedBy (model X.prog X.w) X.A env λe s'=>R (.error e) s') s₂) (notedBy (model X.prog X.w) X.A env λe s'=>R (.error e) s') s
theorem cgoF{target elt:Expr}{g:TG}{te:TE}{N:List Str}{scope:Scope}{cl:List (Str×Addr)}(hg:∀C fp s2 H2,PG (jV X N scope cl C fp s2 H2) target g)(he:∀C fp s2 H2,PE (jV X N scope cl C fp s2 H2) elt te){σ0:L2.St}{Q:VK}(C:Addr)(fp:List Addr)(s2:Shared)(H2:Hp)(J:It)(p:Addr)(H':Hp)(R:Result->Shared->Prop)
  (h:CompGoF σ0 J g te Q p H'):CGo (jV X N scope cl C fp s2 H2) σ0 J (BF X target elt (compEnvC scope cl C X.env) p R) (λH=>Q (.ref p) H) H':=by
 obtain⟨W,⟨m0,w0⟩,turn⟩:=h;refine⟨λi m H=>∃ys,W i m ys H,⟨m0,[],w0⟩, ?_⟩;rintro i m H3 ⟨ys,w⟩;obtain⟨hp3,hz3,hw⟩:=turn i m ys H3 w;refine hw.imp id λ⟨go,step⟩=>⟨go,λx H5 y5 pns u s5 K I5 r5 hK=>?_⟩;refine nT (hg _ _ _ _ _ s5 _ H5 x u _ I5 r5 (step x H5 y5)) (λ_ s6 ⟨σ6,H6,I6,kp6,q6⟩=>?_) λ_ _ z=>z.elim;refine nT (he _ _ _ _ _ s6 σ6 H6 _ I6 q6) (λy s7 ⟨yv,H7,I7,r7,e7,m',hm',w7⟩=>?_) λ_ _ z=>z.elim;refine nT (qP (X:=jV X N scope cl C fp s2 H2) _ s7 σ6 H7 (.ref p) [yv] (.ref p) [y] (λ_ H8=>H8=upd H7 p (.lst (ys++[yv]))) I7 rfl (.cons r7 .nil) ⟨_,ys,yv,rfl,rfl,e7,hz3,rfl⟩) (λ_ s8 ⟨_,H8,I8,_,q8⟩=>?_) λ_ _ z=>z.elim;subst q8;exact hK _ _ _ m' I8 kp6 hm' ⟨_,w7⟩
theorem BQ{own:Nat}{idx:List Nat}{N:List Str}{elt target iter:Expr}{scope:Scope}{cl:List (Str×Addr)}{pos:Pos}{wi:TI}{g:TG}{te:TE}(hc:X.calm=true)
  (hk:scope.kind=.function) (hclos:closureFor scope X.env=pure cl) (hcell:∀x∈scope.names,x.2≠.cell) (hnames:∀x∈scope.names,x.2=.local->scope.names.lookup x.1=some .local)
  (hsub:∀x c,cl.lookup x=some c->X.env.cells.lookup x=some c) (hhas:∀x,((relabel scope X.env).names.lookup x=some .cell∨(relabel scope X.env).names.lookup x=some .free)->∃c,cl.lookup x=some c)
  (hlen:N.length=own+idx.length)
  (hidx:∀(k j:Nat) (x:Str),idx[k]? = some j->N[own+k]? = some x->X.N[j]? = some x/\X.env.kindOf x=some .cell/\(relabel scope X.env).names.lookup x=some .cell/\X.env.scope.names.lookup x=some .cell)
  (hi:PI X target iter wi) (hg:∀C fp s2 H2,PG (jV X N scope cl C fp s2 H2) target g) (he:∀C fp s2 H2,PE (jV X N scope cl C fp s2 H2) elt te)
  (hs:∀x,foldedSetIterable iter X.env x=pure x:=by intro _;rfl):PE X (.ListComp elt [⟨target,iter,[],0⟩] scope pos) (KA own idx wi g te):=by
 intro af s σ H Q I h;rw[eval_ListComp];exact EI ⟨hk,hclos,hcell,hnames,hsub,hhas,hlen,hidx⟩ hc I hi h rfl hs (data:=.seq ([]:List Value).toArray) (nO _) rfl FR (B:=BF X target elt) (λV=>yV V) codeAny_compStart_list (cgoF hg he) KY
def hasB(names:List (Str×NameKind))(cl:List (Str×Addr)):Bool:=names.all λy=>match y.2 with
 | .cell=>(cl.lookup y.1).isSome
 | .free=>(cl.lookup y.1).isSome
 | _=>true
theorem CL{names:List (Str×NameKind)}{cl:List (Str×Addr)}(h:hasB names cl=true):∀x,(names.lookup x=some .cell∨names.lookup x=some .free)->∃c,cl.lookup x=some c:=by
 intro x hx;have all:=List.all_eq_true.mp h;rcases hx with hx | hx
 ·have:=all _ (PySem.mem_of_lookup hx);exact Option.isSome_iff_exists.mp this
 ·have:=all _ (PySem.mem_of_lookup hx);exact Option.isSome_iff_exists.mp this
theorem NP{X:Cx}{scope:Scope}{own j0:Nat}{N:List Str}{x0:Str}(h0:N[own]? = some x0)(h:X.N[j0]? = some x0/\X.env.kindOf x0=some .cell/\(relabel scope X.env).names.lookup x0=some .cell/\X.env.scope.names.lookup x0=some .cell) :
  ∀(k j:Nat) (x:Str),[j0][k]? = some j->N[own+k]? = some x->X.N[j]? = some x/\X.env.kindOf x=some .cell/\(relabel scope X.env).names.lookup x=some .cell/\X.env.scope.names.lookup x=some .cell:=by
 intro k j x e1 e2
 match k,e1 with
 | 0,e1=>
  cases e1;rw[nK,h0]at e2;cases e2;exact h
 | k+1,e1=>cases e1
end
theorem GY{J:It}{xs:List V}{σ0:L2.St}{g:TG}{te:TE}{Q:VK}{p:Addr}{H':Hp}(Pv:Nat->List V->Hp->Prop)(hz:xs.length<sizeLine)(h0:Pv 0 [] H')
  (hgo:∀i ys H2,Pv i ys H2->i<xs.length->J.go i H2/\∀x H3,J.yld i H2 x H3->H3=H2/\xs[i]? = some x) (hst:∀ys H2,Pv xs.length ys H2->J.stop xs.length H2) (hl:∀i ys H2,Pv i ys H2->H2 p=some (.lst ys))
  (hs:∀i m ys x H2,xs[i]? = some x->m=xs.length-i->ys.length=i->Pv i ys H2->g x σ0 H2 fun σ4 H4=>Keep σ0 σ4/\te σ4 H4 λy H5=>H5 p=some (.lst ys)/\∃m',m'<m/\CompW xs Pv (i+1) m' (ys++[y]) (upd H5 p (.lst (ys++[y]))))
  (hd:∀ys H2,ys.length=xs.length->Pv xs.length ys H2->Q (.ref p) H2):CompGoF σ0 J g te Q p H':=by
 unfold CompGoF;refine⟨CompW xs Pv,⟨_,rfl,nO _,rfl,h0⟩, ?_⟩;rintro i m ys H2 ⟨hm,hi,hy,hp⟩;refine⟨hl i ys H2 hp,by lia, ?_⟩;by_cases hlt:i<xs.length
 ·obtain⟨g1,g2⟩:=hgo i ys H2 hp hlt;refine .inr ⟨g1,λx H3 y=>?_⟩;obtain⟨e3,z⟩:=g2 x H3 y;subst e3;exact hs i m ys x _ z hm hy hp
 ·have ei:i=xs.length:=by lia
  subst ei;exact .inl ⟨hst ys H2 hp,hd ys H2 hy hp⟩
theorem LO{K:nW}{a:Addr}{xs:List V}{σ0:L2.St}{g:TG}{te:TE}{Q:VK}{p:Addr}{H':Hp}(Pv:Nat->List V->Hp->Prop)(hz:xs.length<sizeLine)(h0:Pv 0 [] H')
  (hl:∀i ys H2,Pv i ys H2->SqL K H2 a xs/\H2 p=some (.lst ys))
  (hs:∀i m ys x H2,xs[i]? = some x->m=xs.length-i->ys.length=i->Pv i ys H2->g x σ0 H2 fun σ4 H4=>Keep σ0 σ4/\te σ4 H4 λy H5=>H5 p=some (.lst ys)/\∃m',m'<m/\CompW xs Pv (i+1) m' (ys++[y]) (upd H5 p (.lst (ys++[y]))))
  (hd:∀ys H2,ys.length=xs.length->Pv xs.length ys H2->Q (.ref p) H2):CompGoF σ0 (Itl K a) g te Q p H':=
 GY Pv hz h0 (λi ys H2 h hi=>⟨⟨xs,xs[i],(hl i ys H2 h).1,by simp [hi]⟩,λx H3 y=>⟨y.1,y.2 xs (hl i ys H2 h).1⟩⟩) (λys H2 h=>⟨xs,(hl _ ys H2 h).1,nN _⟩) (λi ys H2 h=>(hl i ys H2 h).2) hs hd
theorem EH{K:nW}{a:Addr}{xs:List V}{σ0:L2.St}{g:TG}{te:TE}{Q:VK}{p:Addr}{H':Hp}(Pv:Nat->List V->Hp->Prop)(hz:xs.length<sizeLine)(h0:Pv 0 [] H')
  (hl:∀i ys H2,Pv i ys H2->SqT K H2 a xs/\H2 p=some (.lst ys))
  (hs:∀i m ys x H2,xs[i]? = some x->m=xs.length-i->ys.length=i->Pv i ys H2->g x σ0 H2 fun σ4 H4=>Keep σ0 σ4/\te σ4 H4 λy H5=>H5 p=some (.lst ys)/\∃m',m'<m/\CompW xs Pv (i+1) m' (ys++[y]) (upd H5 p (.lst (ys++[y]))))
  (hd:∀ys H2,ys.length=xs.length->Pv xs.length ys H2->Q (.ref p) H2):CompGoF σ0 (Itt K a) g te Q p H':=
 GY Pv hz h0 (λi ys H2 h hi=>⟨⟨xs,xs[i],(hl i ys H2 h).1,by simp [hi]⟩,λx H3 y=>⟨y.1,y.2 xs (hl i ys H2 h).1⟩⟩) (λys H2 h=>⟨xs,(hl _ ys H2 h).1,nN _⟩) (λi ys H2 h=>(hl i ys H2 h).2) hs hd
section
theorem uZ(ns:List Int):∀j,j<=ns.length->preSum (λi=>ns.getD i 0) j=(ns.take j).sum
 | 0,_=>by simp [preSum]
 | j+1,h=>by
  have hj:j<ns.length:=h;show preSum (λi=>ns.getD i 0) j+ns.getD j 0=_;rw[uZ ns j (by lia),List.take_succ_eq_append_getElem hj,List.sum_append,gG,gK hj];simp
end
end Lw
namespace LwT
open PySem PySem.Spec PyProof.Rows L2 Lw
def kC(f:Int->Int->Bool)(g:Nat->Nat->Bool):List Int->List Int->Bool
 | x::xs,y::ys=>if x=y then kC f g xs ys else f x y
 | xs,ys=>g xs.length ys.length
abbrev lexLt:List Int->List Int->Bool:=kC (λi j=>decide (i<j)) (λm n=>decide (m<n))
abbrev lexNe:List Int->List Int->Bool:=kC (λ_ _=>true) (λm n=>m != n)
abbrev CC:List Int->List Int->Bool:=kC (λi j=>decide (j<=i)) (λm n=>decide (n<=m))
theorem vX{f g}{ys:List Int} :kC f g [] ys=g 0 ys.length:=by cases ys<;>rfl
theorem vL{f g}{xs:List Int} :kC f g xs []=g xs.length 0:=by cases xs<;>rfl
theorem lexGe_eq:∀(xs ys:List Int),CC xs ys = !lexLt xs ys
 | [],ys=>by
  show kC _ _ _ _ = !kC _ _ _ _;rw[vX,vX];cases ys<;>simp
 | x::xs,[]=>by
  show kC _ _ _ _ = !kC _ _ _ _;rw[vL,vL];simp
 | x::xs,y::ys=>by
  show(if x=y then CC xs ys else _) = !(if x=y then lexLt xs ys else _);by_cases h:x=y
  ·rw[nV h,nV h];exact lexGe_eq xs ys
  ·rw[nU h,nU h];by_cases h2:x<y
   ·simp [h2,show ¬y<=x by omega]
   ·simp [h2,show y<=x by omega]
theorem lexNe_eq:∀(xs ys:List Int),kC (λ_ _=>true) (λm n=>m != n) xs ys = !decide (xs=ys)
 | [],ys=>by
  rw[vX];cases ys<;>simp
 | x::xs,[]=>by
  rw[vL];simp
 | x::xs,y::ys=>by
  show(if x=y then kC _ _ xs ys else true)=_;by_cases h:x=y
  ·rw[nV h,lexNe_eq xs ys];simp [h]
  ·rw[nU h];simp [h]
theorem FU{f:Int->Int->Bool}{g:Nat->Nat->Bool}{xs ys:List Int}{i:Nat}(h:min xs.length ys.length<=i):kC f g (xs.drop i) (ys.drop i)=g (xs.length-i) (ys.length-i):=by
 by_cases hx:xs.length<=i
 ·rw[gR hx,vX,List.length_drop];rw[show xs.length-i=0 by omega]
 ·have hy:ys.length<=i:=by omega
  rw[gR hy,vL,List.length_drop];rw[show ys.length-i=0 by omega]
theorem xO{vs:List Value}{ns:List Int}(r:IntsAre vs ns){i:Nat}(h:i<vs.length):∃n t,vs[i]=.int n t/\ns.drop i=n::ns.drop (i+1):=by
 obtain⟨n,t,e1,e2⟩:=CI r h;refine⟨n,t,e2, ?_⟩;obtain⟨hi,e⟩:=gI.mp e1;rw[List.drop_eq_getElem_cons hi,e]
section
variable{l b:Addr}{as bs:List Value}{xs ys:List Int}{n n2:Nat}{dd dd2:Option Addr}{sl sl2:Array (Option Value)}
theorem RQ(ra:IntsAre as xs)(rb:IntsAre bs ys) :
  Meets (Builtin.«tuple.__lt__» ⟨[.ref l,.ref b],[]⟩)
   (λ_ R s=>s.heap.get? l=some { cls:=.type "tuple",dict:=dd,data:=.seq as.toArray n,slots:=sl }/\s.heap.get? b=some { cls:=.type "tuple",dict:=dd2,data:=.seq bs.toArray n2,slots:=sl2 }/\
    R (.ok (.ret (.bool (lexLt xs ys)))) s):=
 .of_wp λprog w A R s h=>by
  obtain⟨hp,g,d,tk,os⟩:=s;obtain⟨hl,hb,h⟩:=h;have f2:=AutoSeq1.sub_tuple_tuple;have la:=qO ra;have lb:=qO rb;have hZ:(as.zip bs).length=min as.length bs.length:=by simp
  wp_walk using wpAny_loadPart' hl,wpAny_loadPart' hb,wpAny_forIn_list _ (λrest b s'=>b.1=none/\s'=⟨hp,g,d,tk,os⟩/\∃i,i<=(as.zip bs).length/\rest=(as.zip bs).drop i/\
   R (.ok (.ret (.bool (lexLt (xs.drop i) (ys.drop i))))) ⟨hp,g,d,tk,os⟩) _
  case turn=>
   rintro⟨y,x⟩ rest b s' ⟨hb',rfl,i,hi,hz,hR⟩;have hlt:i<(as.zip bs).length:=by
    rcases Nat.lt_or_ge i (as.zip bs).length with h' | h'
    ·exact h'
    ·rw[gR h']at hz;cases hz
   have h1:i<as.length:=by omega
   have h2:i<bs.length:=by omega
   rw[List.drop_eq_getElem_cons hlt]at hz;injection hz with hyx hrest
   obtain⟨p,t1,e1,d1⟩:=xO ra h1;obtain⟨q,t2,e2,d2⟩:=xO rb h2;have hy:y=.int p t1:=by have:=congrArg Prod.fst hyx;rw[<-e1];simpa using this
   have hx:x=.int q t2:=by have:=congrArg Prod.snd hyx;rw[<-e2];simpa using this
   subst hy hx;rw[d1,d2]at hR;have hR:R (.ok (.ret (.bool (if p=q then lexLt (xs.drop (i+1)) (ys.drop (i+1))else decide (p<q))))) ⟨hp,g,d,tk,os⟩:=hR;refine nQ (SeqAt.EqAt.int_int _ _ _ _ prog w _ _ ?_);by_cases hpq:p=q
   ·rw[nV hpq]at hR;have e:(p==q)=true:=by simp [hpq]
    rw[e]
    wp_walk
    exact⟨rfl,rfl,i+1,hlt,hrest,hR⟩
   ·rw[nU hpq]at hR;have e:(p==q)=false:=by simp [hpq]
    rw[e];simp only[Bool.not_false,if_true];refine nQ (wpAny_rule ?_);refine nQ (lt_int (a:=p) (b:=q) ?_)
    wp_walk
    exact⟨_,rfl,hR⟩
  case fin=>
   rintro⟨b1,b2⟩ s' ⟨hb',rfl,i,hi,hz,hR⟩;simp only at hb';subst hb';have hge:min as.length bs.length<=i:=by
    rcases Nat.lt_or_ge i (as.zip bs).length with h' | h'
    ·rw[List.drop_eq_getElem_cons h']at hz;cases hz
    ·exact hZ▸h'
   have e:lexLt (xs.drop i) (ys.drop i)=decide (xs.length-i<ys.length-i):=FU (by rw[la,lb]at hge;exact hge);have e2:decide (xs.length-i<ys.length-i)=decide (as.length<bs.length):=by
    rw[hZ]at hi;by_cases q:as.length<bs.length
    ·rw[mT q,mT (by omega)]
    ·rw[mR q,mR (by omega)]
   rw[e,e2]at hR
   wp_walk
   exact⟨_,rfl,by simpa [Builtin.Tuple.tupleCompareSizes]using hR⟩
  case h=>
   exact⟨rfl,rfl,0,nO _,rfl,by simpa using h⟩
theorem RR(ra:IntsAre as xs)(rb:IntsAre bs ys) :
  Meets (Builtin.«tuple.__ge__» ⟨[.ref l,.ref b],[]⟩)
   (λ_ R s=>s.heap.get? l=some { cls:=.type "tuple",dict:=dd,data:=.seq as.toArray n,slots:=sl }/\s.heap.get? b=some { cls:=.type "tuple",dict:=dd2,data:=.seq bs.toArray n2,slots:=sl2 }/\
    R (.ok (.ret (.bool (CC xs ys)))) s):=
 .of_wp λprog w A R s h=>by
  obtain⟨hp,g,d,tk,os⟩:=s;obtain⟨hl,hb,h⟩:=h;have f2:=AutoSeq1.sub_tuple_tuple;have la:=qO ra;have lb:=qO rb;have hZ:(as.zip bs).length=min as.length bs.length:=by simp
  wp_walk using wpAny_loadPart' hl,wpAny_loadPart' hb,wpAny_forIn_list _ (λrest b s'=>b.1=none/\s'=⟨hp,g,d,tk,os⟩/\∃i,i<=(as.zip bs).length/\rest=(as.zip bs).drop i/\
   R (.ok (.ret (.bool (CC (xs.drop i) (ys.drop i))))) ⟨hp,g,d,tk,os⟩) _
  case turn=>
   rintro⟨y,x⟩ rest b s' ⟨hb',rfl,i,hi,hz,hR⟩;have hlt:i<(as.zip bs).length:=by
    rcases Nat.lt_or_ge i (as.zip bs).length with h' | h'
    ·exact h'
    ·rw[gR h']at hz;cases hz
   have h1:i<as.length:=by omega
   have h2:i<bs.length:=by omega
   rw[List.drop_eq_getElem_cons hlt]at hz;injection hz with hyx hrest
   obtain⟨p,t1,e1,d1⟩:=xO ra h1;obtain⟨q,t2,e2,d2⟩:=xO rb h2;have hy:y=.int p t1:=by have:=congrArg Prod.fst hyx;rw[<-e1];simpa using this
   have hx:x=.int q t2:=by have:=congrArg Prod.snd hyx;rw[<-e2];simpa using this
   subst hy hx;rw[d1,d2]at hR;have hR:R (.ok (.ret (.bool (if p=q then CC (xs.drop (i+1)) (ys.drop (i+1))else decide (q<=p))))) ⟨hp,g,d,tk,os⟩:=hR;refine nQ (SeqAt.EqAt.int_int _ _ _ _ prog w _ _ ?_);by_cases hpq:p=q
   ·rw[nV hpq]at hR;have e:(p==q)=true:=by simp [hpq]
    rw[e]
    wp_walk
    exact⟨rfl,rfl,i+1,hlt,hrest,hR⟩
   ·rw[nU hpq]at hR;have e:(p==q)=false:=by simp [hpq]
    rw[e];simp only[Bool.not_false,if_true];refine nQ (wpAny_rule ?_);refine nQ (ge_int (a:=p) (b:=q) ?_)
    wp_walk
    exact⟨_,rfl,hR⟩
  case fin=>
   rintro⟨b1,b2⟩ s' ⟨hb',rfl,i,hi,hz,hR⟩;simp only at hb';subst hb';have hge:min as.length bs.length<=i:=by
    rcases Nat.lt_or_ge i (as.zip bs).length with h' | h'
    ·rw[List.drop_eq_getElem_cons h']at hz;cases hz
    ·exact hZ▸h'
   have e:CC (xs.drop i) (ys.drop i)=decide (ys.length-i<=xs.length-i):=FU (by rw[la,lb]at hge;exact hge);have e2:decide (ys.length-i<=xs.length-i)=decide (bs.length<=as.length):=by
    rw[hZ]at hi;by_cases q:bs.length<=as.length
    ·rw[mT q,mT (by omega)]
    ·rw[mR q,mR (by omega)]
   rw[e,e2]at hR
   wp_walk
   exact⟨_,rfl,by simpa [Builtin.Tuple.tupleCompareSizes]using hR⟩
  case h=>
   exact⟨rfl,rfl,0,nO _,rfl,by simpa using h⟩
theorem RP(ra:IntsAre as xs)(rb:IntsAre bs ys) :
  Meets (Builtin.«tuple.__ne__» ⟨[.ref l,.ref b],[]⟩)
   (λ_ R s=>s.heap.get? l=some { cls:=.type "tuple",dict:=dd,data:=.seq as.toArray n,slots:=sl }/\s.heap.get? b=some { cls:=.type "tuple",dict:=dd2,data:=.seq bs.toArray n2,slots:=sl2 }/\
    R (.ok (.ret (.bool (lexNe xs ys)))) s):=
 .of_wp λprog w A R s h=>by
  obtain⟨hp,g,d,tk,os⟩:=s;obtain⟨hl,hb,h⟩:=h;have f2:=AutoSeq1.sub_tuple_tuple;have la:=qO ra;have lb:=qO rb;have hZ:(as.zip bs).length=min as.length bs.length:=by simp
  wp_walk using wpAny_loadPart' hl,wpAny_loadPart' hb,wpAny_forIn_list _ (λrest b s'=>b.1=none/\s'=⟨hp,g,d,tk,os⟩/\∃i,i<=(as.zip bs).length/\rest=(as.zip bs).drop i/\
   R (.ok (.ret (.bool (lexNe (xs.drop i) (ys.drop i))))) ⟨hp,g,d,tk,os⟩) _
  case turn=>
   rintro⟨y,x⟩ rest b s' ⟨hb',rfl,i,hi,hz,hR⟩;have hlt:i<(as.zip bs).length:=by
    rcases Nat.lt_or_ge i (as.zip bs).length with h' | h'
    ·exact h'
    ·rw[gR h']at hz;cases hz
   have h1:i<as.length:=by omega
   have h2:i<bs.length:=by omega
   rw[List.drop_eq_getElem_cons hlt]at hz;injection hz with hyx hrest
   obtain⟨p,t1,e1,d1⟩:=xO ra h1;obtain⟨q,t2,e2,d2⟩:=xO rb h2;have hy:y=.int p t1:=by have:=congrArg Prod.fst hyx;rw[<-e1];simpa using this
   have hx:x=.int q t2:=by have:=congrArg Prod.snd hyx;rw[<-e2];simpa using this
   subst hy hx;rw[d1,d2]at hR;have hR:R (.ok (.ret (.bool (if p=q then lexNe (xs.drop (i+1)) (ys.drop (i+1))else true)))) ⟨hp,g,d,tk,os⟩:=hR;refine nQ (SeqAt.EqAt.int_int _ _ _ _ prog w _ _ ?_);by_cases hpq:p=q
   ·rw[nV hpq]at hR;have e:(p==q)=true:=by simp [hpq]
    rw[e]
    wp_walk
    exact⟨rfl,rfl,i+1,hlt,hrest,hR⟩
   ·rw[nU hpq]at hR;have e:(p==q)=false:=by simp [hpq]
    rw[e]
    wp_walk
    exact⟨_,rfl,hR⟩
  case fin=>
   rintro⟨b1,b2⟩ s' ⟨hb',rfl,i,hi,hz,hR⟩;simp only at hb';subst hb';have hge:min as.length bs.length<=i:=by
    rcases Nat.lt_or_ge i (as.zip bs).length with h' | h'
    ·rw[List.drop_eq_getElem_cons h']at hz;cases hz
    ·exact hZ▸h'
   have e:lexNe (xs.drop i) (ys.drop i)=(xs.length-i != ys.length-i):=FU (by rw[la,lb]at hge;exact hge);have e2:(xs.length-i != ys.length-i)=(as.length != bs.length):=by
    rw[hZ]at hi;by_cases q:as.length=bs.length
    ·have q2:xs.length-i=ys.length-i:=by omega
     rw[bne,bne,q2,q,beq_self_eq_true,beq_self_eq_true]
    ·have q2:¬xs.length-i=ys.length-i:=by omega
     rw[bne,bne,beq_eq_false_iff_ne.mpr q2,beq_eq_false_iff_ne.mpr q]
   rw[e,e2]at hR
   wp_walk
   exact⟨_,rfl,by simpa [Builtin.Tuple.tupleCompareSizes]using hR⟩
  case h=>
   exact⟨rfl,rfl,0,nO _,rfl,by simpa using h⟩
end
section
variable{X:Cx}
def rOrdT(K:nW)(f:List Int->List Int->Bool):R2:=λx y H Q=>∃(a b:Addr) (ns ms:List Int),x=.ref a/\y=.ref b/\SqT K H a (ns.map V.int)/\SqT K H b (ms.map V.int)/\Q (.bl (f ns ms)) H
theorem op_ltT(hu:X.A.units<cLine):OpR X (compareOp .Lt) (rOrdT X.K lexLt):=by
 intro af s σ H x y v u Q I rx ry h;obtain⟨a,b,ns,ms,rfl,rfl,ha,hb,q⟩:=h;cases rx;cases ry;obtain⟨its,r1,p1,_⟩:=I.tuple ha;obtain⟨its2,r2,p2,_⟩:=I.tuple hb;obtain⟨⟨cls,dd,data,sl⟩,ho,hc,n,hd⟩:=id p1;obtain⟨⟨cls2,dd2,data2,sl2⟩,ho2,hc2,n2,hd2⟩:=id p2;simp only at hc hd hc2 hd2;subst hc hd hc2 hd2;exact richCompare_meets_room (op:=.Lt) ⟨_,ho,rfl⟩ ⟨_,ho2,rfl⟩ PySem.F.slot_tuple_lt PySem.F.entry_tuple_lt (PySem.F.args_tuple_lt_2 _ _) (RQ (kK r1) (kK r2)) ⟨ho,ho2,show Value.bool _≠Value.notImplemented/\_ from⟨(λz=>nomatch z),⟨.bl _,H,I,rfl,q⟩⟩⟩ hu
theorem op_geT(hu:X.A.units<cLine):OpR X (compareOp .GtE) (rOrdT X.K CC):=by
 intro af s σ H x y v u Q I rx ry h;obtain⟨a,b,ns,ms,rfl,rfl,ha,hb,q⟩:=h;cases rx;cases ry;obtain⟨its,r1,p1,_⟩:=I.tuple ha;obtain⟨its2,r2,p2,_⟩:=I.tuple hb;obtain⟨⟨cls,dd,data,sl⟩,ho,hc,n,hd⟩:=id p1;obtain⟨⟨cls2,dd2,data2,sl2⟩,ho2,hc2,n2,hd2⟩:=id p2;simp only at hc hd hc2 hd2;subst hc hd hc2 hd2;exact richCompare_meets_room (op:=.GtE) ⟨_,ho,rfl⟩ ⟨_,ho2,rfl⟩ PySem.F.slot_tuple_ge PySem.F.entry_tuple_ge (PySem.F.args_tuple_ge_2 _ _) (RR (kK r1) (kK r2)) ⟨ho,ho2,show Value.bool _≠Value.notImplemented/\_ from⟨(λz=>nomatch z),⟨.bl _,H,I,rfl,q⟩⟩⟩ hu
theorem op_neT(hu:X.A.units<cLine):OpR X (compareOp .NotEq) (rOrdT X.K lexNe):=by
 intro af s σ H x y v u Q I rx ry h;obtain⟨a,b,ns,ms,rfl,rfl,ha,hb,q⟩:=h;cases rx;cases ry;obtain⟨its,r1,p1,_⟩:=I.tuple ha;obtain⟨its2,r2,p2,_⟩:=I.tuple hb;obtain⟨⟨cls,dd,data,sl⟩,ho,hc,n,hd⟩:=id p1;obtain⟨⟨cls2,dd2,data2,sl2⟩,ho2,hc2,n2,hd2⟩:=id p2;simp only at hc hd hc2 hd2;subst hc hd hc2 hd2;exact richCompare_meets_room (op:=.NotEq) ⟨_,ho,rfl⟩ ⟨_,ho2,rfl⟩ PySem.F.slot_tuple_ne PySem.F.entry_tuple_ne (PySem.F.args_tuple_ne_2 _ _) (RP (kK r1) (kK r2)) ⟨ho,ho2,show Value.bool _≠Value.notImplemented/\_ from⟨(λz=>nomatch z),⟨.bl _,H,I,rfl,q⟩⟩⟩ hu
end
end LwT
namespace L2
open PySem PySem.Spec PyProof.Rows
section
variable{κ:Type} [DecidableEq κ]
def xV(ai:List (κ×V))(k:κ):Option V:=(ai.find? λkv=>decide (kv.1=k)).map (·.2)
def wH(ai:List (κ×V))(k:κ)(v:V):List (κ×V):=
 if (ai.any λkv=>decide (kv.1=k))=true then ai.map (λkv=>if kv.1=k then(kv.1,v)else kv)else ai++[(k,v)]
def AB(ai:List (κ×V))(k:κ):List (κ×V):=ai.filter λkv=>decide (kv.1≠k)
theorem BC{p:κ×V}{r:List (κ×V)}{k:κ}(e:p.1=k):xV (p::r) k=some p.2:=by simp [xV,List.find?_cons,e]
theorem BD{p:κ×V}{r:List (κ×V)}{k:κ}(e:¬p.1=k):xV (p::r) k=xV r k:=by simp [xV,List.find?_cons,e]
theorem HG(k:κ):∀ai:List (κ×V),(ai.any λkv=>decide (kv.1=k))=(xV ai k).isSome
 | []=>rfl
 | p::r=>by
  rw[List.any_cons];by_cases e:p.1=k
  ·simp only[BC e,mT e,Bool.true_or,Option.isSome_some]
  ·rw[BD e,mR e,Bool.false_or];exact HG k r
theorem gB(ai:List (κ×V))(k:κ)(v:V):(wH ai k v).length<=ai.length+1:=by
 unfold wH;split
 ·rw[mQ];lia
 ·rw[List.length_append,mN,List.length_nil];lia
theorem RelO.isSome_eq{o:Option V}{u:Option Value}(r:RelO o u):o.isSome=u.isSome:=by
 cases o with
 | none=>cases u with
  | none=>rfl
  | some _=>exact(show False from r).elim
 | some _=>cases u with
  | none=>exact(show False from r).elim
  | some _=>rfl
theorem RelO.getD{o:Option V}{u:Option Value}{d:V}{d':Value}(r:RelO o u)(rd:RelV d d'):RelV (o.getD d) (u.getD d'):=by
 cases o with
 | none=>cases u with
  | none=>exact rd
  | some _=>exact(show False from r).elim
 | some _=>cases u with
  | none=>exact(show False from r).elim
  | some _=>exact r
theorem KV.val{ai:List (κ×V)}{vs:List (κ×Value)}(r:KV ai vs)(k:κ):RelO (xV ai k) (valueAt vs k):=by
 unfold KV at r;induction r with
 | nil=>exact True.intro
 | @cons p q ps qs h t ih=>
  obtain⟨h1,h2⟩:=h;by_cases e:p.1=k
  ·have e':q.1=k:=h1.symm.trans e;have b:valueAt (q::qs) k=some q.2:=by simp [valueAt,List.find?_cons,e']
   rw[BC e,b];exact h2
  ·have e':¬q.1=k:=λz=>e (h1.trans z);have b:valueAt (q::qs) k=valueAt qs k:=by simp [valueAt,List.find?_cons,e']
   rw[BD e,b];exact ih
theorem KV.any{ai:List (κ×V)}{vs:List (κ×Value)}(r:KV ai vs)(k:κ):(ai.any λkv=>decide (kv.1=k))=vs.any λkv=>decide (kv.1=k):=by
 unfold KV at r;induction r with
 | nil=>rfl
 | cons h t ih=>rw[List.any_cons,List.any_cons,ih,h.1]
theorem KV.repl{ai:List (κ×V)}{vs:List (κ×Value)}(r:KV ai vs)(k:κ){y:V}{u:Value}(ry:RelV y u) :
  KV (ai.map λkv=>if kv.1=k then(kv.1,y)else kv) (vs.map λkv=>if kv.1=k then(kv.1,u)else kv):=by
 unfold KV at r ⊢;induction r with
 | nil=>exact .nil
 | @cons p q ps qs h t ih=>
  rw[mX,mX];refine .cons ?_ ih;obtain⟨h1,h2⟩:=h;by_cases e:p.1=k
  ·rw[nV e,nV (h1.symm.trans e)];exact⟨h1,ry⟩
  ·rw[nU e,nU (λz=>e (h1.trans z))];exact⟨h1,h2⟩
theorem KV.put{ai:List (κ×V)}{vs:List (κ×Value)}(r:KV ai vs)(k:κ){y:V}{u:Value}(ry:RelV y u):KV (wH ai k y) (stored vs k u):=by
 unfold wH stored;rw[r.any k];by_cases e:(vs.any λkv=>decide (kv.1=k))=true
 ·rw[nV e,nV e];exact r.repl k ry
 ·rw[nU e,nU e];exact Paired.snoc r ⟨rfl,ry⟩
theorem KV.length{ai:List (κ×V)}{vs:List (κ×Value)}(r:KV ai vs):ai.length=vs.length:=Paired.length r
theorem VB(ai:List (κ×V))(k:κ):(AB ai k).length<=ai.length:=List.length_filter_le _ _
end
theorem JA{P:Program}{w:World}{k:Key}{u:Value}(r:RelV (kV k) u):(qK P w).is k u=true:=by
 cases k with
 | inl i=>obtain⟨t,e⟩:=(show ∃t,u=Value.int i t from r);subst e;exact IQ P w i t
 | inr x=>obtain⟨t,e⟩:=(show ∃t,u=Value.str x t from r);subst e;exact IP P w x t
theorem EB{P:Program}{w:World} :∀{ks:List Key} {us:List Value},Vals (ks.map kV) us->ItemsAre (qK P w) ks us
 | [],_,r=>by rw[List.map_nil]at r;cases r;exact .nil
 | k::ks,_,r=>by
  rw[mX]at r;cases r with
  | cons h t=>exact .cons (JA h) (EB t)
abbrev KT(H:Hp):List (List Key×V)->List (List Key×Addr×Value)->Prop:=Paired λp q=>p.1=q.1/\H q.2.1=some (.tup (p.1.map kV))/\RelV p.2 q.2.2
theorem KT.val{H:Hp}{ai:List (List Key×V)}{xs:List (List Key×Addr×Value)}(r:KT H ai xs)(k:List Key):RelO (xV ai k) ((atKey xs k).map (·.2)):=by
 induction r with
 | nil=>exact True.intro
 | @cons p q ps qs h t ih=>
  obtain⟨h1,_,h2⟩:=h;by_cases e:p.1=k
  ·have e':q.1=k:=h1.symm.trans e;have b:atKey (q::qs) k=some q.2:=by simp [atKey,List.find?_cons,e']
   rw[BC e,b];exact h2
  ·have e':¬q.1=k:=λz=>e (h1.trans z);have b:atKey (q::qs) k=atKey qs k:=by simp [atKey,List.find?_cons,e']
   rw[BD e,b];exact ih
theorem KT.repl{H:Hp}{ai:List (List Key×V)}{xs:List (List Key×Addr×Value)}(r:KT H ai xs)(k:List Key){y:V}{u:Value}(ry:RelV y u) :
  KT H (ai.map λkv=>if kv.1=k then(kv.1,y)else kv) (xs.map (putAt k u)):=by
 induction r with
 | nil=>exact .nil
 | @cons p q ps qs h t ih=>
  rw[mX,mX];refine .cons ?_ ih;obtain⟨h1,h2,h3⟩:=h;unfold putAt;by_cases e:p.1=k
  ·rw[nV e,nV (h1.symm.trans e)];exact⟨h1,h2,ry⟩
  ·rw[nU e,nU (λz=>e (h1.trans z))];exact⟨h1,h2,h3⟩
theorem KT.put{H:Hp}{ai:List (List Key×V)}{xs:List (List Key×Addr×Value)}(r:KT H ai xs)(k:List Key){b:Addr}{y:V}{u:Value}(hb:H b=some (.tup (k.map kV)))(ry:RelV y u) :
  KT H (wH ai k y) (storedH xs k b u):=by
 have e:(ai.any λkv=>decide (kv.1=k))=(atKey xs k).isSome:=by
  rw[HG,(r.val k).isSome_eq,Option.isSome_map]
 unfold wH storedH;rw[e];by_cases q:(atKey xs k).isSome=true
 ·rw[nV q,nV q];exact r.repl k ry
 ·rw[nU q,nU q];exact Paired.snoc r ⟨rfl,hb,ry⟩
theorem KT.keeps{H H':Hp}{ai:List (List Key×V)}{xs:List (List Key×Addr×Value)}(r:KT H ai xs)(ht:∀b ys,H b=some (.tup ys)->H' b=some (.tup ys)):KT H' ai xs:=
 Paired.mapP r λ_ _ z=>⟨z.1,ht _ _ z.2.1,z.2.2⟩
section
variable{P:Program}{w:World}{H:Hp}{h:Heap}{a:Addr}
theorem YV{u:HO}(ok:HOk P w H h)(e:Rd H a u):ObjOk P w H h a u:=e.ok ok
theorem EG{ai:List (Key×V)}(ok:HOk P w H h)(e:Rd H a (.dK ai)):ai.length<=sizeLine/\(a==sysModules)=false/\∃vs,KV ai vs/\h.DictOf (qK P w) a vs:=
 show ObjOk P w H h a (.dK ai)from YV ok e
theorem dk_of{ai:List (Key×V)}(ok:HOk P w H h)(e:H a=some (.dK ai)):ai.length<=sizeLine/\(a==sysModules)=false/\∃vs,KV ai vs/\h.DictOf (qK P w) a vs:=EG ok (.inl e)
theorem uU{ks:List Key}(ok:HOk P w H h)(e:H a=some (.tup (ks.map kV))):(tupleKind (qK P w)).is h ks a:=by
 obtain⟨_,its,r,⟨o,h1,h2,n,h3⟩,_⟩:=(show ObjOk P w H h a (.tup (ks.map kV))from ok a _ e);exact⟨o,its.toArray,n,h1,h2,h3,by simpa using EB r⟩
theorem AA{ai:List (List Key×V)}(ok:HOk P w H h)(e:Rd H a (.dT ai)):ai.length<=sizeLine/\(a==sysModules)=false/\
  ∃xs,KT H ai xs/\h.DictOfH (tupleKind (qK P w)) a xs:=by
 obtain⟨z,y,xs,r,o,es,ep,h1,h2,h3,h4,h5⟩:=(show ObjOk P w H h a (.dT ai)from YV ok e);refine⟨z,y,xs,r,o,es,ep,h1,h2,h3,h4,λx hx=>?_,h5⟩;have all:∀{l:List (List Key×V)} {m:List (List Key×Addr×Value)},KT H l m->∀x∈m,(tupleKind (qK P w)).is h x.1 x.2.1:=by
  intro l m q;induction q with
  | nil=>intro x hx;exact nomatch hx
  | @cons p q ps qs hq t ih=>
   intro x hx;rcases mY.mp hx with e | hx
   ·subst e;exact uU ok (by rw[<-hq.1];exact hq.2.1)
   ·exact ih x hx
 exact all r x hx
theorem ZC{ai:List (List Key×V)}(ok:HOk P w H h)(e:H a=some (.dT ai)):ai.length<=sizeLine/\(a==sysModules)=false/\
  ∃xs,KT H ai xs/\h.DictOfH (tupleKind (qK P w)) a xs:=AA ok (.inl e)
end
def DGet(H:Hp)(a:Addr)(y:V)(r:Option V):Prop:=
 (∃ai k,Rd H a (.dK ai)/\y=kV k/\r=xV ai k)∨∃ai k b,Rd H a (.dT ai)/\y=.ref b/\H b=some (.tup (k.map kV))/\r=xV ai k
def DPut(H:Hp)(a:Addr)(y v:V)(H':Hp):Prop:=
 (∃ai k,H a=some (.dK ai)/\y=kV k/\ai.length<sizeLine/\H'=upd H a (.dK (wH ai k v)))∨
 ∃ai k b,H a=some (.dT ai)/\y=.ref b/\H b=some (.tup (k.map kV))/\ai.length<sizeLine/\H'=upd H a (.dT (wH ai k v))
theorem DGet.t{H:Hp}{a b:Addr}{ai:List (List Key×V)}{k:List Key}(e:H a=some (.dT ai))(eb:H b=some (.tup (k.map kV))):DGet H a (.ref b) (xV ai k):=.inr ⟨ai,k,b,.inl e,rfl,eb,rfl⟩
theorem DPut.t{H:Hp}{a b:Addr}{ai:List (List Key×V)}{k:List Key}{v:V}(e:H a=some (.dT ai))(eb:H b=some (.tup (k.map kV)))(hl:ai.length<sizeLine) :
  DPut H a (.ref b) v (upd H a (.dT (wH ai k v))):=.inr ⟨ai,k,b,e,rfl,eb,hl,rfl⟩
section
variable{X:Cx}{af:List (Addr×Obj)}{σ:St}{H:Hp}{s:Shared}{a:Addr}{y v:V}{u r:Value}{o:Option V}{A:Around}{E:Value->Shared->Prop}
theorem Inv.big(I:Inv X af σ H s):sysModules<s.heap.objs.size:=by
 have h:mainGlobals<s.heap.objs.size:=(I.mod.glob.keeps I.bk).lt;exact Nat.lt_trans (by decide) h
theorem QY{Q:Value->Shared->Prop}(hu:A.units+1<cLine)(I:Inv X af σ H s)(g:DGet H a y (some v))(ry:RelV y u)(h:∀w' s',Inv X af σ H s'->RelV v w'->Q w' s') :
  wpAny (model X.prog X.w) A (getItem (.ref a) u) Q E s:=by
 rcases g with⟨ai,k,e,ey,l⟩ | ⟨ai,k,b,e,ey,eb,l⟩
 ·subst ey;obtain⟨z,hd,vs,rel,dd⟩:=EG I.hok e;obtain⟨w',hw,rw'⟩:=RelO.some_of (v:=v) (o:=valueAt vs k) (by rw[l];exact rel.val k);exact wpAny_getItem_of (JA ry) dd.mapOf hw (h w' _ (I.tok _) rw')
 ·subst ey;cases (show u=Value.ref b from ry);obtain⟨z,hd,xs,rel,dd⟩:=AA I.hok e;obtain⟨w',hw,rw'⟩:=RelO.some_of (v:=v) (o:=(atKey xs k).map (·.2)) (by rw[l];exact rel.val k);obtain⟨p,hp,hp2⟩:=Option.map_eq_some_iff.mp hw;refine wpAny_getItem_heap (tupleKind_room_in1 hu) (uU I.hok eb) dd hp ?_;rw[hp2];exact h w' _ (I.tok _) rw'
theorem d_in{Q:Value->Shared->Prop}(hu:A.units+1<cLine)(I:Inv X af σ H s)(g:DGet H a y o)(ry:RelV y u)(h:∀s',Inv X af σ H s'->Q (.bool o.isSome) s') :
  wpAny (model X.prog X.w) A (compareOp .In u (.ref a)) Q E s:=by
 rcases g with⟨ai,k,e,ey,l⟩ | ⟨ai,k,b,e,ey,eb,l⟩
 ·subst ey;obtain⟨z,hd,vs,rel,dd⟩:=EG I.hok e;refine wpAny_in_of (JA ry) hd dd.mapOf ?_;rw[<-(rel.val k).isSome_eq,<-l];exact h _ (I.tok _)
 ·subst ey;cases (show u=Value.ref b from ry);obtain⟨z,hd,xs,rel,dd⟩:=AA I.hok e;refine wpAny_in_heap (tupleKind_room_in1 hu) (uU I.hok eb) hd dd ?_;have q:=(rel.val k).isSome_eq;rw[Option.isSome_map]at q;rw[<-q,<-l];exact h _ (I.tok _)
theorem GV{h':Heap}{t':Nat}{ob:HO}(I:Inv X af σ H s)(mu:Mut (H a))(hs:Heap.SameBut a s.heap h')(he:∃q,h'.get? a=some q)(new:ObjOk X.prog X.w (upd H a ob) h' a ob) :
  Inv X af σ (upd H a ob) { s with heap:=h',toks:=t' } :=
 I.write (x:=a) (e:=a) mu (.inl rfl) (λb q hb z=>(hs.2 b hb).trans z) he new
theorem dk_new{P:Program}{w:World}{H':Hp}{h':Heap}{ai:List (Key×V)}{vs:List (Key×Value)}(z:ai.length<=sizeLine)(hd:(a==sysModules)=false)(rel:KV ai vs)(dd:h'.DictOf (qK P w) a vs) :
  ObjOk P w H' h' a (.dK ai):=⟨z,hd,vs,rel,dd⟩
theorem QX{H':Hp}{Q:Unit->Shared->Prop}(hu:A.units+1<cLine)(I:Inv X af σ H s)(g:DPut H a y v H')(ry:RelV y u)(rv:RelV v r)(h:∀s',Inv X af σ H' s'->Q () s') :
  wpAny (model X.prog X.w) A (setItem (.ref a) u r) Q E s:=by
 rcases g with⟨ai,k,e,ey,l,eH⟩ | ⟨ai,k,b,e,ey,eb,l,eH⟩
 ·subst ey eH;obtain⟨z,hd,vs,rel,dd⟩:=dk_of I.hok e;have hz:vs.length<=sizeLine:=by rw[<-rel.length];exact z
  have hl:(wH ai k v).length<=sizeLine:=by have:=gB ai k v;lia
  refine wpAny_setItem_pairs (hsz:=hz) (JA ry) dd λh' dd' hs=>h _ ?_;have he:∃q,h'.get? a=some q:=let ⟨q,_,_,hq,_⟩:=dd';⟨q,hq⟩;exact GV I (by rw[e];exact True.intro) hs he (dk_new hl hd (rel.put k rv) dd')
 ·subst ey eH;cases (show u=Value.ref b from ry);obtain⟨z,hd,xs,rel,dd⟩:=ZC I.hok e;have hz:xs.length<=sizeLine:=by rw[<-Paired.length rel];exact z
  have hl:(wH ai k v).length<=sizeLine:=by have:=gB ai k v;lia
  refine wpAny_setItem_heap (hsz:=hz) (tupleKind_room_in1 hu) (uU I.hok eb) dd λh' dd' hs=>h _ ?_;obtain⟨q,es,ep,hq,h2,h3,h4,_,h5⟩:=dd';refine GV I (by rw[e];exact True.intro) hs ⟨q,hq⟩ ⟨hl,hd,_,(rel.put k eb rv).keeps λc ys ec=>?_,q,es,ep,hq,h2,h3,h4,h5⟩;rw[jN (ZB ec e (λz=>nomatch z))];exact ec
end
section
variable{X:Cx}{af:List (Addr×Obj)}{σ:St}{H:Hp}{s:Shared}{a:Addr}{ai:List (Key×V)}{k:Key}{u:Value}{A:Around}{E:Value->Shared->Prop}
end
def NoSl(i:Expr):Prop:=∀ov iv,subscripted i false ov iv=operate [ov,iv] (getItem ov iv)
theorem WC{prog:Program}{w:World}{A:Around}{E:Value->Shared->Prop}{s:Shared}{env:Env}{value slice:Expr}{pos:Pos}{T id:String}{Q:Value->Shared->Prop}
  (hl:typeLookup (.type T) "__getitem__" = pure (some (.builtin id))) (hs:NoSl slice)
  (h:wpAny (model prog w) A (eval value env) (λo s₁=>wpAny (model prog w) A (eval slice env) (λi s₂=>s₂.TypeIs o T/\wpAny (model prog w) A (getItem o i) Q E s₂) E s₁) E s) :
  wpAny (model prog w) A (eval (.Subscript value slice pos) env) Q E s:=by
 refine Subscript_ (nT h (λo s₁ h₁=>nT h₁ (λi s₂ h₂=>?_) λ_ _ x=>x) λ_ _ x=>x);obtain⟨hT,h₂⟩:=h₂;unfold subscriptTail;refine nQ ?_;rw[getitemInPython_of_ne hT.not_modules];refine nQ (wpAny_specialOf hT hl ?_);have fin:wpAny (model prog w) A (subscripted slice false o i) (λr s₃=>wpAny (model prog w) A (letTemporaryGo value o r >>= λ_=>pure r) Q E s₃) E s₂:=by
  rw[hs o i];exact wpAny_operating (nT h₂ (λr s₃ h₃=>nQ (wpAny_letTemporaryGo (nS h₃))) λ_ _ x=>x)
 first
  | exact nS (nQ fin)
  | exact nQ (nS (nQ fin))
  | exact nQ fin
theorem JL{X:Cx}{af:List (Addr×Obj)}{σ:St}{H:Hp}{s:Shared}{a:Addr}{y:V}{o:Option V}(I:Inv X af σ H s)(g:DGet H a y o):s.TypeIs (.ref a) "dict":=by
 rcases g with⟨ai,k,e,_,_⟩ | ⟨ai,k,b,e,_,_,_⟩
 ·obtain⟨_,_,vs,_,dd⟩:=EG I.hok e;exact dd.typeIs
 ·obtain⟨_,_,xs,_,dd⟩:=AA I.hok e;exact dd.typeIs
def tDGet(td ty:TE):TE:=fun σ H Q=>td σ H λx H1=>ty σ H1 λy H2=>∃a v,x=.ref a/\DGet H2 a y (some v)/\Q v H2
def tDIn(ty td:TE):TE:=fun σ H Q=>ty σ H λy H1=>td σ H1 λx H2=>∃a o,x=.ref a/\DGet H2 a y o/\Q (.bl o.isSome) H2
def YU(td ty tv:TE):TS:=λD σ H=>tv σ H λv H1=>td σ H1 λx H2=>ty σ H2 λy H3=>∃a H4,x=.ref a/\DPut H3 a y v H4/\D.nx σ H4
section
variable{X:Cx}{o i e value:Expr}{pos pos' tpos:Pos}{td ty tv:TE}
theorem wY(hu:X.A.units+1<cLine)(ho:PE X o td)(hi:PE X i ty)(hs:NoSl i):PE X (.Subscript o i pos) (tDGet td ty):=by
 intro af s σ H Q I h;refine WC PySem.F.slot_dict_getitem.lookup hs (thn (ho af s σ H _ I h) λu s1 ⟨x,H1,I1,rx,q1⟩=>thn (hi af s1 σ H1 _ I1 q1) λiv s2 ⟨y,H2,I2,ry,a,v,ex,g,q2⟩=>?_);subst ex;obtain rfl:u=Value.ref a:=rx;exact⟨JL I2 g,QY hu I2 g ry λw' s3 I3 rw'=>⟨v,H2,I3,rw',q2⟩⟩
theorem pc_din(hu:X.A.units+1<cLine)(hi:PE X i ty)(ho:PE X o td):PC X .In i o (tDIn ty td):=by
 intro af s σ H Q I h;refine thn (hi af s σ H _ I h) λiv s1 ⟨y,H1,I1,ry,q1⟩=>thn (ho af s1 σ H1 _ I1 q1) λu s2 ⟨x,H2,I2,rx,a,ov,ex,g,q2⟩=>?_;subst ex;obtain rfl:u=Value.ref a:=rx;exact d_in hu I2 g ry λs3 I3=>⟨.bl ov.isSome,H2,I3,rfl,q2⟩
theorem NC(hu:X.A.units+1<cLine)(ho:PE X o td)(hi:PE X i ty)(hv:PE X value tv)(hs:swapsWith value (some (.Subscript o i pos')) pos.line X.env=pure false) :
  PS X (.Assign [.Subscript o i pos'] value pos) (YU td ty tv):=by
 intro af s σ H D I h;refine wpAny_Assign_Subscript (thn (hv af s σ H _ I h) λr s1 ⟨v,H1,I1,rv,q1⟩=>thn (ho af s1 σ H1 _ I1 q1) λu s2 ⟨x,H2,I2,rx,q2⟩=>thn (hi af s2 σ H2 _ I2 q2) λiv s3 ⟨y,H3,I3,ry,a,H4,ex,g,q3⟩=>?_) hs;subst ex;obtain rfl:u=Value.ref a:=rx;exact QX hu I3 g ry rv λs4 I4=>⟨σ,H4,I4,q3⟩
end
theorem UZ{P:Program}{w:World}{H:Hp}(h:Heap)(hb:sysModules<h.objs.size):ObjOk P w H (h.push { cls:=.type "dict",data:=.dict #[] }) h.objs.size (.dT []):=
 ⟨nO _,beq_eq_false_iff_ne.mpr (Ne.symm (nH hb)),[],.nil,_,#[],0,hU _ rfl,⟨rfl,rfl,rfl⟩,rfl,rfl,List.nodup_nil⟩
def tDNewT:TE:=λ_ H Q=>∀p,H p=none->Q (.ref p) (upd H p (.dT []))
section
variable{X:Cx}{pos:Pos}
theorem BP:PE X (.Dict [] [] pos) tDNewT:=λaf s σ H Q I h=>
 wpAny_Dict_empty ⟨.ref s.heap.objs.size,_,I.laid (a:=s.heap.objs.size) (o:=.dT []) (t':=s.toks) (λ_ _ q=>gP _ q) gC (UZ s.heap I.big),rfl,h _ (I.hok.fresh gC)⟩
end
structure M1(X:Cx)(o:Expr)(m:Str)(apos:Pos)(e:Expr)(cpos:Pos):Prop where
 base:attributeBase o m X.env (eval o X.env)=eval o X.env
 few:((backTo cpos (starEach [e] X.env)).all (λx=>!x.1)&&(backToKw cpos (keywordEach [] X.env)).all (λx=>x.1.isSome)
  &&decide (([e]:List Expr).length+([]:List Keyword).length+(if ([]:List Keyword).isEmpty then 0 else 1)<30))=true
 line:(apos.endLine==cpos.line)=true
 trees:backTo cpos (starEach [e] X.env)=[(false,eval e X.env)]
structure M2(X:Cx)(o:Expr)(m:Str)(apos:Pos)(e f:Expr)(cpos:Pos):Prop where
 base:attributeBase o m X.env (eval o X.env)=eval o X.env
 few:((backTo cpos (starEach [e,f] X.env)).all (λx=>!x.1)&&(backToKw cpos (keywordEach [] X.env)).all (λx=>x.1.isSome)
  &&decide (([e,f]:List Expr).length+([]:List Keyword).length+(if ([]:List Keyword).isEmpty then 0 else 1)<30))=true
 line:(apos.endLine==cpos.line)=true
 trees:backTo cpos (starEach [e,f] X.env)=[(false,eval e X.env),(false,eval f X.env)]
def IsD(H:Hp)(a:Addr):Prop:=(∃ai,Rd H a (.dK ai))∨∃ai,Rd H a (.dT ai)
theorem UN{X:Cx}{af:List (Addr×Obj)}{σ:St}{H:Hp}{s:Shared}{a:Addr}(I:Inv X af σ H s)(d:IsD H a) :
  s.TypeIs (.ref a) "dict"/\(∀b,Value.ref a=.ref b->∃ob,s.heap.get? b=some ob/\ob.dict=none)/\(a==sysModules)=false:=by
 rcases d with⟨ai,e⟩ | ⟨ai,e⟩
 ·obtain⟨_,hd,vs,_,dd⟩:=EG I.hok e;refine⟨dd.typeIs,λb q=>?_,hd⟩;cases q;obtain⟨ob,_,_,h1,h2,_⟩:=dd;exact⟨ob,h1,h2.2.1⟩
 ·obtain⟨_,hd,xs,_,dd⟩:=AA I.hok e;refine⟨dd.typeIs,λb q=>?_,hd⟩;cases q;obtain⟨ob,_,_,h1,h2,_⟩:=dd;exact⟨ob,h1,h2.2.1⟩
section
variable{X:Cx}{af:List (Addr×Obj)}{σ:St}{H:Hp}{s:Shared}{a:Addr}{y d:V}{u r:Value}{o:Option V}{A:Around}{E:Value->Shared->Prop}
theorem d_get2{Q:Value->Shared->Prop}(hu:A.units+1<cLine)(I:Inv X af σ H s)(g:DGet H a y o)(ry:RelV y u)(rd:RelV d r)(h:∀w' s',Inv X af σ H s'->RelV (o.getD d) w'->Q w' s') :
  wpAny (model X.prog X.w) A (call (.builtin "dict.get") [.ref a,u,r]) Q E s:=by
 rcases g with⟨ai,k,e,ey,l⟩ | ⟨ai,k,b,e,ey,eb,l⟩
 ·subst ey;obtain⟨z,hd,vs,rel,dd⟩:=EG I.hok e;refine call_meetsIn PySem.F.slot_dict_get dd.typeIs PySem.F.entry_dict_get (PySem.F.args_dict_get_3 _ _ _) (meets_dict_get_default (qK X.prog X.w) a (JA ry) hd r) ⟨_,dd.mapOf,h _ _ (I.tok _) ?_⟩;rw[l];exact(rel.val k).getD rd
 ·subst ey;cases (show u=Value.ref b from ry);obtain⟨z,hd,xs,rel,dd⟩:=AA I.hok e;refine call_meetsIn PySem.F.slot_dict_get dd.typeIs PySem.F.entry_dict_get (PySem.F.args_dict_get_3 _ _ _) (meetsH_dict_get_default (tupleKind (qK X.prog X.w)) a b hd r) ⟨tupleKind_room_in1 hu,k,xs,uU I.hok eb,dd,h _ _ (I.tok _) ?_⟩;rw[l];exact(rel.val k).getD rd
end
def ZN(td ty tx:TE):TE:=fun σ H Q=>td σ H λx H1=>∃a,x=.ref a/\IsD H1 a/\ty σ H1 λy H2=>tx σ H2 λz H3=>∃o,DGet H3 a y o/\Q (o.getD z) H3
section
variable{X:Cx}{o e f:Expr}{apos cpos:Pos}{td ty tx:TE}
theorem TH(hu:X.A.units+1<cLine)(ho:PE X o td)(he:PE X e ty)(hf:PE X f tx)(m:M2 X o "get" apos e f cpos):PE X (.Call (.Attribute o "get" apos) [e,f] [] cpos) (ZN td ty tx):=by
 intro af s σ H Q I h;refine wpAny_Call_method m.base m.few m.line PySem.F.plainAttrs_dict PySem.F.slot_dict_get PySem.F.type_dict_get (thn (ho af s σ H _ I h) λu s1 ⟨x,H1,I1,rx,a,ex,d,q1⟩=>?_);subst ex;obtain rfl:u=Value.ref a:=rx;obtain⟨t1,t2,_⟩:=UN I1 d;refine⟨t1,t2, ?_⟩;rw[m.trees];refine Calls.callWith_builtin rfl (Calls.evalArgs_plain (Calls.spliced_cons (thn (he af s1 σ H1 _ I1 q1) λiv s2 ⟨y,H2,I2,ry,q2⟩=>
  Calls.spliced_cons (thn (hf af s2 σ H2 _ I2 q2) λfv s3 ⟨z,H3,I3,rz,ov,g,q3⟩=>Calls.spliced_nil ?_))))
 exact d_get2 hu I3 g ry rz λw' s4 I4 rw'=>⟨_,H3,I4,rw',q3⟩
end
section
variable{X:Cx}{af:List (Addr×Obj)}{σ:St}{H:Hp}{s:Shared}{a:Addr}{ai:List (Key×V)}{A:Around}{E:Value->Shared->Prop}
end
section
variable{X:Cx}{af:List (Addr×Obj)}{σ:St}{H:Hp}{s:Shared}{a:Addr}{y:V}{u:Value}{A:Around}{E:Value->Shared->Prop}
end
section
variable{X:Cx}
end
end L2
namespace L2
section
variable{κ:Type} [DecidableEq κ]
end
end L2
namespace LwD
open PySem PySem.Spec PyProof.Rows L2
theorem KTdrop{H:Hp}{ai:List (List Key×V)}{xs:List (List Key×Addr×Value)}(r:KT H ai xs)(k:List Key):KT H (AB ai k) (xs.filter λx=>decide (x.1≠k)):=by
 induction r with
 | nil=>exact .nil
 | @cons p q ps qs h t ih=>
  unfold AB at ih ⊢;rw[mP,mP];by_cases e:p.1=k
  ·rw[nU (by simp [e]),nU (by rw[h.1]at e;simp [e])];exact ih
  ·rw[nV (by simp [e]),nV (by rw[h.1]at e;simp [e])];exact .cons h ih
theorem DX{α β:Type}(f:α->β):∀(xs:List α) (j:Nat),(xs.map f).eraseIdx j=(xs.eraseIdx j).map f
 | [],_=>rfl
 | _::_,0=>rfl
 | x::r,j+1=>by rw[mX,List.eraseIdx_cons_succ,List.eraseIdx_cons_succ,mX,DX f r j]
theorem uH{K:Type} [DecidableEq K]{k:K} :∀{xs:List (K×Addr×Value)} {j:Nat} {p:Addr×Value},(xs.map (·.1)).Nodup->xs[j]? = some (k,p)->xs.eraseIdx j=xs.filter λx=>decide (x.1≠k)
 | [],_,_,_,e=>by simp at e
 | x::r,0,p,hn,e=>by
  simp only[List.getElem?_cons_zero,Option.some.injEq]at e;subst e;rw[mX,List.nodup_cons]at hn;rw[List.eraseIdx_zero,List.tail_cons,mP,nU (by simp)]
  symm
  rw[List.filter_eq_self];intro y hy;have:y.1≠k:=λz=>hn.1 (nI.mpr ⟨y,hy,z⟩);simp [this]
 | x::r,j+1,p,hn,e=>by
  rw[mX,List.nodup_cons]at hn;have e':r[j]? = some (k,p):=by simpa using e
  have hx:x.1≠k:=λz=>hn.1 (z▸nI.mpr ⟨(k,p),gX e',rfl⟩);rw[List.eraseIdx_cons_succ,mP,nV (by simp [hx]),uH hn.2 e']
section
variable{prog:Program}{w:World}{K:Type} [DecidableEq K]{knd:HeapKind prog w K}{A:Around}{E:Value->Shared->Prop}{s:Shared}
theorem EW{d a:Addr}{xs:List (K×Addr×Value)}{k:K}{p:Addr×Value}{Q:Option DictEntry->Shared->Prop}(hu:knd.room A)(hkey:knd.is s.heap k a)(hm:s.heap.DictOfH knd d xs)(hz:xs.length<=sizeLine)(hp:atKey xs k=some p)
  (hs:∀h',h'.DictOfH knd d (xs.filter λx=>decide (x.1≠k))->Heap.SameBut d s.heap h'->Q (some (entryOfKey knd (k,p))) { s with heap:=h',toks:=s.toks+knd.draws k }) :
  wpAny (model prog w) A (Builtin.Dict.takeOut d (.ref a)) Q E s:=by
 obtain⟨o,es,ep,ho,hc,hd,he,his,hn⟩:=hm;have hes:es.size<=sizeLine:=by rw[size_of_entries he];exact hz
 unfold Builtin.Dict.takeOut;try with_reducible refine wpAny_holding ?_
 refine nQ (knd.pyHash hu hkey (nQ (wpAny_dictFind_heap (s:={ s with toks:=s.toks+knd.draws k }) hu hkey ho hd he his hn ?_ ?_)))
 ·intro hno;rw[atKey_none_of_get hno]at hp;cases hp
 ·intro j p' hj;rw[atKey_of_get hn hj]at hp;cases hp;refine nQ (wpAny_dictEntries (s:={ s with toks:=s.toks+knd.draws k }) ho hd ?_);rw[entry_at he j,hj];refine nQ (wpAny_updateDictKeys (hz:=hes) (s:={ s with toks:=s.toks+knd.draws k }) ho hd (nS (hs _ ⟨_,_,ep+1,Heap.get?_update_self _ ho (Obj.isFreed_of_dict (Obj.data_mapDictKeys hd _)),hc.mapDictKeys _,Obj.data_mapDictKeys hd _, ?_, ?_, ?_⟩ (Heap.SameBut.update ..))))
  ·rw[<-uH hn hj];obtain⟨l⟩:=es;simp only at he;subst he;show((List.map (entryOfKey knd) xs).toArray.eraseIdxIfInBounds j).toList=_;rw[List.eraseIdxIfInBounds_toArray];exact DX _ xs j
  ·intro x hx;exact knd.keeps (his x (List.mem_filter.mp hx).1) ho hd (Heap.SameBut.update ..)
  ·exact hn.sublist (List.filter_sublist.map _)
theorem KR{d a:Addr}{k:K} :
  MeetsIn prog w (Builtin.«dict.pop» ⟨[.ref d,.ref a],[]⟩) (λA R s=>∃xs p,knd.room A.in1/\knd.is s.heap k a/\s.heap.DictOfH knd d xs/\xs.length<=sizeLine/\atKey xs k=some p/\
   ∀h',h'.DictOfH knd d (xs.filter λx=>decide (x.1≠k))->Heap.SameBut d s.heap h'->R (.ok (.ret p.2)) { s with heap:=h',toks:=s.toks+knd.draws k }):=
 .of_wp λA R s ⟨xs,p,hu,hkey,hm,hz,hp,h⟩=>by
  unfold Builtin.«dict.pop»;refine nQ ?_;unfold Builtin.Dict.keyAndDefault;refine nQ (wpAny_notOrdered_dict hm.typeIs ?_);show wpAny _ _ (pure (d,Value.ref a,none)) _ _ s;refine nS ?_;obtain⟨o,es,ep,ho,hc,hd,he,his,hn⟩:=id hm;have ne:es.isEmpty=false:=by
   have e1:=size_of_entries he;have e2:xs≠[]:=λz=>by subst z;cases hp
   have e3:0<xs.length:=List.length_pos_iff.mpr e2;rw[Array.isEmpty_eq_false_iff_exists_mem];exact⟨es[0]'(by lia),Array.getElem_mem _⟩
  have go:wpAny (model prog w) A.in1 (Builtin.Dict.takeOut d (.ref a)) (λold s'=>old=some (entryOfKey knd (k,p))/\R (.ok (.ret p.2)) s') (λ_ _=>False) s:=
   EW hu hkey hm hz hp λh' hm' hs'=>⟨rfl,h h' hm' hs'⟩
  have kp:(keyPart (Value.ref a)).isSome=false:=rfl;simp only[kp,Bool.false_eq_true,if_false];refine nQ (wpAny_dictEntries ho hd ?_);rw[ne];refine nQ (nS ?_);simp only[Bool.false_eq_true,if_false];refine nQ (nT go (λold s' ⟨e1,hR⟩=>?_) λ_ _ z=>z.elim);subst e1;simp only[Option.isNone_some,Bool.false_eq_true,if_false];exact nQ (wpAny_letGo (nS ⟨p.2,rfl,hR⟩))
end
section
variable{X:Cx}{af:List (Addr×Obj)}{σ:L2.St}{H:Hp}{s:Shared}{a b:Addr}{ai:List (List Key×V)}{k:List Key}{E:Value->Shared->Prop}
theorem d_popT{v:V}{Q:Value->Shared->Prop}(hu:X.A.units+1<cLine)(I:Inv X af σ H s)(e:H a=some (.dT ai))(eb:H b=some (.tup (k.map kV)))(l:xV ai k=some v)
  (h:∀w' s',Inv X af σ (upd H a (.dT (AB ai k))) s'->RelV v w'->Q w' s'):wpAny (model X.prog X.w) X.A (call (.builtin "dict.pop") [.ref a,.ref b]) Q E s:=by
 obtain⟨z,hd,xs,rel,dd⟩:=ZC I.hok e;have hz:xs.length<=sizeLine:=by rw[<-Paired.length rel];exact z
 have rv:=rel.val k;rw[l]at rv;cases hp:atKey xs k with
 | none=>rw[hp]at rv;exact rv.elim
 | some p=>
  rw[hp]at rv;refine call_meetsIn PySem.F.slot_dict_pop dd.typeIs PySem.F.entry_dict_pop (PySem.F.args_dict_pop_2 _ _) (KR (knd:=tupleKind (qK X.prog X.w)) (k:=k)) ⟨xs,p,tupleKind_room_in1 hu,uU I.hok eb,dd,hz,hp,λh' dd' hs=>h p.2 _ ?_ rv⟩;obtain⟨q,es,ep,hq,h2,h3,h4,_,h5⟩:=dd';have hl:(AB ai k).length<=sizeLine:=nG (VB ai k) z;refine GV I (by rw[e];exact True.intro) hs ⟨q,hq⟩ ⟨hl,hd,_,(KTdrop rel k).keeps λc ys ec=>?_,q,es,ep,hq,h2,h3,h4,h5⟩;rw[jN (ZB ec e (λz=>nomatch z))];exact ec
variable{o e:Expr}{td ty:TE}{apos cpos:Pos}
def ZM(td ty:TE):TE:=fun σ H Q=>td σ H λx H1=>∃a,x=.ref a/\IsD H1 a/\ty σ H1 λy H2=>∃ai k v b,H2 a=some (.dT ai)/\y=.ref b/\H2 b=some (.tup (k.map kV))/\xV ai k=some v/\Q v (upd H2 a (.dT (AB ai k)))
theorem TF(hu:X.A.units+1<cLine)(ho:PE X o td)(he:PE X e ty)(m:M1 X o "pop" apos e cpos):PE X (.Call (.Attribute o "pop" apos) [e] [] cpos) (ZM td ty):=by
 intro af s σ H Q I h;refine wpAny_Call_method m.base m.few m.line PySem.F.plainAttrs_dict PySem.F.slot_dict_pop PySem.F.type_dict_pop (thn (ho af s σ H _ I h) λu s1 ⟨x,H1,I1,rx,a,ex,d,q1⟩=>?_);subst ex;obtain rfl:u=Value.ref a:=rx;obtain⟨t1,t2,_⟩:=UN I1 d;refine⟨t1,t2, ?_⟩;rw[m.trees];refine Calls.callWith_builtin rfl (Calls.evalArgs_plain (Calls.spliced_cons (thn (he af s1 σ H1 _ I1 q1) λiv s2 ⟨y,H2,I2,ry,ai,k,v,b,ea,ey,eb,l,q2⟩=>Calls.spliced_nil ?_)));subst ey;cases ry;exact d_popT hu I2 ea eb l λw' s3 I3 rw'=>⟨v,_,I3,rw',q2⟩
end
def Raw(h:Heap)(d:Addr)(es:Array DictEntry)(ep:Nat):Prop:=∃o,h.get? d=some o/\o.ExactDict/\o.data=.dict es ep
theorem Raw.lt{h:Heap}{d:Addr}{es:Array DictEntry}{ep:Nat}(r:Raw h d es ep):d<h.objs.size:=let ⟨_,e,_⟩:=r;nF e
theorem Raw.keep{h h':Heap}{d:Addr}{es:Array DictEntry}{ep:Nat}(r:Raw h d es ep)(k:∀o,h.get? d=some o->h'.get? d=some o):Raw h' d es ep:=let ⟨o,e,x⟩:=r;⟨o,k o e,x⟩
theorem Raw.ty{s:Shared}{d:Addr}{es:Array DictEntry}{ep:Nat}(r:Raw s.heap d es ep):s.TypeIs (.ref d) "dict":=let ⟨o,e,c,_⟩:=r;⟨o,e,c.1⟩
section
variable{prog:Program}{w:World}{A:Around}{E:Value->Shared->Prop}{s:Shared}{d it:Addr}{es:Array DictEntry}{ep i:Nat}
theorem SU{Q:Value->Shared->Prop}(lo:(d==sysModules)=false)(r:Raw s.heap d es ep)
  (q:Q (.ref s.heap.objs.size) { s with heap:=s.heap.push { cls:=.type "dict_keyiterator",data:=.fields #[.ref d,.int 0 0,.int es.size 0,.int ep 0] } }):wpAny (model prog w) A (pyIter (.ref d)) Q E s:=by
 have ty:=r.ty;obtain⟨o,ho,hc,hdat⟩:=r;refine wpAny_pyIter_slot ty PySem.F.slot_dict_iter (wpAny_call_entry PySem.F.slot_dict_iter ty PySem.F.entry_dict_iter ?_ (PySem.F.args_dict_iter_1 _));unfold Builtin.«dict.__iter__»;refine nQ (show wpAny _ _ (Builtin.Dict.dictSlotNone _ _) _ _ s from ?_);unfold Builtin.Dict.dictSlotNone;refine nQ (wpAny_notOrdered_dict ty (show wpAny _ _ (pure (Value.ref d)) _ _ s from nS ?_));show wpAny _ _ (Builtin.Dict.showsAll d >>= _) _ _ s;unfold Builtin.Dict.showsAll;rw[nU (by rw[lo];exact hW)];refine nQ (nS (nQ (wpAny_dictEntries ho hdat (nQ (wpAny_dictEpoch ho hdat ?_)))));refine nQ (wpAny_newObj_type (nS ⟨_,rfl,"dict_keyiterator",_,⟨_,hU _ rfl,rfl⟩,PySem.F.slot_dict_keyiterator_next.lookup, ?_⟩));simpa [rawInt]using q
theorem ST{Q:Option Value->Shared->Prop}(k:s.heap.IsKeyIter it d i es.size ep)(r:Raw s.heap d es ep)(hi:i<es.size)
  (q:∀h',h'.IsKeyIter it d (i+1) es.size ep->Heap.SameBut it s.heap h'->Q (some es[i].key) { s with heap:=h' }):wpAny (model prog w) A (pyNext (.ref it)) Q E s:=by
 have ty:=k.typeIs;obtain⟨o,ho,hc,hd⟩:=id k;obtain⟨od,hod,hcd,hdd⟩:=id r;have own:Builtin.Dict_items.ownsTuple "dict_keyiterator" = false:=by decide
 unfold pyNext;refine nQ (wpAny_attempt (wpAny_callSpecial?_slot (name:=Str.ofString "__next__") ty PySem.F.slot_dict_keyiterator_next (wpAny_call_entry PySem.F.slot_dict_keyiterator_next ty PySem.F.entry_dict_keyiterator_next ?_ (PySem.F.args_dict_keyiterator_next_1 _))));refine nQ (nS (nQ (nQ ?_)));first | refine nQ (wpAny_typeNameOfWhole_keyiter ty (nS (nQ (wpAny_fieldsOf ho hd ?_)))) | refine nQ (wpAny_typeNameOf_keyiter ty (nS (nQ (wpAny_fieldsOf ho hd ?_))))
 simp only[own,Bool.false_eq_true,if_false];show wpAny _ _ (if (Value.ref d==Value.none)=true then _ else _) _ _ s;rw[nU (show ¬((Value.ref d==Value.none)=true)from hW)];refine nQ (nS (nQ (wpAny_dictEntries hod hdd ?_)));rw[nU (by simp)];refine nQ (nS (nQ (wpAny_dictEpoch hod hdd ?_)));rw[nU (by simp)];refine nS ?_;simp only[show ¬((i:Int)<0)from by lia,if_false,mJ,Array.getElem?_eq_getElem hi];refine nQ ?_;first | refine nQ (wpAny_typeNameOfWhole_keyiter ty (nS (nQ (wpAny_isOneOf_keyiter ty ?_)))) | refine nQ (wpAny_typeNameOf_keyiter ty (nS (nQ (wpAny_isOneOf_keyiter ty ?_))))
 show wpAny _ _ (setField (.ref it) 1 (rawInt ((i:Int)+1)) >>= _) _ _ s;have k':(s.heap.update it (Obj.mapFields (·.setIfInBounds 1 (rawInt ((i:Int)+1))))).IsKeyIter it d (i+1) es.size ep:=
  ⟨_,Heap.get?_update_self _ ho (Obj.isFreed_of_fields (Obj.data_mapFields hd _)),(Obj.cls_mapFields ..).trans hc,by rw[Obj.data_mapFields hd];simp [rawInt]⟩
 refine nQ (wpAny_setField ho hd (by simp) (nQ (wpAny_holding ?_)));refine nQ (wpAny_isOneOf_keyiter (s:={ s with heap:=s.heap.update it (Obj.mapFields (·.setIfInBounds 1 (rawInt ((i:Int)+1)))) }) k'.typeIs ?_);show wpAny _ _ (pure es[i].key) _ _ _;exact nS (nS ⟨_,rfl,nS (q _ k' (Heap.SameBut.update ..))⟩)
theorem WO{Q:Option Value->Shared->Prop}(hh:A.handled=none)(k:s.heap.IsKeyIter it d es.size es.size ep)(r:Raw s.heap d es ep)(q:∀h',Heap.ExtBut it s.heap h'->Q none { s with heap:=h' }):wpAny (model prog w) A (pyNext (.ref it)) Q E s:=by
 have ty:=k.typeIs;obtain⟨o,ho,hc,hd⟩:=id k;obtain⟨od,hod,hcd,hdd⟩:=id r;have own:Builtin.Dict_items.ownsTuple "dict_keyiterator" = false:=by decide
 unfold pyNext;refine nQ (wpAny_attempt (wpAny_callSpecial?_slot (name:=Str.ofString "__next__") ty PySem.F.slot_dict_keyiterator_next (wpAny_call_entry PySem.F.slot_dict_keyiterator_next ty PySem.F.entry_dict_keyiterator_next ?_ (PySem.F.args_dict_keyiterator_next_1 _))));refine nQ (nS (nQ (nQ ?_)));first | refine nQ (wpAny_typeNameOfWhole_keyiter ty (nS (nQ (wpAny_fieldsOf ho hd ?_)))) | refine nQ (wpAny_typeNameOf_keyiter ty (nS (nQ (wpAny_fieldsOf ho hd ?_))))
 simp only[own,Bool.false_eq_true,if_false];show wpAny _ _ (if (Value.ref d==Value.none)=true then _ else _) _ _ s;rw[nU (show ¬((Value.ref d==Value.none)=true)from hW)];refine nQ (nS (nQ (wpAny_dictEntries hod hdd ?_)));rw[nU (by simp)];refine nQ (nS (nQ (wpAny_dictEpoch hod hdd ?_)));rw[nU (by simp)];refine nS ?_;simp only[show ¬((es.size:Int)<0)from by lia,if_false,mJ,Array.getElem?_eq_none (nN es.size)];refine nQ ?_;first | refine nQ (wpAny_typeNameOfWhole_keyiter ty (nS ?_)) | refine nQ (wpAny_typeNameOf_keyiter ty (nS ?_))
 show wpAny _ _ (setField (.ref it) 0 .none >>= _) _ _ s;refine nQ (wpAny_setField ho hd (by simp) (show wpAny _ _ (newExc (.type "StopIteration") [] >>= _) _ _ _ from nQ ?_));simp only[newExc,newTuple];refine nQ (wpAny_newObj_type (nQ (m:=firstArgMember _ _) (wpAny_of_eq (a:=Value.none) (by first | rfl | (simp only[firstArgMember];rfl)) (wpAny_newObj_type ?_ (by size_fits)))) (by size_fits));simp only[raiseNew];refine nQ (wpAny_handled ?_);rw[show A.in1.handled=none from hh];refine nQ (nS (wpAny_throw ?_));refine nQ (wpAny_isInstance (b:=true) (T:="StopIteration") ⟨_,hU _ rfl,rfl⟩ isSubtype_stop ?_);exact nS (q _ (((Heap.SameBut.update ..).extBut.push _).push _))
theorem PQ(hh:A.handled=none)(hne:d≠it):Walks prog w A it [it,d] [it] es.size (λi v=>∃h:i<es.size,v=es[i].key) (λi h=>h.IsKeyIter it d i es.size ep/\Raw h d es ep) where
 sub:=λb hb=>by simp at hb;simp [hb]
 frame:=λ_ _ _ st hk=>⟨st.1.at λo e=>hk it (by simp) o e,st.2.keep λo e=>hk d (by simp) o e⟩
 item:=λi s Q E hi st hQ=>ST st.1 st.2 hi λh' k' hs'=>hQ _ h' s.toks ⟨hi,rfl⟩ ⟨k',st.2.keep λo e=>hs'.extBut d o hne e⟩ λb o hb e=>hs'.extBut b o (λh=>hb (by simp [h])) e
 done:=λs Q E st hQ=>WO hh st.1 st.2 λh' he'=>hQ h' s.toks λb o hb e=>he' b o (λh=>hb (by simp [h])) e
 self:=λ_ _ _ _ st hQ=>wpAny_pyIter_keyiter st.1 hQ
theorem NA(lo:(d==sysModules)=false):PySem.W.KdlSrc prog w "dict" d d es.size (λi v=>∃h:i<es.size,v=es[i].key) (λh=>Raw h d es ep) where
 type:=λ_ hm=>hm.ty
 there:=λ_ hm=>⟨hm.lt,hm.lt⟩
 keep:=λ_ _ hm hk=>hm.keep λo e=>hk d (.inl rfl) o e
 notList:=by decide
 notTuple:=by decide
 hint:=λ_ _ _ _ hm hq=>PySem.W.kdl_hint_dict hm.ty hq
 iter:=λ_ _ hh hm=>⟨_,_,(λ_ _ hq=>SU lo hm hq),PQ hh (nH hm.lt),⟨⟨_,hU _ rfl,rfl,rfl⟩,hm.keep λo e=>gP _ e⟩⟩
end
end LwD
namespace LwD
open PySem PySem.W PySem.Spec PyProof.Rows
def Pm(n:Nat)(p:Array Nat):Prop:=p.toList.Perm (List.range n)
theorem Pm.size{n:Nat}{p:Array Nat}(h:Pm n p):p.size=n:=by have:=h.length_eq;simpa using this
theorem Pm.lt{n:Nat}{p:Array Nat}(h:Pm n p){i:Nat}(hn:0<n):p.getD i 0<n:=by
 by_cases hi:i<p.size
 ·have:p.getD i 0∈p.toList:=by simp [Array.getD,hi]
  exact mV.mp (h.mem_iff.mp this)
 ·simp [Array.getD,hi,hn]
theorem Pm.rev{n:Nat}{p:Array Nat}(h:Pm n p)(i j:Nat):Pm n (kas_rev p i j):=(Array.perm_iff_toList_perm.mp (mirror_perm p i j _)).trans h
theorem Pm.bub{n:Nat}{p:Array Nat}(h:Pm n p)(i j:Nat):Pm n (bubble p i j):=(Array.perm_iff_toList_perm.mp (bubble_perm p i j)).trans h
section
variable{prog:Program}{w:World}{A:Around}{E:Value->Shared->Prop}{s:Shared}
end
end LwD
namespace LwD
open PySem PySem.Spec PyProof.Rows L2 Lw
theorem XJ{h:Heap}{a:Addr}{m m':Str->Option Value}(x:h.Ns a m)(y:h.Ns a m'):m=m':=by
 obtain⟨o,es,ep,ho,hd,hk,hm⟩:=x;obtain⟨o',es',ep',ho',hd',hk',hm'⟩:=y;rw[ho]at ho';cases ho';rw[hd]at hd';cases hd'
 funext z
 rw[<-hm z,<-hm' z]
theorem TX{P:Program}{w:World}{H:Hp}{h:Heap}{a:Addr}{o:HO}(x:ObjOk P w H h a o):∃q,h.get? a=some q:=by
 cases o with
 | lst xs=>obtain⟨_,_,_,_,e⟩:=x;exact⟨_,e⟩
 | tup xs=>obtain⟨_,_,_,⟨q,e,_⟩,_⟩:=x;exact⟨_,e⟩
 | dK ai=>obtain⟨_,_,_,_,o,_,_,e,_⟩:=x;exact⟨_,e⟩
 | dT ai=>obtain⟨_,_,_,_,o,_,_,e,_⟩:=x;exact⟨_,e⟩
 | set S n=>obtain⟨o,_,_,_,e,_⟩:=x;exact⟨_,e⟩
 | ins C dx fs=>obtain⟨_,_,_,e,_⟩:=x;exact⟨_,e⟩
 | own y=>exact x
 | xd fs=>obtain⟨_,⟨_,_,_,e,_⟩,_⟩:=x;exact⟨_,e⟩
 | rng lo hi=>obtain⟨_,_,_,e⟩:=x;exact⟨_,e⟩
 | frz ob u=>exact⟨_,x.1⟩
 | tbl ps=>exact⟨_,x⟩
 | met f y=>exact⟨_,x⟩
 | ext φ=>exact x.2.1
section
variable{X:Cx}{af:List (Addr×Obj)}{σ:L2.St}{H:Hp}{s:Shared}
theorem gA{D:Addr}{o:Obj}{ho:HO}{h3:Heap}{m:Str->Option Value}{tk:Nat}(I:Inv X af σ H s)(F:Fr X.base X.env.locals s.heap m)(F3:Fr X.base X.env.locals h3 m)(N3:News X.base X.env.locals h3 ((D,o)::xL X.base s.heap X.env.locals))
  (lt:∀q∈xL X.base s.heap X.env.locals,q.1<D) (new:h3.get? D=some o->ObjOk X.prog X.w (upd H D ho) h3 D ho):H D=none/\Inv X af σ (upd H D ho) { s with heap:=h3,toks:=tk } :=by
 have n1:=N3 (D,o) (mC ..);have dn:s.heap.get? D=none:=by
  cases q:s.heap.get? D with
  | none=>rfl
  | some u=>exact absurd (lt _ (xY n1.2.1 n1.2.2 q)) (mZ _)
 have Hn:H D=none:=by
  cases q:H D with
  | none=>rfl
  | some u=>
   obtain⟨z,e⟩:=TX (I.hok D u q);rw[dn]at e;cases e
 have kp:∀b u,b≠X.env.locals->s.heap.get? b=some u->h3.get? b=some u:=λb u hb e=>by
  cases q:X.base.get? b with
  | some z=>
   have y:=I.bk b z q;rw[e]at y;cases y;exact F3.keep b _ q
  | none=>exact(N3 (b,u) (gY _ (xY hb q e))).1
 have ne:∀b u,s.heap.get? b=some u->b≠D:=λb u e z=>by rw[z,dn]at e;cases e
 have thr:∀b u,s.heap.get? b=some u->∃u',h3.get? b=some u':=λb u e=>by
  by_cases hb:b=X.env.locals
  ·obtain⟨u',_,_,e',_⟩:=F3.ns;exact⟨u',by rw[hb];exact e'⟩
  ·exact⟨u,kp b u hb e⟩
 refine⟨Hn,I.step (g':=s.gens) (d':=s.drawn) (ch:=[]) (λ_ z=>nomatch z) (λb u hb _ _ e _=>kp b u hb e) (λb u hb _ _ e _=>⟨u.slots,kp b u hb e⟩) (λb u _ e n=>?_) (λb u _ e=>thr b u e) (λb xs e=>?_) (λb u v e=>?_) (λb ps e=>?_) (λm' hm=>?_) (λb u e=>?_) I.bare⟩
 ·rw[jN (ne b u e)];exact n
 ·rw[jN (jY e Hn)];exact e
 ·rw[jN (jY e Hn)];exact e
 ·exact⟨#[],by rw[jN (jY e Hn),e];simp⟩
 ·rw[XJ hm F.ns];exact F3.ns
 ·by_cases hb:b=D
  ·subst hb;rw[jF]at e;cases e;exact new n1.1
  ·rw[jN hb]at e;refine(I.hok b u e).stay (λc v hc q=>kp c v (λz=>?_) q) (λc q=>by rw[jN (jY q Hn)];exact q) λc xs q=>by rw[jN (jY q Hn)];exact q
   rcases hc with y | y
   ·rw[<-y,z,I.free]at e;cases e
   ·rw[z,I.free]at y;cases y
end
section
variable{prog:Program}{w:World}{A:Around}{E:Value->Shared->Prop}{s:Shared}
theorem KD{a:Addr}{vs:List Value}{n:Nat}{Q:Value->Shared->Prop}(ho:s.heap.get? a=some (seqObj "list" vs.toArray n))(h2:vs.length<2)(q:Q .none { s with heap:=sortedHeap s.heap a vs vs.toArray }):wpAny (model prog w) A (call (.builtin "list.sort") [.ref a]) Q E s:=by
 refine wpAny_call_entry slot_list_sort ⟨_,ho,rfl⟩ entry_list_sort ?_ (args_list_sort _);rw[list_sort_plain];have ha:a<s.heap.objs.size:=nF ho;obtain⟨e1,ho1⟩:∃e1,(s.heap.update a (Obj.mapSeq λ_=>#[])).get? a=some (seqObj "list" #[] e1):=⟨_,get?_update_seq ho (λ_=>#[])⟩;have ho6:(((s.heap.update a (Obj.mapSeq λ_=>#[])).push (seqObj "tuple" vs.toArray 0)).push (seqObj "list" #[] 0)).get? a=some (seqObj "list" #[] e1):=gP _ (gP _ ho1);have hz:vs.toArray.size<2:=by simpa using h2
 refine nQ (listItems_at ho rfl (nQ (listUpdate_at ho rfl (nQ (seqEpoch_at ho1 rfl (nQ (wpAny_newTuple (nQ (wpAny_newList (wpAny_holding ?_))))))))));show wpAny (model prog w) _ _ _ E { s with heap:=((s.heap.update a (Obj.mapSeq λ_=>#[])).push (seqObj "tuple" vs.toArray 0)).push (seqObj "list" #[] 0) };dsimp only;rw[nV hz,nV hz];refine nQ (nS ?_);rw[StateT.run_pure];refine nQ (nS ?_);dsimp only;have hm:(arrOf (SortSt.mk' general' (vs.toArray.zip vs.toArray) #[] 7 none)).map (·.2)=vs.toArray:=by
  show(vs.toArray.zip vs.toArray).map (·.2)=vs.toArray;apply Array.ext';simp [List.map_snd_zip]
 refine nQ (seqEpoch_at ho6 rfl (nQ (listUpdate_at ho6 rfl ?_ (hsz2:=by rw[hm,sizeLine_eq];lia))));rw[hm];simp only[bne_self_eq_false,Bool.false_eq_true,if_false];exact nS ⟨_,rfl,q⟩
end
abbrev ik(ns:List Int):List Key:=ns.map Sum.inl
theorem zR(ns:List Int):(ik ns).map kV=ns.map V.int:=by
 unfold ik;rw[List.map_map]
 rfl
section
variable{X:Cx}
end
theorem KTgetI{H:Hp}{ai:List (List Key×V)}{xs:List (List Key×Addr×Value)}(r:KT H ai xs):∀{j:Nat} {q:List Key×Addr×Value},xs[j]? = some q->∃v,ai[j]? = some (q.1,v)/\H q.2.1=some (.tup (q.1.map kV)):=by
 induction r with
 | nil=>intro j q e;simp at e
 | @cons p q' ps qs h t ih=>
  intro j q e;cases j with
  | zero=>
   simp only[List.getElem?_cons_zero,Option.some.injEq]at e;subst e;exact⟨p.2,by rw[<-h.1];rfl,by rw[<-h.1];exact h.2.1⟩
  | succ j=>
   simp only[gO]at e ⊢;exact ih e
def Keyed(H:Hp)(ys:List V)(zs:List (List Key×V)):Prop:=ys.length=zs.length/\∀(i:Nat) (y:V) (p:List Key×V),ys[i]? = some y->zs[i]? = some p->∃(b:Addr) (ns:List Int),y=.ref b/\H b=some (.tup (ns.map V.int))/\p.1=ik ns
theorem yU{α:Type}(l:List α)(d:α):(List.range l.length).map (λi=>l.getD i d)=l:=by
 apply List.ext_getElem
 ·simp
 ·intro i h1 h2;simp at h1;simp [h1]
end LwD
namespace L2
open PySem PySem.Spec PyProof.Rows
section
variable{prog:Program}{w:World}{A:Around}{E:Value->Shared->Prop}{s:Shared}
theorem nextT{it t:Addr}{k:Nat}{its:Array Value}{v:Value}{Q:Value->Shared->Prop}(st:s.heap.IsTupleIter it t k)(tu:s.heap.IsTuple t its)(hv:its[k]? = some v)
  (q:∀g,g.IsTupleIter it t (k+1)->Heap.SameBut it s.heap g->Q v { s with heap:=g }):wpAny (model prog w) A (Builtin.SmallTypes.nextOf (.ref it)) Q E s:=by
 obtain⟨oi,gi,ci,di⟩:=id st;obtain⟨ot,gt,_,nt,dt⟩:=tu;unfold Builtin.SmallTypes.nextOf;refine nQ (wpAny_callSpecial?_slot (name:=Str.ofString "__next__") st.typeIs F.slot_tuple_iterator_next (wpAny_call_entry F.slot_tuple_iterator_next st.typeIs F.entry_tuple_iterator_next ?_ (F.args_tuple_iterator_next_1 _)));show wpAny _ _ (field (.ref it) 0 >>= _) _ _ _;refine nQ (wpAny_field gi di (x:=.ref t) rfl ?_);show wpAny _ _ (if (Value.ref t==Value.none)=true then _ else _) _ _ _;rw[nU (show ¬(Value.ref t==Value.none)=true from hW)];show wpAny _ _ (field (.ref it) 1 >>= _) _ _ _;refine nQ (wpAny_field gi di (x:=.int k 0) rfl ?_);show wpAny _ _ (seqItems? (.ref t) >>= _) _ _ _;refine nQ (wpAny_seqItems gt dt ?_);simp only[mJ,hv];refine nQ (wpAny_setField gi di (by simp) (nS ⟨v,rfl,nS (q _ ⟨_,Heap.get?_update_self _ gi (Obj.isFreed_of_fields (Obj.data_mapFields di _)),(Obj.cls_mapFields ..).trans ci,by rw[Obj.data_mapFields di];simp [rawInt]⟩ (Heap.SameBut.update ..))⟩))
theorem QE{it t:Addr}{k:Nat}{its:Array Value}{Q:Value->Shared->Prop}(hh:A.handled=none)(st:s.heap.IsTupleIter it t k)(tu:s.heap.IsTuple t its)(hv:its[k]? = none)
  (q:∀g e,Heap.ExtBut it s.heap g->(∃o,g.get? e=some o/\o.cls=.type "StopIteration")->E (.ref e) { s with heap:=g }):wpAny (model prog w) A (Builtin.SmallTypes.nextOf (.ref it)) Q E s:=by
 obtain⟨oi,gi,ci,di⟩:=id st;obtain⟨ot,gt,_,nt,dt⟩:=tu;unfold Builtin.SmallTypes.nextOf;refine nQ (wpAny_callSpecial?_slot (name:=Str.ofString "__next__") st.typeIs F.slot_tuple_iterator_next (wpAny_call_entry F.slot_tuple_iterator_next st.typeIs F.entry_tuple_iterator_next ?_ (F.args_tuple_iterator_next_1 _)));show wpAny _ _ (field (.ref it) 0 >>= _) _ _ _;refine nQ (wpAny_field gi di (x:=.ref t) rfl ?_);show wpAny _ _ (if (Value.ref t==Value.none)=true then _ else _) _ _ _;rw[nU (show ¬(Value.ref t==Value.none)=true from hW)];show wpAny _ _ (field (.ref it) 1 >>= _) _ _ _;refine nQ (wpAny_field gi di (x:=.int k 0) rfl ?_);show wpAny _ _ (seqItems? (.ref t) >>= _) _ _ _;refine nQ (wpAny_seqItems gt dt ?_);simp only[mJ,hv];refine nQ (wpAny_rule (nQ (wpAny_setField gi di (by simp) ?_)));show wpAny _ _ (newExc (.type "StopIteration") [] >>= _) _ _ _;refine nQ ?_;simp only[newExc,newTuple];refine nQ (wpAny_newObj_type ?_ (by size_fits));refine nQ (m:=firstArgMember _ _) (wpAny_of_eq (a:=Value.none) (by first | rfl | (simp only[firstArgMember];rfl)) ?_);refine wpAny_newObj_type ?_ (by size_fits);simp only[raiseNew];refine nQ (wpAny_handled ?_);first | rw[show A.in1.handled=none from hh] | rw[hh]
 exact nQ (nS (wpAny_throw (q _ _ (((Heap.SameBut.update ..).extBut.push _).push _) ⟨_,hU _ rfl,rfl⟩)))
theorem IsTupleIter.as{h h':Heap}{a t:Addr}{k:Nat}(x:h.IsTupleIter a t k)(f:∀o,h.get? a=some o->h'.get? a=some o):h'.IsTupleIter a t k:=let ⟨o,ho,r⟩:=x;⟨o,f o ho,r⟩
structure Src(prog:Program)(w:World)(i:Addr) where
 at_:Nat->Heap->Prop
 has:List V->Heap->Prop
 dep:List Addr
 next:∀{xs:List V} {A:Around} {E:Value->Shared->Prop} {s:Shared} {k:Nat} {x:V} {Q:Value->Shared->Prop},at_ k s.heap->has xs s.heap->xs[k]? = some x->(∀g (t:Nat) u,RelV x u->at_ (k+1) g->Heap.SameBut i s.heap g->Q u { s with heap:=g,toks:=t })->wpAny (model prog w) A (Builtin.SmallTypes.nextOf (.ref i)) Q E s
 stop:∀{xs:List V} {A:Around} {E:Value->Shared->Prop} {s:Shared} {k:Nat} {Q:Value->Shared->Prop},A.handled=none->at_ k s.heap->has xs s.heap->xs[k]? = none->(∀g e,Heap.ExtBut i s.heap g->(∃o,g.get? e=some o/\o.cls=.type "StopIteration")->E (.ref e) { s with heap:=g })->wpAny (model prog w) A (Builtin.SmallTypes.nextOf (.ref i)) Q E s
 atk:∀{k:Nat} {h h':Heap},at_ k h->(∀o,h.get? i=some o->h'.get? i=some o)->at_ k h'
 hask:∀{xs:List V} {h h':Heap},has xs h->(∀c∈dep,∀o,h.get? c=some o->h'.get? c=some o)->has xs h'
 obj:∀{k:Nat} {h:Heap},at_ k h->∃o,h.get? i=some o/\∀v,o.data≠.cell v
structure Five(z TI TO i1 i2:Addr):Prop where
 nd:[z,TI,TO,i1,i2].Nodup
structure ZG(z TI TO:Addr){i1 i2:Addr}(S1:Src prog w i1)(S2:Src prog w i2)(k:Nat)(h:Heap):Prop where
 zz:IsZip h z TI TO .none
 ti:IsPair h TI (.ref i1) (.ref i2)
 to:∃a b,IsPair h TO a b
 one:S1.at_ k h
 two:S2.at_ k h
structure ZA(z TI TO i1 i2:Addr)(d:List Addr):Prop where
 TIz:TI≠z
 TOz:TO≠z
 i1z:i1≠z
 i2z:i2≠z
 TITO:TI≠TO
 TIi1:TI≠i1
 TIi2:TI≠i2
 TOi1:TO≠i1
 TOi2:TO≠i2
 i12:i1≠i2
 dz:∀l∈d,l≠z/\l≠TO/\l≠i1
theorem Five.za{z TI TO i1 i2:Addr}{d:List Addr}(F:Five z TI TO i1 i2)(h:∀b∈[z,TI,TO,i1,i2],b∉d):ZA z TI TO i1 i2 d:=by
 have nd:=F.nd;simp only[List.nodup_cons,mY,not_or,mL]at nd;obtain⟨⟨a1,a2,a3,a4,_⟩,⟨b1,b2,b3,_⟩,⟨c1,c2,_⟩,⟨d1,_⟩,_⟩:=nd;exact⟨Ne.symm a1,Ne.symm a2,Ne.symm a3,Ne.symm a4,b1,b2,b3,c1,c2,d1,λl hl=>⟨λe=>h z (by simp) (e▸hl),λe=>h TO (by simp) (e▸hl),λe=>h i1 (by simp) (e▸hl)⟩⟩
variable{z TI TO i1 i2:Addr}{S1:Src prog w i1}{S2:Src prog w i2}{k:Nat}{xs ys:List V}
theorem OS{x y:V}{Q:Option Value->Shared->Prop}(D:ZA z TI TO i1 i2 (S1.dep++S2.dep))(Z:ZG z TI TO S1 S2 k s.heap)(t1:S1.has xs s.heap)(t2:S2.has ys s.heap)(hx:xs[k]? = some x)(hy:ys[k]? = some y)
  (q:∀g (t:Nat) u v,RelV x u->RelV y v->IsZip g z TI TO (rawInt s.heap.objs.size)->IsPair g TO u v->S1.at_ (k+1) g->S2.at_ (k+1) g->IsPair g s.heap.objs.size u v->
   (∀c o,c∉[z,TO,i1,i2]->s.heap.get? c=some o->g.get? c=some o)->Q (some (.ref s.heap.objs.size)) { s with heap:=g,toks:=t }):wpAny (model prog w) A (pyNext (.ref z)) Q E s:=by
 obtain⟨hz,hti,⟨a,b,hto⟩,s1,s2⟩:=Z;have T:s.TypeIs (.ref z) "zip":=⟨_,hz,rfl⟩;have D1:∀c∈S1.dep,c≠z/\c≠TO/\c≠i1:=λc hc=>D.dz c (List.mem_append_left _ hc);have D2:∀c∈S2.dep,c≠z/\c≠TO/\c≠i1:=λc hc=>D.dz c (gS _ hc);unfold pyNext;refine nQ (wpAny_attempt (wpAny_callSpecial?_slot (name:=Str.ofString "__next__") T F.slot_zip_next (wpAny_call_entry F.slot_zip_next T F.entry_zip_next ?_ (F.args_zip_next_1 _))));show wpAny _ _ (field (.ref z) 2 >>= _) _ _ _;refine nQ (wpAny_field hz rfl (x:=.bool false) rfl ?_);show wpAny _ _ (field (.ref z) 3 >>= _) _ _ _;refine nQ (wpAny_field hz rfl (x:=.ref TI) rfl (nQ (wpAny_seqItems hti rfl ?_)));show wpAny _ _ (Builtin.SmallTypes.ownedTupleIsFree (.ref z) >>= _) _ _ _;refine nQ ?_;unfold Builtin.SmallTypes.ownedTupleIsFree;refine nQ (wpAny_field hz rfl (x:=.none) rfl (nS ?_));simp only[if_true];refine nQ (wpAny_rule (nQ (wpAny_field hz rfl (x:=.ref TO) rfl (nQ (wpAny_setField_rec hz (by simp) λg1 z1 b1=>?_)))))
 replace z1:IsZip g1 z TI TO .ellipsis:=z1
 refine nQ ?_;simp only[List.zipIdx_cons,List.zipIdx_nil,List.forIn_cons,List.forIn_nil];refine nQ (nQ (wpAny_onRaise ?_));show wpAny _ _ (Builtin.SmallTypes.nextOf (.ref i1) >>= _) _ _ _;refine nQ (S1.next (S1.atk s1 λo e=>b1.extBut _ _ D.i1z e) (S1.hask t1 λc hc o e=>b1.extBut _ _ (D1 c hc).1 e) hx λg2 tk2 u ru n2 b2=>nS ?_);have o2:IsPair g2 TO a b:=b2.extBut _ _ D.TOi1 (b1.extBut _ _ D.TOz hto);refine nQ (wpAny_seqItems o2 rfl (nQ (wpAny_updateSeq_pair o2 λg3 o3 b3=>?_)))
 replace o3:IsPair g3 TO u b:=o3
 refine nQ (wpAny_letGo (nS (nQ (nQ (wpAny_onRaise ?_)))));show wpAny _ _ (Builtin.SmallTypes.nextOf (.ref i2) >>= _) _ _ _;refine nQ (S2.next (S2.atk s2 λo e=>b3.extBut _ _ D.TOi2.symm (b2.extBut _ _ D.i12.symm (b1.extBut _ _ D.i2z e))) (S2.hask t2 λc hc o e=>b3.extBut _ _ (D2 c hc).2.1 (b2.extBut _ _ (D2 c hc).2.2 (b1.extBut _ _ (D2 c hc).1 e))) hy λg4 tk4 v rv n4 b4=>nS ?_);have o4:IsPair g4 TO u b:=b4.extBut _ _ D.TOi2 o3;refine nQ (wpAny_seqItems o4 rfl (nQ (wpAny_updateSeq_pair o4 λg5 o5 b5=>?_)))
 replace o5:IsPair g5 TO u v:=o5
 refine nQ (wpAny_letGo (nS (nS (nQ (wpAny_seqItems o5 rfl (nQ (wpAny_newTuple ?_)))))));have sz:g5.objs.size=s.heap.objs.size:=by rw[b5.1,b4.1,b3.1,b2.1,b1.1]
 have z5:IsZip g5 z TI TO .ellipsis:=b5.extBut _ _ D.TOz.symm (b4.extBut _ _ D.i2z.symm (b3.extBut _ _ D.TOz.symm (b2.extBut _ _ D.i1z.symm z1)));have k5:∀c o,c∉[z,TO,i1,i2]->s.heap.get? c=some o->g5.get? c=some o:=λc o hc e=>by
  simp only[mY,not_or]at hc;exact b5.extBut _ _ hc.2.1 (b4.extBut _ _ hc.2.2.2.1 (b3.extBut _ _ hc.2.1 (b2.extBut _ _ hc.2.2.1 (b1.extBut _ _ hc.1 e))))
 have zl:z<g5.objs.size:=nF z5;show wpAny _ _ (Builtin.SmallTypes.ownedTupleHandOut (.ref z) (.ref g5.objs.size) >>= _) _ _ _;refine nQ ?_;unfold Builtin.SmallTypes.ownedTupleHandOut;have z6:IsZip (g5.push { cls:=.type "tuple",data:=.seq #[u,v] }) z TI TO .ellipsis:=gP _ z5;refine nQ (wpAny_setField_rec z6 (by simp) λg7 z7 b7=>?_)
 replace z7:IsZip g7 z TI TO (rawInt g5.objs.size):=z7
 refine wpAny_setField_rec z7 (by simp) λg8 z8 b8=>?_
 replace z8:IsZip g8 z TI TO (rawInt g5.objs.size):=z8
 have up:∀c o,c≠z->g5.get? c=some o->g8.get? c=some o:=λc o cz e=>b8.extBut _ _ cz (b7.extBut _ _ cz (gP _ e));have nu:IsPair g8 g5.objs.size u v:=b8.extBut _ _ (Nat.ne_of_gt zl) (b7.extBut _ _ (Nat.ne_of_gt zl) (hU _ rfl));rw[sz]at z8 nu;refine nS ⟨_,rfl,nS ?_⟩;show Q (some (.ref g5.objs.size)) _;rw[sz];exact q g8 tk4 u v ru rv z8 (up _ _ D.TOz o5) (S1.atk n2 λo e=>up _ o D.i1z (b5.extBut _ _ D.TOi1.symm (b4.extBut _ _ D.i12 (b3.extBut _ _ D.TOi1.symm e)))) (S2.atk n4 λo e=>up _ o D.i2z (b5.extBut _ _ D.TOi2.symm e)) nu λc o hc e=>up c o (λh=>hc (by simp [h])) (k5 c o hc e)
theorem RF{Q:Option Value->Shared->Prop}(hh:A.handled=none)(D:ZA z TI TO i1 i2 (S1.dep++S2.dep))(Z:ZG z TI TO S1 S2 k s.heap)(t1:S1.has xs s.heap)(t2:S2.has ys s.heap)(he:xs[k]? = none∨ys[k]? = none)
  (q:∀g (tk:Nat),(∀c o,c∉[z,TO,i1,i2]->s.heap.get? c=some o->g.get? c=some o)->Q none { s with heap:=g,toks:=tk }):wpAny (model prog w) A (pyNext (.ref z)) Q E s:=by
 obtain⟨hz,hti,⟨a,b,hto⟩,s1,s2⟩:=Z;have T:s.TypeIs (.ref z) "zip":=⟨_,hz,rfl⟩;have D1:∀c∈S1.dep,c≠z/\c≠TO/\c≠i1:=λc hc=>D.dz c (List.mem_append_left _ hc);have D2:∀c∈S2.dep,c≠z/\c≠TO/\c≠i1:=λc hc=>D.dz c (gS _ hc);unfold pyNext;refine nQ (wpAny_attempt (wpAny_callSpecial?_slot (name:=Str.ofString "__next__") T F.slot_zip_next (wpAny_call_entry F.slot_zip_next T F.entry_zip_next ?_ (F.args_zip_next_1 _))));have fin:∀g (tk:Nat) (e:Addr),(∀c o,c∉[z,TO,i1,i2]->s.heap.get? c=some o->g.get? c=some o)->(∃o,g.get? e=some o/\o.cls=.type "StopIteration")->
   wpAny (model prog w) A (do if (<-isInstance (.ref e) (.type "StopIteration"))then pure none else throw (.ref e)) Q E { s with heap:=g,toks:=tk } :=λg tk e hk ⟨o,ho,hc⟩=>
  nQ (wpAny_isInstance (T:="StopIteration") (b:=true) ⟨o,ho,hc⟩ isSubtype_stop (nS (q _ tk hk)))
 show wpAny _ _ (field (.ref z) 2 >>= _) _ _ _;refine nQ (wpAny_field hz rfl (x:=.bool false) rfl ?_);show wpAny _ _ (field (.ref z) 3 >>= _) _ _ _;refine nQ (wpAny_field hz rfl (x:=.ref TI) rfl (nQ (wpAny_seqItems hti rfl ?_)));show wpAny _ _ (Builtin.SmallTypes.ownedTupleIsFree (.ref z) >>= _) _ _ _;refine nQ ?_;unfold Builtin.SmallTypes.ownedTupleIsFree;refine nQ (wpAny_field hz rfl (x:=.none) rfl (nS ?_));simp only[if_true];refine nQ (wpAny_rule (nQ (wpAny_field hz rfl (x:=.ref TO) rfl (nQ (wpAny_setField_rec hz (by simp) λg1 z1 b1=>?_)))))
 replace z1:IsZip g1 z TI TO .ellipsis:=z1
 refine nQ ?_;simp only[List.zipIdx_cons,List.zipIdx_nil,List.forIn_cons,List.forIn_nil];refine nQ (nQ (wpAny_onRaise ?_));show wpAny _ _ (Builtin.SmallTypes.nextOf (.ref i1) >>= _) _ _ _;have h1:=S1.atk s1 λo e=>b1.extBut _ _ D.i1z e;have h2:=S1.hask t1 λc hc o e=>b1.extBut _ _ (D1 c hc).1 e;cases hx:xs[k]? with
 | none=>
  refine nQ (S1.stop hh h1 h2 hx λg2 e b2 ⟨oe,he,ce⟩=>?_);have z2:IsZip g2 z TI TO .ellipsis:=b2 _ _ D.i1z.symm z1;have ez:e≠z:=λh=>by subst h;rw[z2]at he;cases he;simp at ce
  refine wpAny_setField_rec z2 (by simp) λg3 _ b3=>fin g3 _ e (λc o hc h=>?_) ⟨oe,b3.extBut _ _ ez he,ce⟩;simp only[mY,not_or]at hc;exact b3.extBut _ _ hc.1 (b2 _ _ hc.2.2.1 (b1.extBut _ _ hc.1 h))
 | some x=>
  have hy:ys[k]? = none:=he.resolve_left (by rw[hx];simp);refine nQ (S1.next h1 h2 hx λg2 tk2 u ru n2 b2=>nS ?_);have o2:IsPair g2 TO a b:=b2.extBut _ _ D.TOi1 (b1.extBut _ _ D.TOz hto);refine nQ (wpAny_seqItems o2 rfl (nQ (wpAny_updateSeq_pair o2 λg3 o3 b3=>?_)));refine nQ (wpAny_letGo (nS (nQ (nQ (wpAny_onRaise ?_)))));show wpAny _ _ (Builtin.SmallTypes.nextOf (.ref i2) >>= _) _ _ _;refine nQ (S2.stop hh (S2.atk s2 λo e=>b3.extBut _ _ D.TOi2.symm (b2.extBut _ _ D.i12.symm (b1.extBut _ _ D.i2z e))) (S2.hask t2 λc hc o e=>b3.extBut _ _ (D2 c hc).2.1 (b2.extBut _ _ (D2 c hc).2.2 (b1.extBut _ _ (D2 c hc).1 e))) hy λg4 e b4 ⟨oe,he,ce⟩=>?_);have z4:IsZip g4 z TI TO .ellipsis:=b4 _ _ D.i2z.symm (b3.extBut _ _ D.TOz.symm (b2.extBut _ _ D.i1z.symm z1));have ez:e≠z:=λh=>by subst h;rw[z4]at he;cases he;simp at ce
  refine wpAny_setField_rec z4 (by simp) λg5 _ b5=>fin g5 _ e (λc o hc h=>?_) ⟨oe,b5.extBut _ _ ez he,ce⟩;simp only[mY,not_or]at hc;exact b5.extBut _ _ hc.1 (b4 _ _ hc.2.2.2.1 (b3.extBut _ _ hc.2.1 (b2.extBut _ _ hc.2.2.1 (b1.extBut _ _ hc.1 h))))
def Itr0(prog:Program)(w:World)(v:Value)(o:Obj)(h:Heap):Prop:=∀{A:Around} {E:Value->Shared->Prop} {s:Shared} {Q:Value->Shared->Prop},s.heap=h->Q (.ref h.objs.size) { s with heap:=h.push o }->wpAny (model prog w) A (pyIter v) Q E s
theorem RB{v1 v2:Value}{o1 o2:Obj}{Q:Value->Shared->Prop}(p1:Itr0 prog w v1 o1 s.heap)(p2:Itr0 prog w v2 o2 (s.heap.push o1))(f1:o1.isFreed=false)(f2:o2.isFreed=false)
  (q:∀g,(∀c o,s.heap.get? c=some o->g.get? c=some o)->IsZip g (s.heap.objs.size+4) (s.heap.objs.size+2) (s.heap.objs.size+3) .none->IsPair g (s.heap.objs.size+2) (.ref s.heap.objs.size) (.ref (s.heap.objs.size+1))->(∃a b,IsPair g (s.heap.objs.size+3) a b)->g.get? s.heap.objs.size=some o1->g.get? (s.heap.objs.size+1)=some o2->Q (.ref (s.heap.objs.size+4)) { s with heap:=g }) :
  wpAny (model prog w) A (call (.type "zip") [v1,v2]) Q E s:=by
 refine callType_newIn (S:=λ_ R s'=>s'=s/\∀g,(∀c o,s.heap.get? c=some o->g.get? c=some o)->IsZip g (s.heap.objs.size+4) (s.heap.objs.size+2) (s.heap.objs.size+3) .none->IsPair g (s.heap.objs.size+2) (.ref s.heap.objs.size) (.ref (s.heap.objs.size+1))->(∃a b,IsPair g (s.heap.objs.size+3) a b)->g.get? s.heap.objs.size=some o1->g.get? (s.heap.objs.size+1)=some o2->R (.ok (.ret (.ref (s.heap.objs.size+4)))) { s with heap:=g }) F.called_zip (by decide) (F.typeCall_zip_2 _ _) (F.newCall_zip_2 _ _) (λobj=>F.args_object_init_3 obj _ _) F.entry_zip_new (λA R s' h=>?_) ⟨rfl,λg k zz ti to e1 e2=>⟨⟨_,zz,rfl⟩,q g k zz ti to e1 e2⟩⟩;obtain⟨rfl,h⟩:=h;refine nT (Q:=λfin s'=>∃v,fin=.done (.ret v)/\R (.ok (.ret v)) s') ?_ (λfin s' h'=>by obtain⟨v,rfl,hv⟩:=h';exact hv) λ_ _ x=>x;obtain⟨hp,gs,d,tk,os⟩:=s';have hsub:=sub_zip;have P1:∀{A:Around} {E:Value->Shared->Prop} {Q:Value->Shared->Prop},Q (.ref hp.objs.size) ⟨hp.push o1,gs,d,tk,os⟩->wpAny (model prog w) A (pyIter v1) Q E ⟨hp,gs,d,tk,os⟩:=λq=>p1 rfl q;have P2:∀{A:Around} {E:Value->Shared->Prop} {Q:Value->Shared->Prop},Q (.ref (hp.push o1).objs.size) ⟨(hp.push o1).push o2,gs,d,tk,os⟩->wpAny (model prog w) A (pyIter v2) Q E ⟨hp.push o1,gs,d,tk,os⟩:=λq=>p2 rfl q
 wp_walk using P1,P2
 have e1:=λo=>mW hp (o:=o);refine⟨_,rfl, ?_⟩;simp only[mW]at h ⊢;refine h _ (λc o e=>gP _ (gP _ (gP _ (gP _ (gP _ e))))) ?_ ?_ ?_ ?_ ?_
 ·have e:=hU ((((hp.push o1).push o2).push { cls:=.type "tuple",data:=.seq #[.ref hp.objs.size,.ref (hp.objs.size+1)] }).push { cls:=.type "tuple",data:=.seq #[.none,.none] }) (o:={ cls:=.type "zip",data:=.fields #[.none,.bool false,.bool false,.ref (hp.objs.size+2),.ref (hp.objs.size+3)] }) rfl;simp only[mW]at e;exact e
 ·have e:=hU ((hp.push o1).push o2) (o:={ cls:=.type "tuple",data:=.seq #[.ref hp.objs.size,.ref (hp.objs.size+1)] }) rfl;simp only[mW]at e;exact gP _ (gP _ e)
 ·have e:=hU (((hp.push o1).push o2).push { cls:=.type "tuple",data:=.seq #[.ref hp.objs.size,.ref (hp.objs.size+1)] }) (o:={ cls:=.type "tuple",data:=.seq #[.none,.none] }) rfl;simp only[mW]at e;exact⟨_,_,gP _ e⟩
 ·exact gP _ (gP _ (gP _ (gP _ (hU hp f1))))
 ·have e:=hU (hp.push o1) (o:=o2) f2;simp only[mW]at e;exact gP _ (gP _ (gP _ e))
end
section
variable{X:Cx}{af:List (Addr×Obj)}{σ:St}{H:Hp}{s:Shared}{h':Heap}
theorem Inv.turnedL{t':Nat}{fp:List Addr}(I:Inv X af σ H s)(hf:∀b∈fp,FpOk X af H b)(k:∀b o,b∉fp->s.heap.get? b=some o->h'.get? b=some o):Inv X af σ H { s with heap:=h',toks:=t' } :=by
 have nit:∀b u,H b=some u->b∉fp:=λb u e z=>by rw[(hf b z).1]at e;cases e
 refine I.step (g':=s.gens) (d':=s.drawn) (ch:=fp) (λb hb=>⟨(hf b hb).2.2.2.1,(hf b hb).2.1,(hf b hb).2.2.2.2.1,(hf b hb).2.2.2.2.2⟩) (λb o _ _ hc e _=>k b o hc e) (λb o _ _ hc e _=>⟨o.slots,k b o hc e⟩) (λ_ _ _ _ n=>n)
  (λb o hc e=>⟨o,k b o hc e⟩) (λ_ _ e=>e) (λ_ _ _ e=>e) (λb ps e=>⟨#[],by rw[e];simp⟩) (λm ⟨o,es,ep,ho,r⟩=>⟨o,es,ep,k _ o (λz=>(hf _ z).2.1 rfl) ho,r⟩) (λb u e=>?_) I.bare
 refine(I.hok b u e).stay (λc v hc q=>k c v ?_ q) (λ_ q=>q) λ_ _ q=>q;rcases hc with z | z
 ·rw[z];exact nit b u e
 ·exact nit c _ z
theorem FpOk.apart{a b:Addr}{xs:List V}(I:Inv X af σ H s)(f:FpOk X af H b)(h:SqT X.K H a xs):a≠b:=by
 rintro rfl;rcases h with(h | ⟨o,h⟩) | ⟨o,its,n,hk,hc,hs,hz,r⟩
 ·rw[f.1]at h;cases h
 ·rw[f.1]at h;cases h
 ·have hb:X.base.get? a=some o:=I.ok.mod.kin a o hk;rcases f.2.2.2.1 with z | z
  ·exact I.ok.noex a o hb z
  ·exact absurd (hX (nF hb) (nG I.ok.bsz z)) (mZ _)
end
structure SrcJ(P:Program)(w:World)(K:nW){i1 i2:Addr}(S1:Src P w i1)(S2:Src P w i2)(J:It):Prop where
 go:∀(X:Cx),X.prog=P->X.w=w->X.K=K->∀{i:Nat} {af:List (Addr×Obj)} {s:Shared} {σ:St} {H:Hp},Inv X af σ H s->J.go i H->∃xs ys x y,S1.has xs s.heap/\S2.has ys s.heap/\xs[i]? = some x/\ys[i]? = some y/\(∀b,FpOk X af H b->b∉S1.dep++S2.dep)/\∀p,H p=none->J.yld i H (.ref p) (upd H p (.tup [x,y]))
 stop:∀(X:Cx),X.prog=P->X.w=w->X.K=K->∀{i:Nat} {af:List (Addr×Obj)} {s:Shared} {σ:St} {H:Hp},Inv X af σ H s->J.stop i H->∃xs ys,S1.has xs s.heap/\S2.has ys s.heap/\(xs[i]? = none∨ys[i]? = none)/\∀b,FpOk X af H b->b∉S1.dep++S2.dep
theorem ZG.objs{P:Program}{w:World}{z TI TO i1 i2:Addr}{S1:Src P w i1}{S2:Src P w i2}{i:Nat}{h:Heap}(Z:ZG z TI TO S1 S2 i h):∀b∈[z,TI,TO,i1,i2],∃o,h.get? b=some o/\∀v,o.data≠.cell v:=λb hb=>by
 simp only[mY,mL,or_false]at hb;obtain⟨hz,hti,⟨a,c,hto⟩,s1,s2⟩:=Z;rcases hb with rfl | rfl | rfl | rfl | rfl
 ·exact⟨_,hz,λv q=>by cases (show Data.fields _=Data.cell v from q)⟩
 ·exact⟨_,hti,λv q=>by cases (show Data.seq _ _=Data.cell v from q)⟩
 ·exact⟨_,hto,λv q=>by cases (show Data.seq _ _=Data.cell v from q)⟩
 ·exact S1.obj s1
 ·exact S2.obj s2
theorem OW{P:Program}{w:World}{K:nW}{es:List Expr}{x1}{pos:Pos}{z TI TO i1 i2:Addr}{S1:Src P w i1}{S2:Src P w i2}{J:It}(SJ:SrcJ P w K S1 S2 J)(F:Five z TI TO i1 i2):Turn P w K (.Tuple es x1 pos) J [z,TI,TO,i1,i2] z (λi h=>ZG z TI TO S1 S2 i h) where
 mem:=by simp
 obj:=λi h Z=>Z.objs
 keep:=λi h h' Z k=>by
  obtain⟨hz,hti,⟨a,c,hto⟩,s1,s2⟩:=Z;exact⟨k z (by simp) _ hz,k TI (by simp) _ hti,⟨a,c,k TO (by simp) _ hto⟩,S1.atk s1 λo e=>k i1 (by simp) o e,S2.atk s2 λo e=>k i2 (by simp) o e⟩
 item:=by
  intro X hP hw hK hc i af s σ H E I hf Z hg;obtain⟨xs,ys,x,y,t1,t2,hx,hy,dp,yl⟩:=SJ.go X hP hw hK I hg;subst hP hw hK;have D:=F.za (λb hb=>dp b (hf b hb));refine OS D Z t1 t2 hx hy λg t u1 u2 ru1 ru2 z1 to1 n1 n2 nu kk=>⟨_,rfl, ?_⟩;refine wpAny_letOwnedTupleGo_zip z1 λg2 z2 sb=>?_;have fr:H s.heap.objs.size=none:=I.hok.fresh gC ;have fp:∀b∈[z,TI,TO,i1,i2],FpOk X af (upd H s.heap.objs.size (.tup [x,y])) b:=λb hb=>by
   obtain⟨o,ho,_⟩:=Z.objs b hb;exact⟨by rw[jN (nH (nF ho))];exact(hf b hb).1,(hf b hb).2⟩
  have I1:Inv X af σ (upd H s.heap.objs.size (.tup [x,y])) { s with heap:=s.heap.push { cls:=.type "tuple",data:=.seq #[u1,u2] },toks:=t } :=I.laid (t':=t) (λb u e=>gP _ e) gC ⟨by simp [sizeLine],[u1,u2],.cons ru1 (.cons ru2 .nil),⟨_,hU _ rfl,rfl,_,rfl⟩,.of (hU _ rfl) rfl⟩;have up:∀c o,c≠z->g.get? c=some o->g2.get? c=some o:=λc o cz e=>sb.extBut _ _ cz e;have zs:z≠s.heap.objs.size:=nH (nF Z.zz);have I2:Inv X af σ (upd H s.heap.objs.size (.tup [x,y])) { s with heap:=g2,toks:=t } :=by
   refine Inv.turnedL (s:={ s with heap:=s.heap.push { cls:=.type "tuple",data:=.seq #[u1,u2] },toks:=t }) (h':=g2) (t':=t) I1 fp λb o hb e=>?_;have bz:b≠z:=λh=>hb (by simp [h]);rcases Heap.get?_push_cases e with⟨e1,e2⟩ | e1
   ·rw[e1,e2];exact up _ _ (Ne.symm zs) nu
   ·exact up _ _ bz (kk b o (λh=>hb (by simp only[mY,mL,or_false]at h ⊢;rcases h with h | h | h | h<;>simp [h])) e1)
  exact⟨.ref s.heap.objs.size,_,I2,rfl,yl _ fr,⟨z2,up _ _ D.TIz (kk _ _ (by simp [D.TIz,D.TITO,D.TIi1,D.TIi2]) Z.ti),⟨_,_,up _ _ D.TOz to1⟩,S1.atk n1 λo e=>up _ o D.i1z e,S2.atk n2 λo e=>up _ o D.i2z e⟩,λb hb=>(fp b hb).1⟩
 done:=by
  intro X hP hw hK hc i af s σ H E I hf Z hg;obtain⟨xs,ys,t1,t2,he,dp⟩:=SJ.stop X hP hw hK I hg;subst hP hw hK;exact RF (I.ok.hd hc) (F.za (λb hb=>dp b (hf b hb))) Z t1 t2 he λg tk kk=>⟨rfl,Inv.turnedL (t':=tk) I hf λb o hb e=>kk b o (λh=>hb (by simp only[mY,mL,or_false]at h ⊢;rcases h with h | h | h | h<;>simp [h])) e⟩
 self:=λ_ _ _ _ _ Z h=>wpAny_pyIter_zip Z.zz h
section
variable{X:Cx}
theorem ND{es:List Expr}{x1}{tp:Pos}{J:It}{v1 v2:Value}{o1 o2:Obj}{af:List (Addr×Obj)}{s:Shared}{σ:St}{H:Hp}{R:It->Hp->Prop}{A:Around}{E:Value->Shared->Prop}(I:Inv X af σ H s)(p1:Itr0 X.prog X.w v1 o1 s.heap)(p2:Itr0 X.prog X.w v2 o2 (s.heap.push o1))(f1:o1.isFreed=false)(f2:o2.isFreed=false)
  (S1:Src X.prog X.w s.heap.objs.size) (S2:Src X.prog X.w (s.heap.objs.size+1)) (a1:∀g,g.get? s.heap.objs.size=some o1->S1.at_ 0 g) (a2:∀g,g.get? (s.heap.objs.size+1)=some o2->S2.at_ 0 g) (SJ:SrcJ X.prog X.w X.K S1 S2 J) (q:R J H):wpAny (model X.prog X.w) A (call (.type "zip") [v1,v2]) (λv s2=>wpAny (model X.prog X.w) A (pyIter v) (PIE X af σ (.Tuple es x1 tp) R) E s2) E s:=by
 refine RB p1 p2 f1 f2 λg k zz ti to e1 e2=>wpAny_pyIter_zip zz ?_;refine⟨_,_,_,_,H,rfl,I.kept (t':=s.toks) k,OW SJ ⟨by simp⟩,⟨zz,ti,to,a1 g e1,a2 g e2⟩,λb hb=>?_,q⟩;have hb':s.heap.objs.size<=b:=by
  simp only[mY,mL,or_false]at hb;rcases hb with rfl | rfl | rfl | rfl | rfl<;>first | exact Nat.le_add_right _ _ | exact nN _
 exact I.fpOk hb' (I.hok.fresh hb')
end
def RS(a:Addr):Obj:={ cls:=.type "tuple_iterator",data:=.fields #[.ref a,.int 0 0] }
def HQ(prog:Program)(w:World)(i l:Addr):Src prog w i where
 at_ k h:=h.IsTupleIter i l k
 has xs h:=∃its,h.IsTuple l (List.toArray its)/\Vals xs its
 dep:=[l]
 next st hs hx q:=by
  obtain⟨its,t,r⟩:=hs;obtain⟨u,hu,ru⟩:=r.get hx;exact nextT st t (by simpa using hu) λg n b=>q g _ u ru n b
 stop hh st hs hx q:=by
  obtain⟨its,t,r⟩:=hs;exact QE hh st t (by have:=r.length;have:=List.getElem?_eq_none_iff.mp hx;simp;lia) q
 atk x f:=IsTupleIter.as x f
 hask x f:=let ⟨its,⟨o,h1,h2⟩,r⟩:=x;⟨its,⟨o,f l (mB.mpr rfl) o h1,h2⟩,r⟩
 obj x:=let ⟨o,h1,_,d⟩:=x;⟨o,h1,λv q=>by rw[d]at q;cases q⟩
theorem Inv.hasT{X:Cx}{af:List (Addr×Obj)}{s:Shared}{σ:St}{H:Hp}{a i:Addr}{xs:List V}(I:Inv X af σ H s)(h:SqT X.K H a xs):(HQ X.prog X.w i a).has xs s.heap:=by
 obtain⟨its,r,p,_⟩:=I.tuple h;exact⟨its,p,r⟩
theorem it0T{prog:Program}{w:World}{a:Addr}{its:Array Value}{h:Heap}(t:h.IsTuple a its):Itr0 prog w (.ref a) (RS a) h:=λe q=>by
 subst e;exact wpAny_pyIter_tuple t q
theorem at0T{prog:Program}{w:World}{i a:Addr}(g:Heap)(e:g.get? i=some (RS a)):(HQ prog w i a).at_ 0 g:=⟨_,e,rfl,rfl⟩
def Itz(K:nW)(a b:Addr):It:=
 ⟨λi H=>∃xs ys x y,SqT K H a xs/\SqT K H b ys/\xs[i]? = some x/\ys[i]? = some y,
  λi H v H'=>∃p x y,H p=none/\v=.ref p/\H'=upd H p (.tup [x,y])/\(∀xs,SqT K H a xs->xs[i]? = some x)/\(∀ys,SqT K H b ys->ys[i]? = some y),
  λi H=>∃xs ys,SqT K H a xs/\SqT K H b ys/\(xs.length<=i∨ys.length<=i)⟩
theorem ZW{P:Program}{w:World}{K:nW}{i1 i2 a b:Addr} :SrcJ P w K (HQ P w i1 a) (HQ P w i2 b) (Itz K a b):=by
 refine⟨λX hP hw hK {i af s σ H} I hg=>?_,λX hP hw hK {i af s σ H} I hg=>?_⟩<;>subst hP hw hK
 ·obtain⟨xs,ys,x,y,q1,q2,hx,hy⟩:=hg;exact⟨xs,ys,x,y,I.hasT q1,I.hasT q2,hx,hy,λb' f=>by rintro z;rcases mS.mp z with z | z;exact(f.apart I q1) (mB.mp z).symm;exact(f.apart I q2) (mB.mp z).symm,λp n=>⟨p,x,y,n,rfl,rfl,λxs' h=>by rw[I.tuple_inj h q1];exact hx,λys' h=>by rw[I.tuple_inj h q2];exact hy⟩⟩
 ·obtain⟨xs,ys,q1,q2,he⟩:=hg;exact⟨xs,ys,I.hasT q1,I.hasT q2,he.imp gU gU,λb' f=>by rintro z;rcases mS.mp z with z | z;exact(f.apart I q1) (mB.mp z).symm;exact(f.apart I q2) (mB.mp z).symm⟩
section
variable{X:Cx}
def iZipT(K:nW)(ta:TA):TI:=fun σ H R=>ta σ H λvs H1=>∃a b,vs=[.ref a,.ref b]/\(∃xs,SqT K H1 a xs)/\(∃ys,SqT K H1 b ys)/\R (Itz K a b) H1
theorem NE{es:List Expr}{x1}{tp:Pos}{a b:Expr}{ta:TA}{p pos:Pos}(hg:Gl X "zip")(hm:X.mg "zip" = none)(ha:PA X [a,b] ta)(hs:starEach [a,b] X.env=[(false,eval a X.env),(false,eval b X.env)]:=by rfl)(hs2:starEach [b] X.env=[(false,eval b X.env)]:=by rfl) :
  PI X (.Tuple es x1 tp) (.Call (.Name "zip" p) [a,b] [] pos) (iZipT X.K ta):=by
 intro af s σ H R I h;refine Call_ (yT I hg hm boot_zip (PyProof.Rows.callWith_type1 (thn (ha pos af s σ H _ I h) λus s1 ⟨vs,H1,I1,r1,q1⟩=>?_) (by rw[hs,hs2]) (by rw[hs2];rfl)));obtain⟨l1,l2,e,⟨xs,q1⟩,⟨ys,q2⟩,q⟩:=q1;subst e;cases r1 with
 | cons r rr=>
  cases rr with
  | cons r' rr=>
   cases rr;cases r;cases r';obtain⟨its1,_,p1,_⟩:=I1.tuple q1;obtain⟨its2,_,p2,_⟩:=I1.tuple q2;exact ND I1 (it0T p1) (it0T (Heap.IsTuple.push p2 _)) rfl rfl (HQ _ _ _ l1) (HQ _ _ _ l2) (λg=>at0T g) (λg=>at0T g) ZW q
end
end L2
namespace HT
open PySem PySem.Spec PyProof.Rows
section
variable{prog:Program}{w:World}{A:Around}{E:Value->Shared->Prop}{s:Shared}
theorem cut_whole{t sl:Addr}{items:Array Value}{vl vu:Value}{lo hi:Option Int}{Q:Value->Shared->Prop}(ht:IsTup s.heap t items)(hs:s.heap.IsSliceOf sl vl vu .none)(pl:IsPart vl lo)(pu:IsPart vu hi)
  (hw:sIx items.size 0 lo=0/\sIx items.size items.size hi=items.size) (h:Q (.ref t) s):wpAny (model prog w) A (getItem (.ref t) (.ref sl)) Q E s:=by
 obtain⟨os,hos,hcs,hds⟩:=id hs;have hTs:s.TypeIs (.ref sl) "slice":=⟨os,hos,hcs⟩;unfold getItem;try with_reducible refine wpAny_holding ?_
 first | refine nQ (nS ?_) | skip
 refine nQ (wpAny_sequenceKey ht.typeIs (by decide) ?_);refine nQ (wpAny_callSpecial?_slot (name:=Str.ofString "__getitem__") ht.typeIs PyProof.Rows.slot_tuple_getitem (wpAny_call_entry PyProof.Rows.slot_tuple_getitem ht.typeIs entry_tuple_getitem ?_ (args_tuple_getitem _ _)));show wpAny _ _ (Builtin.Tuple.tupleItemsOf (.ref t) >>= _) _ _ s;refine nQ (tupleItemsOf_ ht (nQ (wpAny_typeOf hTs ?_)));rw[nV (by decide)];refine nQ (yC hs pl pu ?_);have hy:(((sIx items.size 0 lo:Nat):Int)==0&&(1:Int)==1&&(sIx items.size items.size hi-sIx items.size 0 lo)==items.size)=true:=by
  rw[hw.1,hw.2];simp
 show wpAny _ _ (if (((sIx items.size 0 lo:Nat):Int)==0&&(1:Int)==1&&(sIx items.size items.size hi-sIx items.size 0 lo)==items.size)=true then _ else _) _ _ s;rw[nV hy];refine nQ (m:=Builtin.Tuple.tupleIsExact _) (nQ (wpAny_typeOf ht.typeIs (nS ?_)));rw[nV (by decide)];refine nQ (wpAny_rule ?_);first
  | exact nQ (nS (nS ⟨_,rfl,nS h⟩))
  | exact nS ⟨_,rfl,nS h⟩
  | exact nQ (nS ⟨_,rfl,nS h⟩)
theorem cat_any{t b:Addr}{vs ws:List Value}{Q:Value->Shared->Prop}(ht:IsTup s.heap t vs.toArray)(hb:IsTup s.heap b ws.toArray)(h0:vs=[]->Q (.ref b) s)
  (h1:ws=[]->Q (.ref t) s) (h2:Q (.ref s.heap.objs.size) { s with heap:=s.heap.push { cls:=.type "tuple",data:=.seq (vs++ws).toArray } })
  (hz:vs.length+ws.length<=sizeLine):wpAny (model prog w) A (binaryOp .Add (.ref t) (.ref b)) Q E s:=by
 by_cases hv:vs=[]
 ·obtain⟨⟨c1,x1,y1,z1⟩,g1,rfl,n1,rfl⟩:=id ht;obtain⟨⟨c2,x2,y2,z2⟩,g2,rfl,n2,rfl⟩:=id hb;exact concat_meets ⟨_,g1,rfl⟩ ⟨_,g2,rfl⟩ noFill_tuple_add seq_tuple_add PySem.F.slot_tuple_add PySem.F.entry_tuple_add (PySem.F.args_tuple_add_2 _ _) (tuple_addW0 t b vs.toArray ws.toArray n1 n2 x1 x2 z1 z2 (by simp [hv])) ⟨g1,g2,h0 hv⟩
 ·exact YO ht hb hv h1 (λ_=>h2) hz
theorem HA{sl:Addr}{u:Tok}{n:Nat}{Q:Int×Int×Nat->Shared->Prop}(hs:s.heap.IsSliceOf sl .none .none (.int (-1) u))(h:Q ((n:Int)-1,-1,n) s):wpAny (model prog w) A (Builtin.Slice.sliceApplied (.ref sl) (pure (n:Int))) Q E s:=by
 obtain⟨os,hos,hcs,hds⟩:=id hs;unfold Builtin.Slice.sliceApplied Builtin.Slice.sliceFields;refine nQ (nQ (wpAny_field hos hds (x:=.none) rfl (nQ (wpAny_field hos hds (x:=.none) rfl (nQ (wpAny_field hos hds (x:=.int (-1) u) rfl (nS ?_)))))));refine nQ (slicePart_int ?_);show wpAny _ _ (if ((-1:Int)==0)=true then _ else _) _ _ s;rw[nU (by decide)];refine nQ (slicePart_none (nQ (slicePart_none (nQ (nS ?_)))));show wpAny _ _ (pure ((n:Int)-1,(-1:Int),Builtin.Slice.slicePlaces ((n:Int)-1) (-1) (-1))) _ _ s;have e:Builtin.Slice.slicePlaces ((n:Int)-1) (-1) (-1)=n:=by
  unfold Builtin.Slice.slicePlaces;rw[nU (by lia)];split
  ·rw[show(- (-1:Int))=1 by lia,Int.ediv_one]
   lia
  ·lia
 rw[e];exact nS h
theorem PX(xs:Array Value):(((List.range xs.size).filterMap λ(m:Nat)=>xs[(((xs.size:Int)-1)+(m:Int)*(-1)).toNat]?).toArray)=xs.toList.reverse.toArray:=by
 have go:∀k,k<=xs.size->((List.range k).filterMap λ(m:Nat)=>xs[(((xs.size:Int)-1)+(m:Int)*(-1)).toNat]?)=xs.toList.reverse.take k:=by
  intro k;induction k with
  | zero=>intro _;rfl
  | succ k ih=>
   intro h;have hr:k<xs.toList.reverse.length:=by rw[List.length_reverse,Array.length_toList];lia
   have e1:(((xs.size:Int)-1)+(k:Int)*(-1)).toNat=xs.size-1-k:=by lia
   have e2:xs[xs.size-1-k]? = some (xs[xs.size-1-k]'(by lia)):=Array.getElem?_eq_getElem (by lia);rw[List.range_succ,List.filterMap_append,ih (by lia),List.take_succ_eq_append_getElem hr]
   congr 1
   rw[List.filterMap_cons,List.filterMap_nil];simp only[e1,e2];rw[List.getElem_reverse];simp
 rw[go _ gC,gQ (by simp)]
theorem cut_back{t sl:Addr}{items:Array Value}{u:Tok}{Q:Value->Shared->Prop}(ht:IsTup s.heap t items)(hs:s.heap.IsSliceOf sl .none .none (.int (-1) u))(hz:items.size<=sizeLine)
  (h:Q (.ref s.heap.objs.size) { s with heap:=s.heap.push { cls:=.type "tuple",data:=.seq items.toList.reverse.toArray } }):wpAny (model prog w) A (getItem (.ref t) (.ref sl)) Q E s:=by
 have fits:sizeOk (.seq items.toList.reverse.toArray):=by
  show items.toList.reverse.toArray.size<=sizeLine;rw[mF,List.length_reverse,Array.length_toList];exact hz
 obtain⟨os,hos,hcs,hds⟩:=id hs;have hTs:s.TypeIs (.ref sl) "slice":=⟨os,hos,hcs⟩;unfold getItem;try with_reducible refine wpAny_holding ?_
 first | refine nQ (nS ?_) | skip
 refine nQ (wpAny_sequenceKey ht.typeIs (by decide) ?_);refine nQ (wpAny_callSpecial?_slot (name:=Str.ofString "__getitem__") ht.typeIs PyProof.Rows.slot_tuple_getitem (wpAny_call_entry PyProof.Rows.slot_tuple_getitem ht.typeIs entry_tuple_getitem ?_ (args_tuple_getitem _ _)));show wpAny _ _ (Builtin.Tuple.tupleItemsOf (.ref t) >>= _) _ _ s;refine nQ (tupleItemsOf_ ht (nQ (wpAny_typeOf hTs ?_)));rw[nV (by decide)];refine nQ (HA hs ?_);show wpAny _ _ (if (((items.size:Int)-1)==0&&(-1:Int)==1&&items.size==items.size)=true then _ else _) _ _ s;rw[nU (by rw[show((-1:Int)==1)=false from rfl];simp),PX];first
  | exact nQ (m:=Builtin.Tuple.tupleExact _) (wpAny_newObj_type (nS ⟨_,rfl,nS h⟩) fits)
  | exact nQ (m:=Builtin.Tuple.tupleExact _) (wpAny_newObj_type (nQ (nS (nS ⟨_,rfl,nS h⟩))) fits)
  | exact nQ (nQ (m:=Builtin.Tuple.tupleExact _) (wpAny_newObj_type (nS (nS ⟨_,rfl,nS h⟩)) fits))
  | exact nQ (nQ (m:=Builtin.Tuple.tupleExact _) (wpAny_newObj_type (nS ⟨_,rfl,nS h⟩) fits))
end
end HT
namespace L2
open PySem PySem.Spec PyProof.Rows
section
variable{X:Cx}
def Gets(H:Hp)(xs:List V)(Q:VK):Prop:=∀p H',Same H H'->H' p=some (.tup xs)->Q (.ref p) H'
def rSlH:V->Option Int->Option Int->Hp->VK->Prop:=λx lo hi H Q=>∃a xs,x=.ref a/\H a=some (.tup xs)/\Gets H (xF xs lo hi) Q
theorem WH:SlR X rSlH:=by
 intro af s σ H x v vl vu lo hi sl Q I rx hs pl pu h;obtain⟨a,xs,rfl,hx,q⟩:=h;by_cases hw:HT.sIx xs.length 0 lo=0/\HT.sIx xs.length xs.length hi=xs.length
 ·cases rx;obtain⟨its,r,ht,hz⟩:=I.tuple (SqT.of hx);have hl:its.toArray.size=xs.length:=by rw[mF];exact r.length.symm
  refine⟨"tuple",_,PyProof.Rows.slot_tuple_getitem.lookup,ht.typeIs,HT.cut_whole ht hs pl pu (by rw[hl];exact hw) ⟨.ref a,H,I,rfl,q a H (λ_ _ e=>e) ?_⟩⟩;rw[hx,xF,hw.1,hw.2];simp
 ·exact SH af s σ H _ v vl vu lo hi sl Q I rx hs pl pu ⟨a,xs,rfl,SqT.of hx,hw,λp n=>q p _ (Lw.jW _ n) jF⟩
def rCatH:R2:=λx y H Q=>∃a b xs ys,x=.ref a/\y=.ref b/\H a=some (.tup xs)/\H b=some (.tup ys)/\xs.length+ys.length<=sizeLine/\Gets H (xs++ys) Q
theorem WV:OpR X (binaryOp .Add) rCatH:=by
 intro af s σ H x y v u Q I rx ry h;obtain⟨a,b,xs,ys,rfl,rfl,ha,hb,hz,q⟩:=h;cases rx;cases ry;obtain⟨its,r1,p1,_⟩:=I.tuple (SqT.of ha);obtain⟨its2,r2,p2,_⟩:=I.tuple (SqT.of hb);refine HT.cat_any p1 p2 (λz=>⟨.ref b,H,I,rfl,q b H (λ_ _ e=>e) ?_⟩) (λz=>⟨.ref a,H,I,rfl,q a H (λ_ _ e=>e) ?_⟩) ?_ (by rw[<-r1.length,<-r2.length];exact hz)
 ·rw[r1.nil_iff.mp z];exact hb
 ·rw[r2.nil_iff.mp z,List.append_nil];exact ha
 ·have n:=I.hok.fresh (nN s.heap.objs.size);refine⟨.ref s.heap.objs.size,_,I.laid (t':=s.toks) (o:=.tup (xs++ys)) (λb ob q=>gP _ q) gC ?_,rfl,q _ _ (Lw.jW _ n) jF⟩;exact⟨by rw[List.length_append];exact hz,_,r1.append r2,IsTup.new _ _,.of (hU _ rfl) rfl⟩
theorem wW:∀{xs:List V} {us:List Value},Vals xs us->Vals xs.reverse us.reverse
 | _,_,.nil=>.nil
 | _,_,.cons h t=>by
  rw[List.reverse_cons,List.reverse_cons];exact(wW t).append (.cons h .nil)
def tBack(te:TE)(ts:TO):TE:=fun σ H Q=>te σ H λx H1=>ts σ H1 λo H2=>o=some (-1)/\∃a xs,x=.ref a/\H2 a=some (.tup xs)/\Gets H2 xs.reverse Q
theorem WU{e st:Expr}{te:TE}{ts:TO}{pos p2:Pos}(he:PE X e te)(hs:PO X (some st) ts):PE X (.Subscript e (.Slice none none (some st) p2) pos) (tBack te ts):=by
 intro af s σ H Q I h;refine Subscript_ (thn (he af s σ H _ I h) λv s1 ⟨x,H1,I1,r1,q1⟩=>?_);refine wpAny_Slice ?_;rw[evalPart_none];refine nS (nS (thn (hs af s1 σ H1 _ I1 q1) λvs s2 ⟨o,H2,I2,po,eo,a,xs,ex,hx,q⟩=>?_));subst eo ex;cases r1;cases po with
 | int i u=>
 have I3:Inv X af σ H2 { s2 with heap:=s2.heap.push { cls:=.type "slice",data:=.fields #[.none,.none,.int (-1) u] } } :=I2.kept (t':=s2.toks) λb ob q=>gP _ q;obtain⟨its,r,ht,hz⟩:=I3.tuple (SqT.of hx);have hl:its.toArray.size=xs.length:=by rw[mF];exact r.length.symm
 show wpAny (model X.prog X.w) X.A (subscriptTail e (.Slice none none (some st) p2) (.ref a) (.ref s2.heap.objs.size)) (EP X af σ Q) X.xe { s2 with heap:=s2.heap.push { cls:=.type "slice",data:=.fields #[.none,.none,.int (-1) u] } };refine tail_any (ops:=[.ref a,.ref s2.heap.objs.size]) ht.typeIs PyProof.Rows.slot_tuple_getitem.lookup ?_ (by with_unfolding_all rfl);have n:=I3.hok.fresh (nN (s2.heap.push { cls:=.type "slice",data:=.fields #[.none,.none,.int (-1) u] }).objs.size);refine HT.cut_back ht (Heap.IsSliceOf.new ..) (by rw[hl];exact hz) ⟨.ref _,_,I3.laid (t':=s2.toks) (o:=.tup xs.reverse) (λb ob q=>gP _ q) gC ?_,rfl,q _ _ (Lw.jW _ n) jF⟩;exact⟨by rw[List.length_reverse];exact hz,_,wW r,IsTup.new _ _,.of (hU _ rfl) rfl⟩
end
end L2
namespace LwMx
open PySem PySem.Spec PyProof.Rows L2 Lw
section
variable{prog:Program}{w:World}{A:Around}{R:Result->Shared->Prop}{J:Addr}{fp wr:List Addr}{n:Nat}{Pv:Nat->Value->Prop}{St:Nat->Heap->Prop}
end
section
variable{prog:Program}{w:World}{A:Around}{E:Value->Shared->Prop}{s:Shared}
end
section
variable{X:Cx}
variable{p pos kpos:Pos}{e e2:Expr}{es:List Expr}{t tk:TA}
end
end LwMx
namespace L2
open PySem PySem.Spec PyProof.Rows
section
variable{X:Cx}{af:List (Addr×Obj)}{σ:St}{H:Hp}{s:Shared}
end
section
variable{X:Cx}
end
section
open AutoSeq1 (wpAny_loadPart')
end
section
variable{prog:Program}{w:World}{A:Around}{E:Value->Shared->Prop}{s:Shared}
end
section
variable{X:Cx}
end
end L2
namespace LwD
open PySem PySem.Spec PyProof.Rows L2 Lw
section
variable{X:Cx}
end
section
variable{X:Cx}{af:List (Addr×Obj)}{σ:L2.St}{H:Hp}{s:Shared}
end
section
variable{X:Cx}
end
section
variable{X:Cx}
end
section
variable{X:Cx}
def CDivP(i j:Int):Prop:=0<j/\Builtin.divisionGoesByPylong i j=false
theorem IH:OpR X (binaryOp .FloorDiv) (rI CDivP λi j=>.int (i/j)):=opI λi j _ _ _ _ _ hc q=>by
 refine floordiv_int (by have:=hc.1;lia) ?_ (.inl hc.2);rw[Int.fdiv_eq_ediv_of_nonneg _ (Int.le_of_lt hc.1)];exact q
theorem JR{i j:Int}(h:CDivL i j):CDivP i j:=⟨h.1,PyProof.noPylong_of_log2 (hX (LwM.log2_lt (by decide) h.2) (by decide))⟩
theorem CV{i j:Int}{m:Nat}(hj:0<j)(hm:m<=13400)(hi:i.natAbs<2^m):CDivP i j:=by
 refine⟨hj, ?_⟩;by_cases h9:j.natAbs.log2<9000
 ·exact PyProof.noPylong_of_log2 h9
 ·show(decide ((if j==0 then 0 else j.natAbs.log2/30+1)>300)&&decide ((if i==0 then 0 else i.natAbs.log2/30+1)>(if j==0 then 0 else j.natAbs.log2/30+1)+150))=false;rw[Bool.and_eq_false_iff]
  right
  refine mR ?_;have j0:(j==0)=false:=by
   rw[beq_eq_false_iff_ne]
   lia
  rw[j0];simp only[Bool.false_eq_true,if_false];have:i.natAbs.log2<13440:=by
   by_cases z:i.natAbs=0
   ·rw[z];decide +kernel
   ·exact(Nat.log2_lt z).mpr (hX hi (gZ (by decide) (by lia)))
  split<;>lia
end
end LwD
namespace LwD
open PySem PySem.W PySem.Spec PyProof.Rows
def TruT{α:Type}(lt:Nat->Nat->Bool)(n:Nat):KasT α->(α->Prop)->Prop
 | .ret a,P=>P a
 | .ask i j k,P=>i<n/\j<n/\TruT lt n (k (lt i j)) P
theorem TruT.bind{α β:Type}{lt:Nat->Nat->Bool}{n:Nat}{f:α->KasT β}{P:α->Prop}{R:β->Prop} :∀{t:KasT α},TruT lt n t P->(∀a,P a->TruT lt n (f a) R)->TruT lt n (t.bind f) R
 | .ret a,h,g=>g a h
 | .ask _ _ _,h,g=>⟨h.1,h.2.1,TruT.bind h.2.2 g⟩
theorem TruT.mono{α:Type}{lt:Nat->Nat->Bool}{n:Nat}{P R:α->Prop}(g:∀a,P a->R a):∀{t:KasT α},TruT lt n t P->TruT lt n t R
 | .ret a,h=>g a h
 | .ask _ _ _,h=>⟨h.1,h.2.1,TruT.mono g h.2.2⟩
structure Strict(lt:Nat->Nat->Bool)(n:Nat):Prop where
 tr:∀a b c,lt a b=true->lt b c=true->lt a c=true
 as:∀a b,lt a b=true->lt b a=false
 tot:∀a b,a<n->b<n->a≠b->lt a b=false->lt b a=true
def Up(lt:Nat->Nat->Bool)(p:Array Nat)(m:Nat):Prop:=∀a b,a<b->b<m->lt (p.getD a 0) (p.getD b 0)=true
def Dn(lt:Nat->Nat->Bool)(p:Array Nat)(m:Nat):Prop:=∀a b,a<b->b<m->lt (p.getD b 0) (p.getD a 0)=true
theorem Pm.ne{n:Nat}{p:Array Nat}(h:Pm n p){a b:Nat}(hab:a<b)(hb:b<n):p.getD a 0≠p.getD b 0:=by
 have sz:=h.size;have nd:p.toList.Nodup:=h.nodup_iff.mpr List.nodup_range;have ha':a<p.toList.length:=by simp [sz];lia
 have hb':b<p.toList.length:=by simp [sz];lia
 intro e;have e1:p.toList[a]=p.toList[b]:=by
  have h1:p.getD a 0=p.toList[a]:=by simp [Array.getD,show a<p.size by lia]
  have h2:p.getD b 0=p.toList[b]:=by simp [Array.getD,show b<p.size by lia]
  rw[<-h1,<-h2,e]
 have:=(List.getElem_inj nd).mp e1
 lia
section
variable{lt:Nat->Nat->Bool}{n:Nat}
theorem Up.snoc(O:Strict lt n){p:Array Nat}{m:Nat}(u:Up lt p m)(h:0<m->lt (p.getD (m-1) 0) (p.getD m 0)=true):Up lt p (m+1):=by
 intro a b hab hb;by_cases hbm:b<m
 ·exact u a b hab hbm
 ·have:b=m:=by lia
  subst this;by_cases ha:a=b-1
  ·rw[ha];exact h (by lia)
  ·exact O.tr _ _ _ (u a (b-1) (by lia) (by lia)) (h (by lia))
theorem Dn.snoc(O:Strict lt n){p:Array Nat}{m:Nat}(u:Dn lt p m)(h:0<m->lt (p.getD m 0) (p.getD (m-1) 0)=true):Dn lt p (m+1):=by
 intro a b hab hb;by_cases hbm:b<m
 ·exact u a b hab hbm
 ·have:b=m:=by lia
  subst this;by_cases ha:a=b-1
  ·rw[ha];exact h (by lia)
  ·exact O.tr _ _ _ (h (by lia)) (u a (b-1) (by lia) (by lia))
theorem EV(O:Strict lt n){p:Array Nat}(h:Pm n p)(hn:0<n):∀(f k:Nat),1<=k->k+f=n->Up lt p k->TruT lt n (kas_asc p f k) λm=>k<=m/\m<=n/\Up lt p m/\(m<n->lt (p.getD m 0) (p.getD (m-1) 0)=true)
 | 0,k,h1,h2,u=>⟨nN _,by lia,u,λz=>by lia⟩
 | f+1,k,h1,h2,u=>by
  refine⟨h.lt hn,h.lt hn, ?_⟩;cases hb:lt (p.getD k 0) (p.getD (k-1) 0)with
  | true=>exact⟨nN _,by lia,u,λ_=>hb⟩
  | false=>
   have up:Up lt p (k+1):=u.snoc O λ_=>O.tot _ _ (h.lt hn) (h.lt hn) (Ne.symm (h.ne (by lia) (by lia))) hb;refine(EV O h hn f (k+1) (by lia) (by lia) up).mono λm hm=>⟨by lia,hm.2⟩
theorem HK(O:Strict lt n)(hn:0<n){p:Array Nat}(h:Pm n p):∀(f k:Nat),1<=k->k+f=n->Dn lt p k->TruT lt n (kas_desc f p k 0) λr=>r.1=p/\r.2.2=0/\k<=r.2.1/\r.2.1<=n/\Dn lt p r.2.1
 | 0,k,_,h2,d=>⟨rfl,rfl,nN _,(show k<=n by lia),d⟩
 | f+1,k,h1,h2,d=>by
  refine⟨h.lt hn,h.lt hn, ?_⟩;cases hb:lt (p.getD k 0) (p.getD (k-1) 0)with
  | true=>
   have dn:Dn lt p (k+1):=d.snoc O λ_=>hb;exact(HK O hn h f (k+1) (by lia) (by lia) dn).mono λr hr=>⟨hr.1,hr.2.1,by lia,hr.2.2.2⟩
  | false=>
   refine⟨h.lt hn,h.lt hn, ?_⟩;have:lt (p.getD (k-1) 0) (p.getD k 0)=true:=O.tot _ _ (h.lt hn) (h.lt hn) (Ne.symm (h.ne (by lia) (by lia))) hb;rw[this];exact⟨rfl,rfl,nN _,(show k<=n by lia),d⟩
theorem getD_of?{p:Array Nat}{i:Nat}{q:Array Nat}{j:Nat}(h:p[i]? = q[j]?):p.getD i 0=q.getD j 0:=by
 rw[Array.getD_eq_getD_getElem?,Array.getD_eq_getD_getElem?,h]
theorem rev_up{p:Array Nat}(sz:p.size=n){k:Nat}(hk:k<=n)(d:Dn lt p k):Up lt (kas_rev p 0 k) k:=by
 intro a b hab hb;have e:∀c,c<k->(kas_rev p 0 k).getD c 0=p.getD (k-1-c) 0:=λc hc=>by
  refine getD_of? ?_;unfold kas_rev;rw[getElem?_mirror_all (by lia),nV ⟨nO _,hc⟩,Nat.zero_add]
 rw[e a (by lia),e b hb];exact d (k-1-b) (k-1-a) (by lia) (by lia)
theorem PD(O:Strict lt n)(hn:0<n):TruT lt n (kas_count n (List.toArray (List.range n))) λr=>Pm n r.2/\1<=r.1/\r.1<=n/\Up lt r.2 r.1:=by
 have h:Pm n (List.toArray (List.range n)):=by unfold Pm;simp
 generalize List.toArray (List.range n)=p at h;have u1:Up lt p 1:=λa b h1 h2=>by lia
 refine(EV O h hn (n-1) 1 (by lia) (by lia) u1).bind λm hm=>?_;obtain⟨m1,m2,um,hlt⟩:=hm;by_cases e:m=n
 ·rw[nV (by simp [e])];exact⟨h,m1,m2,um⟩
 ·rw[nU (by simp [e])];by_cases m3:m>1
  ·rw[nV m3];refine⟨h.lt hn,h.lt hn, ?_⟩;rw[um 0 (m-1) (by lia) (by lia)];exact⟨h,m1,m2,um⟩
  ·rw[nU m3];have m4:m=1:=by lia
   subst m4;have d2:Dn lt p 2:=by
    intro a b hab hb;have hl:=hlt (by lia);have:a=0/\b=1:=by lia
    rw[this.1,this.2];exact hl
   unfold kas_descPart;refine(HK O hn h (n-(1+1)) (1+1) (by lia) (by lia) d2).bind λr hr=>?_;obtain⟨r1,r2,r3,r4,r5⟩:=hr;rw[nU (by rw[r2];decide),r1];unfold kas_tail3;have hv:Pm n (kas_rev p 0 r.2.1):=h.rev _ _;refine(EV O hv hn (n-r.2.1) r.2.1 (by lia) (by lia) (rev_up h.size r4 r5)).bind λk hk=>?_;exact⟨hv,by lia,hk.2.1,hk.2.2.1⟩
theorem uO(O:Strict lt n)(hn:0<n){p:Array Nat}(h:Pm n p){k:Nat}(hk:k<n)(u:Up lt p k):∀(f l r:Nat),l<=r->r<=k->r-l<=f->(∀a,a<l->lt (p.getD a 0) (p.getD k 0)=true)->(∀a,r<=a->a<k->lt (p.getD k 0) (p.getD a 0)=true)->
  TruT lt n (kas_place p k f l r) λx=>x<=k/\(∀a,a<x->lt (p.getD a 0) (p.getD k 0)=true)/\∀a,x<=a->a<k->lt (p.getD k 0) (p.getD a 0)=true
 | 0,l,r,h1,h2,h3,hl,hr=>⟨by lia,hl,λa ha=>hr a (by lia)⟩
 | f+1,l,r,h1,h2,h3,hl,hr=>by
  show TruT lt n (if l ≥ r then _ else _) _;split
  ·exact⟨by lia,hl,λa ha=>hr a (by lia)⟩
  ·refine⟨h.lt hn,h.lt hn, ?_⟩;have mk:(l+r)/2<k:=by lia
   cases hb:lt (p.getD k 0) (p.getD ((l+r)/2) 0)with
   | true=>
    refine uO O hn h hk u f l ((l+r)/2) (by lia) (by lia) (by lia) hl λa ha hak=>?_;by_cases e:a=(l+r)/2
    ·rw[e];exact hb
    ·exact O.tr _ _ _ hb (u _ _ (by lia) hak)
   | false=>
    have hm:lt (p.getD ((l+r)/2) 0) (p.getD k 0)=true:=O.tot _ _ (h.lt hn) (h.lt hn) (Ne.symm (h.ne mk hk)) hb;refine uO O hn h hk u f ((l+r)/2+1) r (by lia) h2 (by lia) (λa ha=>?_) hr;by_cases e:a=(l+r)/2
    ·rw[e];exact hm
    ·exact O.tr _ _ _ (u a _ (by lia) mk) hm
theorem bub_up{p:Array Nat}(sz:p.size=n){k l:Nat}(hk:k<n)(hl:l<=k)(u:Up lt p k)(h1:∀a,a<l->lt (p.getD a 0) (p.getD k 0)=true)(h2:∀a,l<=a->a<k->lt (p.getD k 0) (p.getD a 0)=true):Up lt (bubble p k (k-l)) (k+1):=by
 have e:∀c,(bubble p k (k-l)).getD c 0=if c=l then p.getD k 0 else if l<c/\c<=k then p.getD (c-1) 0 else p.getD c 0:=λc=>by
  have:=getElem?_bubble (xs:=p) (src:=k) (by lia) (k-l) (by lia) c;have z:k-(k-l)=l:=by lia
  rw[z]at this;split
  ·rename_i hc;rw[nV hc]at this;exact getD_of? this
  ·rename_i hc;rw[nU hc]at this;split
   ·rename_i hc2;rw[nV hc2]at this;exact getD_of? this
   ·rename_i hc2;rw[nU hc2]at this;exact getD_of? this
 intro a b hab hb;rw[e a,e b];by_cases a1:a=l
 ·rw[nV a1,nU (by lia),nV ⟨by lia,by lia⟩];exact h2 _ (by lia) (by lia)
 ·rw[nU a1];by_cases a2:l<a/\a<=k
  ·rw[nV a2,nU (by lia),nV ⟨by lia,by lia⟩];exact u _ _ (by lia) (by lia)
  ·rw[nU a2];by_cases b1:b=l
   ·rw[nV b1];exact h1 a (by lia)
   ·rw[nU b1];by_cases b2:l<b/\b<=k
    ·rw[nV b2];by_cases ab:a=b-1
     ·lia
     ·exact u _ _ (by lia) (by lia)
    ·rw[nU b2];exact u _ _ hab (by lia)
theorem MC(O:Strict lt n)(hn:0<n):∀(f:Nat) {p:Array Nat} (_:Pm n p) (k:Nat),k+f=n->Up lt p k->TruT lt n (kas_bin f p k) λq=>Pm n q/\Up lt q n
 | 0,p,h,k,hk,u=>⟨h,by(have:k=n:=by lia);rw[<-this];exact u⟩
 | f+1,p,h,k,hk,u=>by
  refine(uO O hn h (by lia) u k 0 k (nO _) gC (by lia) (λa ha=>by lia) (λa h1 h2=>by lia)).bind λl hl=>?_;exact MC O hn f (h.bub _ _) (k+1) (by lia) (bub_up h.size (by lia) hl.1 u hl.2.1 hl.2.2)
theorem RW(O:Strict lt n)(hn:0<n):TruT lt n (kas_sort n) λq=>Pm n q/\Up lt q n:=by
 refine(PD O hn).bind λr hr=>?_;obtain⟨h1,h2,h3,h4⟩:=hr;split
 ·rw[show max r.1 1=r.1 by lia];exact MC O hn _ h1 _ (by lia) h4
 ·have:r.1=n:=by lia
  exact⟨h1,this▸h4⟩
theorem RG{α:Type}{cmp:Nat->Nat->(Bool->Shared->Prop)->Shared->Prop}{s:Shared}(hc:∀i j C,i<n->j<n->C (lt i j) s->cmp i j C s){P:α->Prop}{Q:α->Shared->Prop}(hq:∀a,P a->Q a s):∀{t:KasT α},TruT lt n t P->t.kasWp cmp Q s
 | .ret a,h=>hq a h
 | .ask i j k,h=>hc i j _ h.1 h.2.1 (RG hc hq h.2.2)
end
end LwD
namespace LwD
open PySem PySem.Spec PyProof.Rows L2 Lw
def kC:List Int->List Int->Bool
 | x::xs,y::ys=>if x=y then kC xs ys else decide (x<y)
 | [],_::_=>true
 | _,[]=>false
theorem wA:∀a b c:List Int,kC a b=true->kC b c=true->kC a c=true
 | [],[],_,h,_=>by simp [kC]at h
 | [],_::_,[],_,h=>by simp [kC]at h
 | [],_::_,_::_,_,_=>by simp [kC]
 | _::_,[],_,h,_=>by simp [kC]at h
 | _::_,_::_,[],_,h=>by simp [kC]at h
 | x::xs,y::ys,z::zs,h1,h2=>by
  have ih:=wA xs ys zs;simp only[kC]at h1 h2 ⊢;by_cases e1:x=y
  ·subst e1;rw[nV rfl]at h1;by_cases e2:x=z
   ·rw[nV e2]at h2 ⊢;exact ih h1 h2
   ·rw[nU e2]at h2 ⊢;exact h2
  ·rw[nU e1]at h1;have h1:=mH h1;by_cases e2:y=z
   ·subst e2;rw[nU e1];exact mT h1
   ·rw[nU e2]at h2;have h2:=mH h2;rw[nU (by lia)];exact mT (by lia)
theorem uB:∀a b:List Int,kC a b=true->kC b a=false
 | [],[],h=>by simp [kC]at h
 | [],_::_,_=>by simp [kC]
 | _::_,[],h=>by simp [kC]at h
 | x::xs,y::ys,h=>by
  have ih:=uB xs ys;simp only[kC]at h ⊢;by_cases e1:x=y
  ·subst e1;rw[nV rfl]at h ⊢;exact ih h
  ·rw[nU e1]at h;have h:=mH h;rw[nU (by lia)];exact mR (by lia)
theorem CB:∀a b:List Int,a≠b->kC a b=false->kC b a=true
 | [],[],n,_=>absurd rfl n
 | [],_::_,_,h=>by simp [kC]at h
 | _::_,[],_,_=>by simp [kC]
 | x::xs,y::ys,n,h=>by
  have ih:=CB xs ys;simp only[kC]at h ⊢;by_cases e1:x=y
  ·subst e1;rw[nV rfl]at h ⊢;exact ih (λz=>n (by rw[z])) h
  ·rw[nU e1]at h;have h:=of_decide_eq_false h;rw[nU (by lia)];exact mT (by lia)
def FW(fin:Bool):List Int->List Int->Bool
 | x::xs,y::ys=>if x=y then FW fin xs ys else decide (x<y)
 | _,_=>fin
theorem FV:∀a b:List Int,FW (decide (a.length<b.length)) a b=kC a b
 | [],[]=>rfl
 | [],_::_=>by simp [FW,kC]
 | _::_,[]=>by simp [FW,kC]
 | x::xs,y::ys=>by
  have ih:=FV xs ys;simp only[FW,kC,mN,Nat.add_lt_add_iff_right];rw[ih]
def qJ(k:List Key):List Int:=k.filterMap fun | .inl i=>some i | .inr _=>none
theorem yH(ns:List Int):qJ (ik ns)=ns:=by
 unfold qJ ik;induction ns with
 | nil=>rfl
 | cons n r ih=>simp [ih]
theorem KTkeys{H:Hp}{ai:List (List Key×V)}{xs:List (List Key×Addr×Value)}(r:KT H ai xs):ai.map (·.1)=xs.map (·.1):=by
 induction r with
 | nil=>rfl
 | cons h _ ih=>rw[mX,mX,ih,h.1]
section
variable{prog:Program}{w:World}{A:Around}{E:Value->Shared->Prop}{s:Shared}
theorem CA{b fin:Bool}{Q:Bool->Shared->Prop} :∀{as bs:List Value} {xs ys:List Int} (_:IntsAre as xs) (_:IntsAre bs ys) (_:Q (FW fin xs ys) s) (i:Nat),PySem.W.KatLex prog w A b fin Q (as.zip bs) i s
 | _,_,_,_,.nil,_,h,_=>by
  rw[List.zip_nil_left];exact PySem.W.kat_nil (by simpa [FW]using h)
 | _,_,_,_,.cons _ _ _,.nil,h,_=>by
  rw[List.zip_nil_right];exact PySem.W.kat_nil (by simpa [FW]using h)
 | _,_,_,_,.cons n t r,.cons m u r2,h,i=>by
  rw[List.zip_cons_cons];simp only[FW]at h;refine PySem.W.kat_cons (SeqAt.EqAt.int_int _ _ _ _ prog w _ _ ?_);refine PySem.W.kat_go (λe=>PySem.W.kat_yes (CA r r2 (by rwa [nV (by simpa using e)]at h) (i+1))) λe=>PySem.W.kat_no ?_;rw[nU (by simpa using e)]at h;cases hb:(b&&i==0)with
  | true=>exact oneLt_int h
  | false=>exact PySem.W.kat_one _ _ (lt_int h)
end
section
variable{X:Cx}
end
end LwD
namespace LwI
open PySem PySem.Spec PyProof.Rows
open Sem (wp)
theorem ZV:typeLookup (.type "str") "__int__" = pure none:=by rw[typeLookup_type,builtinLookup_eq_fast];kernel_rfl
theorem SE:typeLookup (.type "str") "__index__" = pure none:=by rw[typeLookup_type,builtinLookup_eq_fast];kernel_rfl
theorem SD:typeLookup (.type "str") "__trunc__" = pure none:=by rw[typeLookup_type,builtinLookup_eq_fast];kernel_rfl
section
local macro_rules | `(panic! $s:str)=>return Lean.mkIdent ((Lean.Name.str (.str (.num (.str (.str (.str (.str (.str .anonymous "_private") "PySem") "Builtin") "Int") "W0All") 0) "PySem") "Builtin")++s.getString.toName)
local macro_rules | `(tactic| trivial)=>do
 let n (s:String):=Lean.mkIdent (.str (.str (.str (.num (.str (.str (.str (.str (.str .anonymous "_private") "PySem") "Builtin") "Int") "W0All") 0) "PySem") "Builtin") s)
 `(tactic| first | unfold $(n "intFromObject") | unfold $(n "numeralText?") | unfold $(n "intFromText") | unfold $(n "readNumeral") | unfold $(n "prefixBase?") | unfold $(n "numeralDigits?") | unfold $(n "digitValue?"))
def Dig(D:List Nat):Prop:=∀c∈D,48<=c/\c<=57
def valD(D:List Nat):Nat:=D.foldl (λacc c=>acc*10+(c-48)) 0
theorem CY{c:Nat}(h:45<=c):(panic! "isBlank") c=false:=by
 show((c==32)||(decide (9<=c)&&decide (c<=13)))=false;have h1:(c==32)=false:=by simp;omega
 have h2:decide (c<=13)=false:=by simp;omega
 rw[h1,h2];simp
theorem VD{c:Nat}(h:48<=c/\c<=57):(panic! "digitValue?") c=some (c-48):=by
 trivial
 have h1:(decide (48<=c)&&decide (c<=57))=true:=by simp;omega
 rw[nV h1]
theorem SY:∀(D:List Nat),Dig D->(panic! "prefixBase?") D=none
 | [],_=>by trivial;rfl
 | [c],_=>by
  trivial
  split
  ·rename_i h;cases h
  ·rfl
 | c::e::r,h=>by
  have he:=h e (by simp)
  trivial
  split
  ·rename_i q;injection q with q1 q2
   injection q2 with q2 q3
   subst q2;have n:∀k,57<k->(e==k)=false:=λk hk=>by simp;omega
   rw[n 120 (by decide),n 88 (by decide),n 111 (by decide),n 79 (by decide),n 98 (by decide),n 66 (by decide)]
   rfl
  ·rfl
theorem EF{F:Array Nat×Bool->Nat->Option (Array Nat×Bool)}(hF:∀ds b c,48<=c/\c<=57->F (ds,b) c=some (ds.push (c-48),true)):∀(D:List Nat) (ds:Array Nat) (b:Bool),Dig D->D≠[]->D.foldlM F (ds,b)=some (ds++(D.map (· - 48)).toArray,true)
 | [],_,_,_,h=>absurd rfl h
 | [c],ds,b,h,_=>by
  rw[List.foldlM_cons,hF ds b c (h c (by simp))];simp
 | c::e::r,ds,b,h,_=>by
  rw[List.foldlM_cons,hF ds b c (h c (by simp))];show(e::r).foldlM F _=_;rw[EF hF (e::r) _ _ (λx hx=>h x (gY _ hx)) (by simp)];simp
theorem VC{D:List Nat}(h:Dig D)(n:D≠[]):(panic! "numeralDigits?") 10 D=some (D.map (· - 48)).toArray:=by
 trivial
 rw[EF (λds b c hc=>?_) D #[] false h n]
 ·simp
 ·have h1:(c==95)=false:=by simp;omega
  have h2:c-48<10:=by omega
  dsimp only;rw[h1,VD hc];simp [h2]
theorem RK(D:List Nat):(D.map (· - 48)).toArray.foldl (λacc d=>acc*10+d) 0=valD D:=by
 rw[List.foldl_toArray,List.foldl_map]
 rfl
theorem GM{p:Nat->Bool}{a:Nat}{l:List Nat}(h:p a=false):List.dropWhile p (a::l)=a::l:=by simp [List.dropWhile,h]
theorem HW{D:List Nat}(h:Dig D)(n:D≠[])(l:D.length<=640):(panic! "readNumeral") 0 10 D=(panic! "Numeral.value") (valD D)/\(panic! "readNumeral") 0 10 (45::D)=(panic! "Numeral.value") (-(valD D:Int)):=by
 have sz:decide ((D.map (· - 48)).toArray.size>6000)=false:=by simp;omega
 have rv:(List.dropWhile (panic! "isBlank") D.reverse).reverse=D:=by
  cases e:D.reverse with
  | nil=>rw[List.reverse_eq_nil_iff]at e;exact absurd e n
  | cons a r=>
   have ha:a∈D:=List.mem_reverse.mp (by rw[e];simp);rw[GM (CY (by have:=h a ha;omega)),<-e,List.reverse_reverse]
 have core:∀neg:Bool,(match (panic! "numeralDigits?") 10 (List.dropWhile (panic! "isBlank") D.reverse).reverse with
   | none=>(panic! "Numeral.invalid")
   | some ds=>if (![2,4,8,16,32].contains 10&&0 != 0&&decide (ds.size>0))=true then(panic! "Numeral.tooLong") ds.size else
     if (10==10&&decide (ds.size>6000))=true then(panic! "Numeral.byTheLibrary")else
      if (false&&ds.foldl (λacc d=>acc*10+d) 0 != 0)=true then(panic! "Numeral.invalid")else(panic! "Numeral.value") (if neg=true then -((ds.foldl (λacc d=>acc*10+d) 0:Nat):Int)else((ds.foldl (λacc d=>acc*10+d) 0:Nat):Int)))=(panic! "Numeral.value") (if neg=true then -(valD D:Int)else(valD D:Int)):=λneg=>by
  rw[rv,VC h n];dsimp only;rw[nU (by simp),sz,nU (by simp),nU (by simp),RK]
 obtain⟨d,r,e⟩:∃d r,D=d::r:=by
  cases D with
  | nil=>exact absurd rfl n
  | cons d r=>exact⟨d,r,rfl⟩
 have hd:=h d (by rw[e];simp);refine⟨?_, ?_⟩
 ·have c0:=core false;have p0:=SY D h;clear core rv sz;subst e
  trivial
  rw[GM (CY (by omega))]
  extract_lets t
  split
  rename_i neg tt hq;have hq':(neg,tt)=(false,d::r):=by
   rw[<-hq];show(match d::r with | 45::r=>(true,r) | 43::r=>(false,r) | _=>(false,d::r))=_;split
   ·rename_i q;injection q with q _;omega
   ·rename_i q;injection q with q _;omega
   ·rfl
  cases hq';dsimp only;rw[p0];exact c0
 ·trivial
  rw[GM (CY (nN 45))]
  extract_lets t
  split
  rename_i neg tt hq;have hq':(neg,tt)=(true,D):=hq.symm;cases hq';dsimp only;rw[SY D h];exact core true
def Nml(L:List Nat)(i:Int):Prop:=∃D,Dig D/\D≠[]/\D.length<=600/\((L=D/\i=valD D)∨(L=45::D/\i = -(valD D:Int)))
theorem Nml.low{L:List Nat}{i:Int}(h:Nml L i):(∀c∈L,45<=c/\c<=57)/\L.length<=640:=by
 obtain⟨D,h1,h2,h3,h4⟩:=h;rcases h4 with⟨rfl,_⟩ | ⟨rfl,_⟩
 ·exact⟨λc hc=>by have:=h1 c hc;omega,by omega⟩
 ·refine⟨λc hc=>?_,by simp;omega⟩;rcases mY.mp hc with rfl | hc
  ·omega
  ·have:=h1 c hc;omega
theorem HN{p:Nat->Bool} :∀{L:List Nat},(∀c∈L,p c=true)->L.takeWhile p=L
 | [],_=>rfl
 | c::r,h=>by rw[List.takeWhile_cons,nV (h c (by simp)),HN λx hx=>h x (gY _ hx)]
theorem XO{x:Str}{t:Tok}{i:Int}(hx:Nml x.cps.toList i):Meets (Builtin.«int.__new__» ⟨[.type "int",.str x t],[]⟩) (Made.int i).spec:=
 Meets.of_wp λprog w A R s hs=>by
  obtain⟨hp,g,d,tk,os⟩:=s;have f1:=F.conv_sub_int;have f2:=F.madeHere_int;have h128:x.cps.all (· < 128)=true:=by
   rw[<-Array.all_toList];exact List.all_eq_true.mpr λc hc=>mT (by have:=hx.low.1 c hc;omega)
  have hnz:x.cps.toList.takeWhile (· != 0)=x.cps.toList:=HN λc hc=>by
   have:=hx.low.1 c hc;simp;omega
  have rd:(panic! "readNumeral") 0 10 x.cps.toList=(panic! "Numeral.value") i:=by
   obtain⟨D,h1,h2,h3,⟨e,rfl⟩ | ⟨e,rfl⟩⟩:=hx
   ·rw[e];exact(HW h1 h2 (by omega)).1
   ·rw[e];exact(HW h1 h2 (by omega)).2
  iterate 16 (any_goals (first | assumption | wp_step))
  refine nS ?_;refine nQ ?_
  trivial
  refine nQ (wpAny_callSpecial?_none (T:="str") (typeIs_str _ _ _) ZV ?_);refine nQ (wpAny_specialOf (T:="str") (typeIs_str _ _ _) SE ?_);refine nQ (wpAny_specialOf (T:="str") (typeIs_str _ _ _) SD ?_);refine nQ ?_
  trivial
  refine nQ (nS ?_);refine nS ?_;dsimp only;rw[nV h128]
  trivial
  rw[hnz,nV hx.low.2];refine nQ (nS ?_);dsimp only;rw[rd];dsimp only;rw[nV (beq_self_eq_true _)];refine wpAny_mkInt ?_
  iterate 4 (try any_goals (first | assumption | wp_step))
  exact⟨_,rfl,hs⟩
end
theorem call_int_str{prog:Program}{w:World}{A:Around}{E:Value->Shared->Prop}{s:Shared}{x:Str}{t:Tok}{i:Int}{Q:Value->Shared->Prop}(hx:Nml x.cps.toList i)(h:Q (.int i s.toks) { s with toks:=s.toks+1 }):wpAny (model prog w) A (call (.type "int") [.str x t]) Q E s:=
 call_int_1 (XO hx) (show(Made.int i).post _ s from⟨rfl,h⟩)
end LwI
namespace L2
open PySem PySem.Spec PyProof.Rows Lw
section
variable{X:Cx}
theorem uV:CallR X (.type "int") (λxs H Q=>∃(x:Str) (i:Int),xs=[.str x]/\LwI.Nml x.cps.toList i/\Q (.int i) H):=by
 intro af s σ H xs us Q I r h;obtain⟨x,i,rfl,hx,q⟩:=h;obtain⟨u,rfl,t,rfl⟩:=vI r;exact LwI.call_int_str hx ⟨.int i,H,I.tok _,⟨_,rfl⟩,q⟩
theorem QF:MtR X "str.startswith" (λx xs H Q=>∃z y:Str,x=.str z/\xs=[.str y]/\Q (.bl (Txt.startswith z y)) H):=by
 intro af s σ H x xs v us Q I rx rs q;obtain⟨z,y,rfl,rfl,q⟩:=q;obtain⟨t,rfl⟩:=rx;obtain⟨u,rfl,t',rfl⟩:=vI rs;exact PySem.SC.startswith ⟨.bl _,H,I,rfl,q⟩
theorem DU:∀{ss:List Str} {us:List Value},Vals (ss.map V.str) us->∃l:List (Str×Tok),us=strValues l/\l.map (·.1)=ss
 | [],_,h=>by cases h;exact⟨[],rfl,rfl⟩
 | x::r,_,.cons (b:=b) (l₂:=l₂) h1 h2=>by
  obtain⟨l,e1,e2⟩:=DU (ss:=r) h2;obtain⟨t,rfl⟩:=h1;exact⟨(x,t)::l,by rw[e1];rfl,by rw[mX,e2]⟩
theorem DK:∀(l:List (Str×Tok)),Vals ((l.map (·.1)).map V.str) (strValues l)
 | []=>.nil
 | (x,t)::r=>.cons ⟨t,rfl⟩ (DK r)
def rJoin(K:nW):V->List V->Hp->VK->Prop:=λx xs H Q=>∃(z:Str) (p:Addr) (ss:List Str),x=.str z/\xs=[.ref p]/\SqL K H p (ss.map V.str)/\JoinOk z ss=true/\Q (.str (Str.join z ss)) H
theorem yR:MtR X "str.join" (rJoin X.K):=by
 intro af s σ H x xs v us Q I rx rs q;obtain⟨z,p,ss,rfl,rfl,hp,hk,q⟩:=q;obtain⟨t,rfl⟩:=rx;obtain⟨u,rfl,ru⟩:=vI rs;cases ru;obtain⟨its,rv,pl,_⟩:=I.list hp;obtain⟨l,rfl,e⟩:=DU rv;refine PySem.SC.join pl.isList e hk λt' k=>?_;rw[show Txt.join z ss=Str.join z ss from StrLaws.glued_eq_join z ss];exact⟨.str _,H,I.tok _,⟨_,rfl⟩,q⟩
theorem DY{af:List (Addr×Obj)}{σ:St}{H:Hp}{s:Shared}{Q:VK}{l:List (Str×Tok)}{tk:Nat}(I:Inv X af σ H s)(hz:l.length<=sizeLine)(q:New H (.lst ((l.map (·.1)).map V.str)) Q) :
  EP X af σ Q (.ref s.heap.objs.size) { s with toks:=tk,heap:=s.heap.push { cls:=.type "list",data:=.seq (strValues l).toArray } } :=
 ⟨.ref s.heap.objs.size,_,I.laid (o:=.lst ((l.map (·.1)).map V.str)) (t':=tk) (λb o e=>gP _ e) gC ⟨by simpa using hz,strValues l,0,DK l,hU _ rfl⟩,rfl,q.at (I.hok.fresh gC)⟩
theorem yG:MtR X "str.split" (λx xs H Q=>∃z y:Str,x=.str z/\xs=[.str y]/\(y.length==0)=false/\z.length+2<=sizeLine/\New H (.lst ((Txt.split z y).map V.str)) Q):=by
 intro af s σ H x xs v us Q I rx rs q;obtain⟨z,y,rfl,rfl,hy,hz,q⟩:=q;obtain⟨t,rfl⟩:=rx;obtain⟨_,rfl,u,rfl⟩:=vI rs;have hn:(Builtin.Str.partsBetween z (Builtin.Str.occurrences z y 0 z.length (z.length+1)) y.length).length<=sizeLine:=by
  have e1:=StrLaws.occ_length_le z y 0 z.length (z.length+1);rw[length_partsBetween];lia
 have one:Txt.split z y=[z]->EP X af σ Q (.ref s.heap.objs.size) { s with heap:=s.heap.push { cls:=.type "list",data:=.seq (strValues [(z,t)]).toArray } } :=λe=>by
  rw[e]at q;exact DY (tk:=s.toks) (l:=[(z,t)]) I gE q
 cases h1:(decide (z.length<y.length)||decide (Builtin.Str.strKind z<Builtin.Str.strKind y))
 ·cases hf:(Builtin.Str.occurrences z y 0 z.length (z.length+1)).isEmpty
  ·refine call_meets F.slot_str_split (typeIs_str _ _ _) F.entry_str_split (F.args_str_split_2 _ _) (meets_str_split_sep z y t u h1 hy hf (by lia) hn) ?_;show EP X af σ Q _ { s with toks:=_,heap:=s.heap.push { cls:=.type "list",data:=.seq (strsFrom s.toks (Builtin.Str.partsBetween z (Builtin.Str.occurrences z y 0 z.length (z.length+1)) y.length)).toArray } };rw[strsFrom_eq];have e:Txt.split z y=(numbered s.toks (Builtin.Str.partsBetween z (Builtin.Str.occurrences z y 0 z.length (z.length+1)) y.length)).map (·.1):=((numbered_texts _ _).trans ((nU (ne_true_of_eq_false h1)).trans (nU (ne_true_of_eq_false hf))).symm).symm;rw[e]at q;refine DY I ?_ q;have:=congrArg List.length (numbered_texts s.toks (Builtin.Str.partsBetween z (Builtin.Str.occurrences z y 0 z.length (z.length+1)) y.length));rw[mQ]at this
   lia
  ·exact call_meets F.slot_str_split (typeIs_str _ _ _) F.entry_str_split (F.args_str_split_2 _ _) (meets_str_split_not_found z y t u h1 hy hf) (one ((nU (ne_true_of_eq_false h1)).trans (nV hf)))
 ·exact call_meets F.slot_str_split (typeIs_str _ _ _) F.entry_str_split (F.args_str_split_2 _ _) (meets_str_split_cannot_occur z y t u h1) (one (nV h1))
theorem NQ:MtR X "str.partition" (λx xs H Q=>∃z y:Str,x=.str z/\xs=[.str y]/\(y.length==0)=false/\z.length<=sizeLine/\New H (.tup [.str (Txt.partition z y).1,.str (Txt.partition z y).2.1,.str (Txt.partition z y).2.2]) Q):=by
 intro af s σ H x xs v us Q I rx rs q;obtain⟨z,y,rfl,rfl,hy,hz,q⟩:=q;obtain⟨t,rfl⟩:=rx;obtain⟨_,rfl,u,rfl⟩:=vI rs;have fin:∀(a b c:Str) (ta tb tc:Tok) (tk:Nat),New H (.tup [.str a,.str b,.str c]) Q->EP X af σ Q (.ref s.heap.objs.size) { s with toks:=tk,heap:=s.heap.push { cls:=.type "tuple",data:=.seq [.str a ta,.str b tb,.str c tc].toArray } } :=λa b c ta tb tc tk q=>
  ⟨.ref s.heap.objs.size,_,I.laid (o:=.tup [.str a,.str b,.str c]) (t':=tk) (λb o e=>gP _ e) gC ⟨by show 3<=sizeLine;decide,[.str a ta,.str b tb,.str c tc],.cons ⟨_,rfl⟩ (.cons ⟨_,rfl⟩ (.cons ⟨_,rfl⟩ .nil)),⟨_,hU _ rfl,rfl,0,rfl⟩,.of (hU _ rfl) rfl⟩,rfl,q.at (I.hok.fresh gC)⟩
 refine call_meets F.slot_str_partition (typeIs_str _ _ _) F.entry_str_partition (F.args_str_partition_2 _ _) (meets_str_partition z y t u hy hz) ?_;unfold Txt.partition at q;revert q;cases Builtin.Str.occurrences z y 0 z.length 1 with
 | nil=>intro q;exact fin _ _ _ _ _ _ _ q
 | cons i r=>intro q;exact fin _ _ _ _ _ _ _ q
def rSlS:V->Option Int->Option Int->Hp->VK->Prop:=λx lo hi H Q=>∃z:Str,x=.str z/\z.length<=sizeLine/\Q (.str (Txt.slice z lo hi)) H
theorem xB:SlR X rSlS:=by
 intro af s σ H x v vl vu lo hi sl Q I rx hs pl pu h;obtain⟨z,rfl,hz,q⟩:=h;obtain⟨t,rfl⟩:=rx;refine⟨"str",_,F.slot_str_getitem.lookup,typeIs_str _ _ _, ?_⟩;cases pl<;>cases pu
 ·exact wpAny_getItem_str_slice (l:=none) (u:=none) (st:=none) hs rfl (post_val_or_str ⟨nG (Txt.slice_le z _ _) hz,λt' k=>⟨.str _,H,I.tok _,⟨_,rfl⟩,q⟩⟩)
 ·rename_i j tj;exact wpAny_getItem_str_slice (l:=none) (u:=some (j,tj)) (st:=none) hs rfl (post_val_or_str ⟨nG (Txt.slice_le z _ _) hz,λt' k=>⟨.str _,H,I.tok _,⟨_,rfl⟩,q⟩⟩)
 ·rename_i j tj;exact wpAny_getItem_str_slice (l:=some (j,tj)) (u:=none) (st:=none) hs rfl (post_val_or_str ⟨nG (Txt.slice_le z _ _) hz,λt' k=>⟨.str _,H,I.tok _,⟨_,rfl⟩,q⟩⟩)
 ·rename_i i ti j tj;exact wpAny_getItem_str_slice (l:=some (i,ti)) (u:=some (j,tj)) (st:=none) hs rfl (post_val_or_str ⟨nG (Txt.slice_le z _ _) hz,λt' k=>⟨.str _,H,I.tok _,⟨_,rfl⟩,q⟩⟩)
def FmtV:V->Str->Prop
 | .int i,y=>i.natAbs.log2<1920/\y=toString i
 | .str x,y=>x.length<=sizeLine/\y=x
 | _,_=>False
theorem UV{af:List (Addr×Obj)}{σ:St}{H:Hp}{s:Shared}{Q:Value->Shared->Prop}{E:Value->Shared->Prop}{x:V}{v:Value}{y:Str}(I:Inv X af σ H s)(r:RelV x v)(f:FmtV x y)(q:∀t tk,Inv X af σ H { s with toks:=tk }->Q (.str y t) { s with toks:=tk }) :
  wpAny (model X.prog X.w) X.A (formatField v Str.empty) Q E s:=by
 cases x with
 | int i=>
  obtain⟨t,rfl⟩:=r;obtain⟨f1,rfl⟩:=f;exact formatField_int_small f1 (q _ _ (I.tok _))
 | str z=>
  obtain⟨t,rfl⟩:=r;obtain⟨f1,rfl⟩:=f;exact formatField_str (λt' tk=>q _ _ (I.tok _)) f1
 | _=>exact f.elim
theorem fmt_le{x:V}{y:Str}(f:FmtV x y):y.length<=sizeLine:=by
 cases x with
 | int i=>rw[f.2];exact int_text_fits f.1
 | str z=>rw[f.2];exact f.1
 | _=>exact f.elim
def tF3(ta:TE)(m:Str)(tb:TE):TE:=fun σ H Q=>ta σ H λx H1=>∃x',FmtV x x'/\x'.length+m.length<=sizeLine/\tb σ H1 λy H2=>∃y',FmtV y y'/\x'.length+m.length+y'.length<=sizeLine/\Q (.str (x'++m++y')) H2
theorem NH{a b:Expr}{ta tb:TE}{m:Str}{k:Nat}{p1 p2 p3 pos:Pos}(ha:PE X a ta)(hb:PE X b tb):PE X (.JoinedStr [.FormattedValue a (-1) none p1,.Constant (.str m) k p2,.FormattedValue b (-1) none p3] pos) (tF3 ta m tb):=by
 intro af s σ H Q I h;refine JoinedStr_many (joinParts_cons (FormattedValue_plain (thn (ha af s σ H _ I h) λv s1 ⟨x,H1,I1,r1,x',f1,hm,q1⟩=>?_)));refine UV I1 r1 f1 λt tk I2=>?_;have e1:Str.empty++x'=x':=Str.empty_append x';refine⟨by rw[e1];exact fmt_le f1, ?_⟩;rw[e1];refine joinParts_cons (Calls.Constant_str ?_);have I3:Inv X af σ H1 { s1 with toks:=tk+1 } :=I2.tok _;show(x'++m).length<=sizeLine/\wpAny _ _ (joinParts (x'++m) _) _ _ { s1 with toks:=tk+1 };refine⟨?_,joinParts_consE (joinParts_cons (FormattedValue_plain (thn (hb af _ σ H1 _ I3 q1) λv s2 ⟨y,H2,I4,r2,y',f2,hl,q2⟩=>?_)))⟩
 ·rw[Str.length_append];exact hm
 refine UV I4 r2 f2 λt tk I5=>⟨?_,joinParts_nilE (joinParts_nil ⟨.str _,H2,I5.tok _,⟨_,rfl⟩,q2⟩ ?_)⟩
 ·rw[Str.length_append,Str.length_append];exact hl
 ·rw[Str.length_append,Str.length_append];exact hl
def Its(z:Str):It:=⟨λi _=>i<z.length,λi H x H'=>H'=H/\∃c,z.cps.toList[i]? = some c/\x=.str ⟨#[c]⟩,λi _=>z.length<=i⟩
theorem RO{P:Program}{w:World}{K:nW}{tg:Expr}(z:Str)(t:Tok)(it:Addr):Turn P w K tg (Its z) [it] it (λi h=>h.IsStrIter it "str_ascii_iterator" z t i) where
 mem:=by simp
 obj:=λi h st b hb=>by
  have e:b=it:=by simpa using hb
  subst e;obtain⟨o,e,c,d⟩:=st;exact⟨o,e,λv z=>by rw[d]at z;cases z⟩
 keep:=λi h h' st k=>by
  obtain⟨o,e,r⟩:=st;exact⟨o,k it (by simp) o e,r⟩
 item:=by
  intro X hP hw hK hc i af s σ H E I hf st hg;subst hP hw hK;obtain⟨f0,f1,f2,f3,f4,f5⟩:=hf it (by simp);have hg':i<z.cps.size:=hg;refine wpAny_pyNext_ascii_item st (c:=z.cps[i]) (by simp [hg']) λh' st' sb=>?_;have I1:Inv X af σ H { s with heap:=h',toks:=s.toks+1 } :=I.turned (λb o hb e=>(sb.2 b hb).trans e) f0 f1 f3 f4 f5;obtain⟨o,e,c,d⟩:=id st';exact⟨_,rfl,JC (s:={ s with heap:=h',toks:=s.toks+1 }) e c d (by decide) ⟨.str ⟨#[z.cps[i]]⟩,H,I1,⟨_,rfl⟩,⟨rfl,_,by simp [hg'],rfl⟩,st',λb hb=>(hf b hb).1⟩⟩
 done:=by
  intro X hP hw hK hc i af s σ H E I hf st hg;subst hP hw hK;obtain⟨f0,f1,f2,f3,f4,f5⟩:=hf it (by simp);have hg':z.cps.size<=i:=hg;exact wpAny_pyNext_ascii_end (I.ok.hd hc) st (by simp [hg']) λh' eb=>⟨rfl,I.turned (t':=s.toks) (λb o hb e=>eb b o hb e) f0 f1 f3 f4 f5⟩
 self:=λ_ _ _ _ _ st h=>wpAny_pyIter_striter_ascii st h
def iStr(tl:TE):TI:=fun σ H R=>tl σ H λx H1=>∃z:Str,x=.str z/\z.cps.all (· < 128)=true/\R (Its z) H1
theorem TC{tg l:Expr}{tl:TE}(hl:PE X l tl):PI X tg l (iStr tl):=by
 intro af s σ H R I h;refine thn (hl af s σ H _ I h) λv s1 ⟨x,H1,I1,r1,q1⟩=>?_;obtain⟨z,rfl,ha,q⟩:=q1;obtain⟨t,rfl⟩:=r1;refine wpAny_pyIter_ascii ha ?_;refine⟨s1.heap.objs.size,[s1.heap.objs.size],_,_,H1,rfl,I1.kept (t':=s1.toks) λb o e=>gP _ e,RO z t _,⟨_,hU _ rfl,rfl,rfl⟩,λb hb=>?_,q⟩;have e:b=s1.heap.objs.size:=by simpa using hb
 subst e;exact I1.fpOk gC (I1.hok.fresh gC)
theorem QT{α:Type}{M:Model}{A:Around}{E:Value->Shared->Prop}{s:Shared}{F:Nat->Option α×Unit->Sem (ForInStep (Option α×Unit))}{R:Option α×Unit->Shared->Prop}{j:Nat}
  (h1:∀i (Q:ForInStep (Option α×Unit)->Shared->Prop),i<j->Q (.yield (none,())) s->wpAny M A (F i (none,())) Q E s) (h2:wpAny M A (F j (none,())) (λr s'=>∃a,r=.done (some a,())/\R (some a,()) s') E s) :
  ∀m a:Nat,a<=j->j<a+m->wpAny M A (forIn (List.range' a m) (none,()) F) R E s:=by
 intro m;induction m with
 | zero=>intro a h3 h4;lia
 | succ m ih=>
  intro a h3 h4;rw[List.range'_succ,List.forIn_cons];by_cases e:a=j
  ·subst e;refine nQ (nT h2 (λr s' h=>?_) λ_ _ e=>e);obtain⟨a,rfl,h⟩:=h;exact nS h
  ·exact nQ (h1 a _ (by lia) (ih (a+1) (by lia) (by lia)))
def rIndex(K:nW):V->List V->Hp->VK->Prop:=λx xs H Q=>∃(p:Addr) (ys:List V) (y:V) (j:Nat),x=.ref p/\xs=[y]/\SqT K H p ys/\yX y=true/\ys.all yX=true/\j<ys.length/\(∀i z,i<j->ys[i]? = some z->eqV z y=false)/\(∀z,ys[j]? = some z->eqV z y=true)/\Q (.int j) H
theorem TY:MtR X "tuple.index" (rIndex X.K):=by
 intro af s σ H x xs v us Q I rx rs q;obtain⟨p,ys,y,j,rfl,rfl,hp,fy,fa,hj,hn,hy,q⟩:=q;cases rx;obtain⟨u,rfl,ru⟩:=vI rs;obtain⟨its,rv,pl,hz⟩:=I.tuple hp;have hT:s.TypeIs (.ref p) "tuple":=by
  obtain⟨o,ho,hc,_⟩:=pl;exact⟨o,ho,hc⟩
 refine wpAny_call_entry F.slot_tuple_index hT F.entry_tuple_index ?_ (F.args_tuple_index_2 _ _);unfold Builtin.«tuple.index»;refine nQ (m:=selfAndSome "tuple.index" "index" 1 3 _) (nS ?_);refine nQ (tupleItemsOf_ pl ?_);refine nQ (nS ?_);refine nQ (nS ?_);refine nQ ?_;rw[Std.Legacy.Range.forIn_eq_forIn_range'];have hl:=rv.length;have esz:([0:min its.toArray.size its.toArray.size]:Std.Legacy.Range).size=its.length:=by
  simp [Std.Legacy.Range.size]
 rw[esz];have e0:List.range' ([0:min its.toArray.size its.toArray.size]:Std.Legacy.Range).start its.length ([0:min its.toArray.size its.toArray.size]:Std.Legacy.Range).step=List.range' 0 its.length:=rfl;rw[e0];have at':∀a,a<ys.length->∃z v,ys[a]? = some z/\its.toArray[a]? = some v/\RelV z v/\yX z=true:=λa ha=>by
  obtain⟨z,hzz⟩:∃z,ys[a]? = some z:=⟨ys[a],by simp [ha]⟩;obtain⟨v,hv,rz⟩:=rv.get hzz;exact⟨z,v,hzz,by simpa using hv,rz,List.all_eq_true.mp fa z (gX hzz)⟩
 refine QT (j:=j) (λi R hi hR=>?_) ?_ _ 0 (nO _) (by lia)
 ·obtain⟨z,v,h1,h2,h3,h4⟩:=at' i (by lia);rw[h2];refine nQ (LK h3 ru h4 fy _ _ _ _ ?_);rw[hn i z hi h1,nU hW];exact nS hR
 ·obtain⟨z,v,h1,h2,h3,h4⟩:=at' j hj;rw[h2];refine nQ (LK h3 ru h4 fy _ _ _ _ ?_);rw[hy z h1,nV rfl];refine nQ (m:=retInt (j:Int)) ?_;unfold retInt;refine nQ (wpAny_mkInt ?_);exact nS (nS ⟨_,rfl,nS ⟨_,rfl,.int j,H,I.tok _,⟨_,rfl⟩,q⟩⟩)
end
end L2
namespace L2
open PySem PySem.Spec PyProof.Rows
theorem strAs{h h':Heap}{a:Addr}{T:String}{x:Str}{t:Tok}{k:Nat}(y:h.IsStrIter a T x t k)(f:∀o,h.get? a=some o->h'.get? a=some o):h'.IsStrIter a T x t k:=let ⟨o,ho,r⟩:=y;⟨o,f o ho,r⟩
def ZU(x:Str)(t:Tok):Obj:={ cls:=.type "str_ascii_iterator",data:=.fields #[.str x t,.int 0 0] }
def chV(x:Str):List V:=x.cps.toList.map λc=>V.str ⟨#[c]⟩
theorem chV_at{x:Str}{k:Nat}{v:V}(h:(chV x)[k]? = some v):∃c,x.cps[k]? = some c/\v=.str ⟨#[c]⟩:=by
 unfold chV at h;rw[mE,Array.getElem?_toList]at h;obtain⟨c,hc,rfl⟩:=Option.map_eq_some_iff.mp h;exact⟨c,hc,rfl⟩
theorem chV_of{x:Str}{k:Nat}{c:Nat}(h:x.cps[k]? = some c):(chV x)[k]? = some (.str ⟨#[c]⟩):=by
 unfold chV;rw[mE,Array.getElem?_toList,h]
 rfl
theorem it0S{prog:Program}{w:World}{x:Str}{t:Tok}{h:Heap}(ha:x.cps.all (· < 128)=true):Itr0 prog w (.str x t) (ZU x t) h:=λe q=>by
 subst e;exact wpAny_pyIter_ascii ha q
def srcS(prog:Program)(w:World)(i:Addr)(x:Str)(t:Tok):Src prog w i where
 at_ k h:=h.IsStrIter i "str_ascii_iterator" x t k
 has xs _:=xs=chV x
 dep:=[]
 next st hs hx q:=by
  subst hs;obtain⟨c,hc,rfl⟩:=chV_at hx;exact wpAny_nextOf_ascii_item st hc λg n b=>q g _ _ ⟨_,rfl⟩ n b
 stop hh st hs hx q:=by
  subst hs;refine wpAny_nextOf_ascii_end hh st ?_ q;unfold chV at hx;rw[mE,Array.getElem?_toList]at hx;exact Option.map_eq_none_iff.mp hx
 atk y f:=strAs y f
 hask y _:=y
 obj y:=let ⟨o,h1,_,d⟩:=y;⟨o,h1,λv q=>by rw[d]at q;cases q⟩
def Itzs(K:nW)(w0:Str)(b:Addr):It:=
 ⟨λi H=>∃ys c y,SqT K H b ys/\w0.cps[i]? = some c/\ys[i]? = some y,
  λi H v H'=>∃p c y,H p=none/\v=.ref p/\H'=upd H p (.tup [.str ⟨#[c]⟩,y])/\w0.cps[i]? = some c/\(∀ys,SqT K H b ys->ys[i]? = some y),
  λi H=>∃ys,SqT K H b ys/\(w0.length<=i∨ys.length<=i)⟩
theorem ZX{P:Program}{w:World}{K:nW}{i1 i2 b:Addr}{x0:Str}{t0:Tok} :SrcJ P w K (srcS P w i1 x0 t0) (HQ P w i2 b) (Itzs K x0 b):=by
 refine⟨λX hP hw hK {i af s σ H} I hg=>?_,λX hP hw hK {i af s σ H} I hg=>?_⟩<;>subst hP hw hK
 ·obtain⟨ys,c,y,q2,hx,hy⟩:=hg;exact⟨_,ys,_,y,rfl,I.hasT q2,chV_of hx,hy,λb' f z=>(f.apart I q2) (mB.mp z).symm,λp n=>⟨p,c,y,n,rfl,rfl,hx,λys' h=>by rw[I.tuple_inj h q2];exact hy⟩⟩
 ·obtain⟨ys,q2,he⟩:=hg;refine⟨_,ys,rfl,I.hasT q2,he.imp (λh=>gU ?_) gU,λb' f z=>(f.apart I q2) (mB.mp z).symm⟩;unfold chV;rw[mQ,Array.length_toList];exact h
section
variable{X:Cx}
def iZipS(K:nW)(ta:TA):TI:=fun σ H R=>ta σ H λvs H1=>∃x b,vs=[.str x,.ref b]/\x.cps.all (· < 128)=true/\(∃ys,SqT K H1 b ys)/\R (Itzs K x b) H1
theorem NF{es:List Expr}{x1}{tp:Pos}{a b:Expr}{ta:TA}{p pos:Pos}(hg:Gl X "zip")(hm:X.mg "zip" = none)(ha:PA X [a,b] ta)(hs:starEach [a,b] X.env=[(false,eval a X.env),(false,eval b X.env)]:=by rfl)(hs2:starEach [b] X.env=[(false,eval b X.env)]:=by rfl) :
  PI X (.Tuple es x1 tp) (.Call (.Name "zip" p) [a,b] [] pos) (iZipS X.K ta):=by
 intro af s σ H R I h;refine Call_ (yT I hg hm boot_zip (PyProof.Rows.callWith_type1 (thn (ha pos af s σ H _ I h) λus s1 ⟨vs,H1,I1,r1,q1⟩=>?_) (by rw[hs,hs2]) (by rw[hs2];rfl)));obtain⟨x0,l2,e,ha0,⟨ys,q2⟩,q⟩:=q1;subst e;cases r1 with
 | cons r rr=>
  cases rr with
  | cons r' rr=>
   cases rr;obtain⟨t0,rfl⟩:=r;cases r';obtain⟨its2,_,p2,_⟩:=I1.tuple q2;exact ND I1 (it0S ha0) (it0T (Heap.IsTuple.push p2 _)) rfl rfl (srcS _ _ _ x0 t0) (HQ _ _ _ l2) (λg e=>⟨_,e,rfl,rfl⟩) (λg=>at0T g) ZX q
end
theorem JH{K:nW}{w0:Str}{b:Addr}{ys:List V}{g:TG}{tb:TS}{D:Ends}{σ:St}{H:Hp}(Pv:Nat->St->Hp->Prop)(le:ys.length<=w0.length)(h0:Pv 0 σ H)(hl:∀i σ H,i<=ys.length->Pv i σ H->SqT K H b ys)
  (hs:∀i c y p σ H,w0.cps[i]? = some c->ys[i]? = some y->H p=none->Pv i σ H->g (.ref p) σ (upd H p (.tup [.str ⟨#[c]⟩,y])) fun σ2 H2=>tb { D with nx:=Pv (i+1),ct:=Pv (i+1),bk:=D.nx } σ2 H2) (hd:∀σ H,Pv ys.length σ H->D.nx σ H) :
  ∃W:Nat->Nat->St->Hp->Prop,(∃m,W 0 m σ H)/\∀i m σ H,W i m σ H->
   ((Itzs K w0 b).stop i H/\D.nx σ H)∨((Itzs K w0 b).go i H/\∃N:St->Hp->Prop,(∀σ' H',N σ' H'->∃m',m'<m/\W (i+1) m' σ' H')/\∀x H',(Itzs K w0 b).yld i H x H'->g x σ H' fun σ2 H2=>tb { D with nx:=N,ct:=N,bk:=D.nx } σ2 H2):=by
 refine⟨λi m σ H=>m=ys.length-i/\i<=ys.length/\Pv i σ H,⟨ys.length,by simp,nO _,h0⟩, ?_⟩;rintro i m σ H ⟨rfl,hi,p⟩;have q2:=hl i σ H hi p;by_cases hlt:i<ys.length
 ·have hw:i<w0.cps.size:=hX hlt le;refine .inr ⟨⟨ys,w0.cps[i],ys[i],q2,by simp [hw],by simp [hlt]⟩,Pv (i+1),fun σ' H' p'=>⟨ys.length-(i+1),by lia,rfl,hlt,p'⟩,λv H' y=>?_⟩;obtain⟨r,x,y,hr,rfl,rfl,hx,hy⟩:=y;exact hs i x y r σ H hx (hy ys q2) hr p
 ·have ei:i=ys.length:=by lia
  subst ei;exact .inl ⟨⟨ys,q2,.inr gC⟩,hd σ H p⟩
theorem UU{K:nW}{a b:Addr}{xs ys:List V}{g:TG}{tb:TS}{D:Ends}{σ:St}{H:Hp}(Pv:Nat->St->Hp->Prop)(le:ys.length<=xs.length)(h0:Pv 0 σ H)(hl:∀i σ H,i<=ys.length->Pv i σ H->SqT K H a xs/\SqT K H b ys)
  (hs:∀i x y p σ H,xs[i]? = some x->ys[i]? = some y->H p=none->Pv i σ H->g (.ref p) σ (upd H p (.tup [x,y])) fun σ2 H2=>tb { D with nx:=Pv (i+1),ct:=Pv (i+1),bk:=D.nx } σ2 H2) (hd:∀σ H,Pv ys.length σ H->D.nx σ H) :
  ∃W:Nat->Nat->St->Hp->Prop,(∃m,W 0 m σ H)/\∀i m σ H,W i m σ H->
   ((Itz K a b).stop i H/\D.nx σ H)∨((Itz K a b).go i H/\∃N:St->Hp->Prop,(∀σ' H',N σ' H'->∃m',m'<m/\W (i+1) m' σ' H')/\∀x H',(Itz K a b).yld i H x H'->g x σ H' fun σ2 H2=>tb { D with nx:=N,ct:=N,bk:=D.nx } σ2 H2):=by
 refine⟨λi m σ H=>m=ys.length-i/\i<=ys.length/\Pv i σ H,⟨ys.length,by simp,nO _,h0⟩, ?_⟩;rintro i m σ H ⟨rfl,hi,p⟩;obtain⟨q1,q2⟩:=hl i σ H hi p;by_cases hlt:i<ys.length
 ·have hw:i<xs.length:=hX hlt le;refine .inr ⟨⟨xs,ys,xs[i],ys[i],q1,q2,by simp [hw],by simp [hlt]⟩,Pv (i+1),fun σ' H' p'=>⟨ys.length-(i+1),by lia,rfl,hlt,p'⟩,λv H' y=>?_⟩;obtain⟨r,x,y,hr,rfl,rfl,hx,hy⟩:=y;exact hs i x y r σ H (hx xs q1) (hy ys q2) hr p
 ·have ei:i=ys.length:=by lia
  subst ei;exact .inl ⟨⟨xs,ys,q1,q2,.inr gC⟩,hd σ H p⟩
end L2
namespace LwD
open PySem PySem.Spec PyProof.Rows L2 Lw PySem.W
section
variable{prog:Program}{w:World}{A:Around}{E:Value->Shared->Prop}{s:Shared}{h₀:Heap}{L:Addr}{m:Str->Option Value}{news:List (Addr×Obj)}
theorem KC{T:String}{r d:Addr}{n:Nat}{P:Nat->Value->Prop}{OK:Heap->Prop}{Q:Value->Shared->Prop}(K:KdlSrc prog w T r d n P OK)(hh:A.handled=none)(F:Fr h₀ L s.heap m)(N:News h₀ L s.heap news)(hok:OK s.heap)(hn:n<=sizeLine)
  (h:∀(D:Addr) (h':Heap) (tk:Nat) (vs:List Value),Fr h₀ L h' m->News h₀ L h' ((D,listOf vs.toArray 0)::news)->(∀q∈news,q.1<D)->vs.length=n->(∀(j:Nat) (v:Value),vs[j]? = some v->P j v)->
   wpAny (model prog w) A.in1 (call (.builtin "list.sort") [.ref D] [(Str.ofString "reverse",.bool true)]) (λ_ s'=>Q (.ref D) s') E { s with heap:=h',toks:=tk }) :
  wpAny (model prog w) A (call (.builtin "sorted") [.ref r] [(Str.ofString "reverse",.bool true)]) Q E s:=by
 refine call_function_entry_kw kind_sorted plain_sorted entry_sorted (args_sorted_rev _ _) ?_;unfold Builtin.«sorted»;refine nQ (m:=checkCount "sorted" 1 1 _) (nS ?_);refine nQ (kdu_collect (A:=A.in1) K hh hok hn λh' tk acc hk hacc=>?_);have hl:acc.toList.length=n:=by rw[Array.length_toList];exact hacc.1
 refine nQ (wpAny_newList ?_ (by rw[hl];exact hn));have hg:=h h'.objs.size (h'.push { cls:=.type "list",data:=.seq acc.toList.toArray }) tk acc.toList ((F.keeps hk).push _) (News.push (F.keeps hk) (λp hp=>⟨hk _ _ (N p hp).1,(N p hp).2⟩) _ rfl)
  (λq hq=>nF (hk _ _ (N q hq).1)) hl (λj v e=>hacc.2 j v (by rw[<-Array.getElem?_toList];exact e))
 refine nQ (wpAny_holding (nT hg (λ_ s' x=>?_) λ_ _ e=>e));exact nS ⟨_,rfl,x⟩
theorem HS{a:Addr}{vs:List Value}{n:Nat}{Q:Value->Shared->Prop}(ho:s.heap.get? a=some (seqObj "list" vs.toArray n))(h2:vs.length<2)(q:Q .none { s with heap:=sortedHeap s.heap a vs vs.toArray }):wpAny (model prog w) A (call (.builtin "list.sort") [.ref a] [(Str.ofString "reverse",.bool true)]) Q E s:=by
 refine wpAny_call_entry_kw slot_list_sort ⟨_,ho,rfl⟩ entry_list_sort ?_ (args_list_sort_rev _ _);rw[list_sort_rev];have ha:a<s.heap.objs.size:=nF ho;obtain⟨e1,ho1⟩:∃e1,(s.heap.update a (Obj.mapSeq λ_=>#[])).get? a=some (seqObj "list" #[] e1):=⟨_,get?_update_seq ho (λ_=>#[])⟩;have ho6:(((s.heap.update a (Obj.mapSeq λ_=>#[])).push (seqObj "tuple" vs.toArray 0)).push (seqObj "list" #[] 0)).get? a=some (seqObj "list" #[] e1):=gP _ (gP _ ho1);have hz:vs.toArray.size<2:=by simpa using h2
 refine nQ (listItems_at ho rfl (nQ (listUpdate_at ho rfl (nQ (seqEpoch_at ho1 rfl (nQ (wpAny_newTuple (nQ (wpAny_newList (wpAny_holding ?_))))))))));show wpAny (model prog w) _ _ _ E { s with heap:=((s.heap.update a (Obj.mapSeq λ_=>#[])).push (seqObj "tuple" vs.toArray 0)).push (seqObj "list" #[] 0) };dsimp only;rw[nV rfl];refine nQ (wpAny_rule ?_);rw[nV hz,nV hz];refine nQ (nS ?_);rw[StateT.run_pure];refine nQ (nS ?_);dsimp only;have hm:((arrOf (SortSt.mk' general' (if true=true then(vs.toArray.zip vs.toArray).reverse else vs.toArray.zip vs.toArray) #[] 7 none)).map (·.2)).reverse=vs.toArray:=by
  show(((vs.toArray.zip vs.toArray).reverse).map (·.2)).reverse=vs.toArray;apply Array.ext';simp [List.map_snd_zip]
 refine nQ (seqEpoch_at ho6 rfl (nQ (listUpdate_at ho6 rfl ?_ (hsz2:=by rw[nV rfl,hm,sizeLine_eq];lia))));rw[nV rfl,hm];simp only[bne_self_eq_false,Bool.false_eq_true,if_false];exact nS ⟨_,rfl,q⟩
theorem PL{D:Addr}{vs:List Value}{n:Nat}{g:Obj->List (Addr×Obj)}{Q:Value->Shared->Prop}(F:Fr h₀ L s.heap m)(N:News h₀ L s.heap news)(U:UpdF D (listOf vs.toArray n) news g)(h2:2<=vs.length)(h64:vs.length<64)
  (h:∀e1 h',Fr h₀ L h' m->News h₀ L h' (g (seqObj "list" #[] e1))->
   wpAny (model prog w) A.in1 (keyKind' vs.toArray) (fun κ s'=>(kas_sort vs.length).kasWp (kas_ask prog w A.in1 κ vs.reverse) (λp s''=>KasFin h₀ L m D e1 (p.toList.map λi=>vs.reverse.getD i Value.none).reverse (λs3=>Q .none s3) s'') s') (λ_ _=>False) { s with heap:=h' }) :
  wpAny (model prog w) A (call (.builtin "list.sort") [.ref D] [(Str.ofString "reverse",.bool true)]) Q E s:=by
 obtain⟨pre,post,e0,hg,x1,x2⟩:=U.split;rw[e0]at N;have nz:=N (D,listOf vs.toArray n) (gS _ (.head _));have ho:s.heap.get? D=some (seqObj "list" vs.toArray n):=nz.1;have N₀:News h₀ L s.heap (pre++post):=λp hp=>N p ((mS.mp hp).elim (λq=>List.mem_append_left _ q) λq=>gS _ (.tail _ q));have back:∀{h':Heap} {o:Obj},News h₀ L h' ((D,o)::(pre++post))->News h₀ L h' (g o):=fun {h' o} N'=>by
  rw[hg];intro p hp;rcases mS.mp hp with hp | hp
  ·exact N' p (.tail _ (List.mem_append_left _ hp))
  ·rcases mY.mp hp with rfl | hp
   ·exact N' _ (.head _)
   ·exact N' p (.tail _ (gS _ hp))
 refine wpAny_call_entry_kw slot_list_sort ⟨_,nz.1,rfl⟩ entry_list_sort ?_ (args_list_sort_rev _ _);have ha:D<s.heap.objs.size:=nF ho;have haL:=nz.2.1;have ha0:=nz.2.2;have hna:∀p∈pre++post,p.1≠D:=λp hp=>(mS.mp hp).elim (x1 p) (x2 p);have s1:=Heap.SameBut.update s.heap D (Obj.mapSeq λ_=>(#[]:Array Value));obtain⟨e1,ho1⟩:∃e1,(s.heap.update D (Obj.mapSeq λ_=>(#[]:Array Value))).get? D=some (seqObj "list" #[] e1):=⟨_,get?_update_seq ho λ_=>#[]⟩;have F3:Fr h₀ L (((s.heap.update D (Obj.mapSeq λ_=>(#[]:Array Value))).push (seqObj "tuple" vs.toArray 0)).push (seqObj "list" #[] 0)) m:=((kas_fr F s1 haL ha0).push _).push _;have N2:News h₀ L (((s.heap.update D (Obj.mapSeq λ_=>(#[]:Array Value))).push (seqObj "tuple" vs.toArray 0)).push (seqObj "list" #[] 0)) (pre++post):=
  (kas_news N₀ s1 hna).grown λb x e=>gP _ (gP _ e)
 have N3:News h₀ L (((s.heap.update D (Obj.mapSeq λ_=>(#[]:Array Value))).push (seqObj "tuple" vs.toArray 0)).push (seqObj "list" #[] 0)) ((D,seqObj "list" #[] e1)::(pre++post)):=λp hp=>by
  rcases mY.mp hp with rfl | hp
  ·exact⟨gP _ (gP _ ho1),haL,ha0⟩
  ·exact N2 p hp
 have ask:=h e1 _ F3 (back N3);rw[list_sort_rev];refine nQ (listItems_at ho rfl ?_);refine nQ (listUpdate_at ho rfl ?_ (by rw[mF,sizeLine_eq];lia) (nO _));refine nQ (seqEpoch_at ho1 rfl ?_);refine nQ (wpAny_newTuple ?_ (by show vs.length<=_;rw[sizeLine_eq];lia));refine nQ (wpAny_newList ?_ (nO _));refine wpAny_holding ?_;show wpAny (model prog w) _ _ _ E { s with heap:=((s.heap.update D (Obj.mapSeq λ_=>(#[]:Array Value))).push (seqObj "tuple" vs.toArray 0)).push (seqObj "list" #[] 0) };dsimp only;rw[nV rfl];refine nQ (wpAny_rule ?_);have hn2:¬vs.toArray.size<2:=by rw[mF];lia
 rw[nU hn2,nU hn2];refine nQ (nT ask (fun κ s0 hk=>?_) λ_ _ x=>x.elim);have ep:(if true=true then(vs.toArray.zip vs.toArray).reverse else vs.toArray.zip vs.toArray)=vs.reverse.toArray.zip vs.reverse.toArray:=kat_pairs true rfl;rw[ep];have rl:vs.reverse.length=vs.length:=List.length_reverse;refine nQ (nT (kat_run (ks:=vs.reverse) (vs:=vs.reverse) (Q:=λst' s'=>∃p:Array Nat,p.size=vs.reverse.length/\arrOf st'=p.map (kas_item (vs.reverse.toArray.zip vs.reverse.toArray))/\failedOf st'=none/\KasFin h₀ L m D e1 (p.toList.map λi=>vs.reverse.getD i Value.none).reverse (λs''=>Q .none s'') s')
  rfl (by lia) (by lia) (λp' st' s' a1 a2 a3 a4=>⟨p',a1,a2,a3,a4⟩) (by rw[rl];exact hk)) ?_ λ_ _ e=>e)
 rintro⟨⟨⟩,st'⟩ s' ⟨p,hp,har,hf,news',g',F',N',U',k⟩;dsimp only;obtain⟨pre',post',e0',hg',y1,y2⟩:=U'.split;rw[e0']at N';have na:=N' (D,seqObj "list" #[] e1) (gS _ (.head _));have hout:=kat_snds rfl har;have ho2:(if true=true then((arrOf st').map (·.2)).reverse else(arrOf st').map (·.2))=List.toArray (p.toList.map λi=>vs.reverse.getD i Value.none).reverse:=by
  rw[hout];exact kat_outs true _
 have hsz:(List.toArray (p.toList.map λi=>vs.reverse.getD i Value.none).reverse).size=vs.length:=by rw[mF,List.length_reverse,mQ,Array.length_toList,hp,rl]
 rw[ho2];have s2:=Heap.SameBut.update s'.heap D (Obj.mapSeq λ_=>List.toArray (p.toList.map λi=>vs.reverse.getD i Value.none).reverse);obtain⟨c2,hc2⟩:∃c2,(s'.heap.update D (Obj.mapSeq λ_=>List.toArray (p.toList.map λi=>vs.reverse.getD i Value.none).reverse)).get? D=some (seqObj "list" (List.toArray (p.toList.map λi=>vs.reverse.getD i Value.none).reverse) c2):=⟨_,get?_update_seq na.1 λ_=>List.toArray (p.toList.map λi=>vs.reverse.getD i Value.none).reverse⟩;refine nQ (seqEpoch_at na.1 rfl ?_);refine nQ (listUpdate_at na.1 rfl ?_ (nO _) (nG (nM hsz) (by rw[sizeLine_eq];lia)));rw[hf];simp only[bne_self_eq_false,Bool.false_eq_true,if_false];refine nS ⟨_,rfl,k _ c2 (kas_fr F' s2 na.2.1 na.2.2) ?_⟩;rw[hg'];exact news_set N' y1 y2 s2 hc2
end
section
variable{X:Cx}
def SW:V->Hp->VK->Prop:=λx H Q=>∃(a:Addr) (ai:List (List Key×V)),x=.ref a/\Rd H a (.dT ai)/\ai.length<64/\(∀p∈ai,∃ns:List Int,p.1=ik ns/\ns≠[])/\
 ∀(ys:List V) (zs:List (List Key×V)),zs.Perm ai->Keyed H ys zs->zs.Pairwise (λp q=>kC (qJ q.1) (qJ p.1)=true)->New H (.lst ys) Q
theorem LQ{af:List (Addr×Obj)}{s:Shared}{σ:L2.St}{H:Hp}{x:V}{u:Value}{Q:VK}(hc:X.calm=true)(I:Inv X af σ H s)(ru:RelV x u)(h:SW x H Q):wpAny (model X.prog X.w) X.A (call (.builtin "sorted") [u] [(Str.ofString "reverse",.bool true)]) (EP X af σ Q) X.xe s:=by
 obtain⟨a,ai,rfl,ha,h64,hk,q⟩:=h;cases ru;obtain⟨z,lo,ks,rel,dd⟩:=AA I.hok ha;obtain⟨o,es,ep,hd1,hd2,hd3,he,his,hn⟩:=id dd;have raw:Raw s.heap a es ep:=⟨o,hd1,hd2,hd3⟩;have esz:es.size=ai.length:=by rw[size_of_entries he,<-Paired.length rel]
 obtain⟨m,F⟩:=I.fr;have kn:(ai.map (·.1)).Nodup:=by rw[KTkeys rel];exact hn
 have itup:∀(j:Nat) (h:j<es.size),∃(b:Addr) (ns:List Int) (v:V),es[j].key=.ref b/\H b=some (.tup (ns.map V.int))/\ai[j]? = some (ik ns,v)/\ns≠[]:=λj hj=>by
  have e1:=entry_at he j;rw[Array.getElem?_eq_getElem hj]at e1;cases e2:ks[j]? with
  | none=>rw[e2]at e1;cases e1
  | some x=>
   rw[e2]at e1;have e3:es[j]=entryOfKey _ x:=Option.some.inj e1;obtain⟨v,m1,m2⟩:=KTgetI rel e2;obtain⟨ns,n1,n2⟩:=hk _ (gX m1);dsimp only at n1;rw[n1]at m1 m2;rw[zR]at m2;exact⟨x.2.1,ns,v,by rw[e3];rfl,m2,m1,n2⟩
 refine KC (NA lo) (I.ok.hd hc) F IN raw (by rw[esz];exact z) λD h' tk v0 F' N' lt hlen hP=>?_;obtain⟨vs,hvs⟩:∃vs,vs=v0.reverse:=⟨_,rfl⟩;obtain⟨kr,hkr⟩:∃kr,kr=ai.reverse:=⟨_,rfl⟩;have krl:kr.length=ai.length:=by rw[hkr,List.length_reverse]
 have v0l:v0.length=ai.length:=by rw[hlen,esz]
 have vtup:∀(j:Nat) (hj:j<vs.length),∃(b:Addr) (ns:List Int) (v:V),vs[j]=.ref b/\H b=some (.tup (ns.map V.int))/\kr[j]? = some (ik ns,v)/\ns≠[]:=λj hj=>by
  subst hvs hkr;rw[List.length_reverse]at hj;have hj2:v0.length-1-j<v0.length:=by lia
  obtain⟨h1,h2⟩:=hP (v0.length-1-j) v0[v0.length-1-j] (by simp [hj2]);obtain⟨b,ns,v,g1,g2,g3,g4⟩:=itup _ h1;refine⟨b,ns,v, ?_,g2, ?_,g4⟩
  ·rw[List.getElem_reverse,h2];exact g1
  ·rw[List.getElem?_reverse (by lia),<-v0l];exact g3
 have krn:(kr.map (·.1)).Nodup:=by rw[hkr,List.map_reverse];exact List.pairwise_reverse.mpr (kn.imp λh=>h.symm)
 have vl:vs.length=kr.length:=by rw[hvs,List.length_reverse,v0l,krl]
 have kvI:∀(j:Nat) (ns:List Int) (v:V),kr[j]? = some (ik ns,v)->qJ (kr.getD j ([],.non)).1=ns:=λj ns v e=>by rw[gG,e];exact yH ns
 have O:Strict (λi j=>kC (qJ (kr.getD i ([],.non)).1) (qJ (kr.getD j ([],.non)).1)) vs.length:=by
  refine⟨λa b c=>wA _ _ _,λa b=>uB _ _,λa b ha hb hab hf=>?_⟩;obtain⟨_,ns,v,_,_,e3,_⟩:=vtup a ha;obtain⟨_,ms,v',_,_,e3',_⟩:=vtup b hb;rw[kvI _ _ _ e3,kvI _ _ _ e3']at hf;show kC (qJ (kr.getD b ([],.non)).1) (qJ (kr.getD a ([],.non)).1)=true;rw[kvI _ _ _ e3,kvI _ _ _ e3'];refine CB _ _ (λz=>hab ?_) hf;have i1:(kr.map (·.1))[a]? = some (ik ns):=by rw[mE,e3];rfl
  have i2:(kr.map (·.1))[b]? = some (ik ns):=by rw[mE,e3',z];rfl
  exact(List.getElem?_inj (by rw[mQ];lia) krn).mp (i1.trans i2.symm)
 have fin:∀(idx:List Nat) (h3:Heap) (c tk3:Nat),idx.Perm (List.range kr.length)->idx.Pairwise (λi j=>kC (qJ (kr.getD j ([],.non)).1) (qJ (kr.getD i ([],.non)).1)=true)->Fr X.base X.env.locals h3 m->News X.base X.env.locals h3 ((D,PySem.W.listOf (idx.map λi=>vs.getD i Value.none).toArray c)::xL X.base s.heap X.env.locals)->
   EP X af σ Q (.ref D) { s with heap:=h3,toks:=tk3 } :=λidx h3 c tk3 pm pw F3 N3=>by
  have il:idx.length=kr.length:=by rw[pm.length_eq,List.length_range]
  have im:∀i∈idx,i<kr.length:=λi hi=>mV.mp (pm.mem_iff.mp hi);have tr:∀js:List Nat,(∀i∈js,i<kr.length)->∃ys:List V,Vals ys (js.map λi=>vs.getD i Value.none)/\Keyed H ys (js.map λi=>kr.getD i ([],.non)):=by
   intro js;induction js with
   | nil=>exact λ_=>⟨[],.nil,rfl,λi y p e=>by simp at e⟩
   | cons j js ih=>
    intro hj;obtain⟨ys,r1,r2,r3⟩:=ih λi hi=>hj i (gY _ hi);have hj1:=hj j (mC ..);obtain⟨b,ns,x,e1,e2,e3,_⟩:=vtup j (by rw[vl];exact hj1);refine⟨.ref b::ys, ?_,by simp [r2],λi y p ey ep=>?_⟩
    ·rw[mX];refine .cons ?_ r1;rw[gG,gK (by rw[vl];exact hj1),e1]
     rfl
    ·cases i with
     | zero=>
      simp only[mX,List.getElem?_cons_zero,Option.some.injEq]at ey ep;rw[gG,e3]at ep;subst ey;subst ep;exact⟨b,ns,rfl,e2,rfl⟩
     | succ i=>
      simp only[mX,gO]at ey ep;exact r3 i y p ey ep
  obtain⟨ys,rv,hy⟩:=tr idx im;have yl:ys.length=kr.length:=by rw[hy.1,mQ];exact il
  have nb:=gA (ho:=.lst ys) (tk:=tk3) I F F3 N3 lt λe=>⟨by rw[yl,krl];exact z,_,c,rv,e⟩;have pz:(idx.map λi=>kr.getD i ([],.non)).Perm ai:=by
   have:=pm.map λi=>kr.getD i ([],V.non);rw[yU]at this;exact this.trans (by rw[hkr];exact List.reverse_perm _)
  exact⟨.ref D,_,nb.2,rfl,(q ys _ pz hy (List.pairwise_map.mpr pw)).at nb.1⟩
 have nD:=N' (D,PySem.W.listOf v0.toArray 0) (mC ..);have v0s:vs.length=v0.length:=by rw[hvs,List.length_reverse]
 by_cases h2:vs.length<2
 ·have e0:vs=v0:=by
   rw[hvs]
   match v0,v0s▸h2 with
   | [],_=>rfl
   | [_],_=>rfl
  refine HS (n:=0) nD.1 (by lia) ?_;obtain⟨c,hat⟩:=sortedHeap_at (vs:=v0) (n:=0) (out:=v0.toArray) nD.1;have old:∀b u,b≠D->h'.get? b=some u->(sortedHeap h' D v0 v0.toArray).get? b=some u:=λb u hb e=>by
   rw[sortedHeap_old hb (nF e)];exact e
  have er:(List.range kr.length).map (λi=>vs.getD i Value.none)=v0:=by rw[<-vl,<-e0];exact yU vs _
  refine fin (List.range kr.length) _ c tk (List.Perm.refl _) (by
   rw[<-vl];have:vs.length=0∨vs.length=1:=by lia
   rcases this with z | z<;>rw[z]<;>simp) ⟨?_,λb u e=>old b u (λy=>by rw[y,nD.2.2]at e;cases e) (F'.keep b u e),F'.above⟩ (λp hp=>?_)
  ·obtain⟨ob,es',ep',e1,e2⟩:=F'.ns;exact⟨ob,es',ep',old _ _ (Ne.symm nD.2.1) e1,e2⟩
  ·rw[er]at hp;rcases mY.mp hp with rfl | hp
   ·exact⟨hat,nD.2⟩
   ·have y:=N' p (gY _ hp);exact⟨old _ _ (nH (lt p hp)) y.1,y.2⟩
 ·have hd:∀q∈xL X.base s.heap X.env.locals,q.1≠D:=λq hq=>nH (lt q hq);refine PL (vs:=v0) F' N' (.head hd) (by lia) (by lia) λe1 h4 F4 N4=>?_;rw[<-hvs,<-v0s];have in4:∀b xs,H b=some (.tup xs)->∃its:List Value,Vals xs its/\IsTup h4 b its.toArray:=λb xs e=>by
   obtain⟨_,its,rv,⟨ob,ho,hc2⟩,_⟩:=(show ObjOk X.prog X.w H s.heap b (.tup xs)from I.hok b _ e);refine⟨its,rv,ob, ?_,hc2⟩;cases y:X.base.get? b with
   | some u=>
    have y2:=I.bk b u y;rw[ho]at y2;cases y2;exact F4.keep b _ y
   | none=>exact(N4 (b,ob) (gY _ (xY (λy2=>by rw[y2,I.free]at e;cases e) y ho))).1
  have tups:∀l:List Value,(∀v∈l,v∈vs)->∃fs:List Value,PySem.W.KatTups h4 l fs/\fs.length=l.length/\∀f∈fs,∃n t,f=Value.int n t:=by
   intro l;induction l with
   | nil=>exact λ_=>⟨[],.nil,rfl,λ_ y=>nomatch y⟩
   | cons v r ih=>
    intro hm;obtain⟨fs,t1,t2,t3⟩:=ih λv' hv'=>hm v' (gY _ hv');obtain⟨j,hj,ev⟩:=List.getElem_of_mem (hm v (mC ..));obtain⟨b,ns,x,g1,g2,g3,g4⟩:=vtup j hj;obtain⟨its,rv,ob,ho,hc2,nn,hdt⟩:=in4 b _ g2
    match ns,g4,rv with
    | n::nr,_,.cons (b:=iv) (l₂:=ir) rr rt=>
     obtain⟨tt,rfl⟩:=rr;rw[<-ev,g1];exact⟨.int n tt::fs,.cons ho hc2 hdt (by simp) t1,by simp [t2],λf hf=>(mY.mp hf).elim (λy=>⟨n,tt,y⟩) (t3 f)⟩
  obtain⟨fs,t1,t2,t3⟩:=tups v0 λv y=>by rw[hvs];exact List.mem_reverse.mpr y
  refine PySem.W.kat_kind (T:=.type "int") t1 (by lia) (λf hf=>?_) (by decide) ?_
  ·obtain⟨n,t,rfl⟩:=t3 f hf;exact PySem.W.Looks.of_pure rfl
  ·refine RG (n:=vs.length) (P:=λq=>Pm vs.length q/\Up (λi j=>kC (qJ (kr.getD i ([],.non)).1) (qJ (kr.getD j ([],.non)).1)) q vs.length) (λi j C hi hj hC=>?_) (λp hp=>?_) (RW O (by lia))
   ·obtain⟨b,ns,x,g1,g2,g3,_⟩:=vtup i hi;obtain⟨b',ns',x',g1',g2',g3',_⟩:=vtup j hj;obtain⟨its,rv,ob,ho,hc2,nn,hdt⟩:=in4 b _ g2;obtain⟨its',rv',ob',ho',hc2',nn',hdt'⟩:=in4 b' _ g2';unfold PySem.W.kas_ask;rw[show vs.getD i Value.none=.ref b by rw[gG,gK hi,g1];rfl,show vs.getD j Value.none=.ref b' by rw[gG,gK hj,g1'];rfl];rw[kvI _ _ _ g3,kvI _ _ _ g3']at hC;have i1:=kK rv;have i2:=kK rv';refine PySem.W.kat_lt ho hdt ho' hdt' (CA i1 i2 ?_ 0);rw[mF,mF,qO i1,qO i2,FV];exact hC
   ·refine PySem.W.KasFin.intro F4 N4 (.head hd) λh5 c F5 N5=>fin p.toList.reverse h5 c tk ?_ ?_ F5 (by rw[List.map_reverse];exact N5)
    ·rw[<-vl];exact(List.reverse_perm _).trans hp.1
    ·have sz:=hp.1.size;refine List.pairwise_reverse.mpr (List.pairwise_iff_getElem.mpr λa b ha hb hab=>?_);have ha':a<p.size:=by simpa using ha
     have hb':b<p.size:=by simpa using hb
     have:=hp.2 a b hab (by lia);simpa [Array.getD,ha',hb']using this
end
section
variable{X:Cx}{e e2:Expr}{kpos p pos:Pos}{t:TA}
def ZK(t:TA):TE:=fun σ H Q=>t σ H λvs H1=>∃x,vs=[x]/\SW x H1 Q
theorem TD{k:Bool}{j kp}(hk1:k=true)(hc:X.calm=true)(hg:Gl X "sorted")(hm:X.mg "sorted" = none)(ha:PA X [e] t)(hk:PK X [⟨some "reverse",.Constant (.bool k) j kp,kpos⟩] (xG (tC (.bl k)) tNil))
  (hall:(backToKw pos (keywordEach [⟨some "reverse",.Constant (.bool k) j kp,kpos⟩] X.env)).all (·.1.isSome)=true:=by rfl) (hks:(backToKw pos (keywordEach [⟨some "reverse",.Constant (.bool k) j kp,kpos⟩] X.env)).filterMap (·.1)=[Str.ofString "reverse"]:=by rfl)
  (he:starEach [e] X.env=[(false,eval e X.env)]:=by rfl)
  (hpl:((backTo pos (starEach [e] X.env)).any (·.1)||(backToKw pos (keywordEach [⟨some "reverse",.Constant (.bool k) j kp,kpos⟩] X.env)).any (·.1.isNone))=false:=by rfl) :
  PE X (.Call (.Name "sorted" p) [e] [⟨some "reverse",.Constant (.bool k) j kp,kpos⟩] pos) (ZK t):=by
 intro af s σ H Q I h;refine wpAny_Call_Name_kw (yT I hg hm boot_sorted ?_ (by decide) (by decide));refine PySem.W.callWith_of (P:=λ_=>True) hpl (λ_ _=>⟨_,.inr (.inl rfl),PySem.W.Looks.of_pure rfl⟩) (evalArgs_kw2 hall (thn (ha pos af s σ H _ I h) λus s1 ⟨vs,H1,I1,r,q⟩=>?_) he);obtain⟨x,rfl,q⟩:=q;refine thn (hk pos af s1 σ H1 (λvs H2=>vs=[.bl k]/\H2=H1) I1 ⟨rfl,rfl⟩) λws s2 ⟨zs,H2,I2,rz,hzs,hH⟩=>⟨True.intro, ?_⟩;rw[hks];subst hzs hH hk1;obtain⟨u,rfl,ru⟩:=vI r;obtain⟨u',rfl,ru'⟩:=vI rz;cases ru';exact LQ hc I2 ru q
end
end LwD
namespace LwS
open PySem PySem.Builtin.Str
structure Mark(sep:Str)(k c:Nat):Prop where
 one:sep.cps.toList[k]? = some c
 only:∀j,j<k->sep.cps.toList[j]?≠some c
 kind:strKind sep=1
theorem jG(x:Str):x.cps.toList.length=x.length:=by simp [Str.length]
theorem ER{x y:Str}{i k c:Nat}(h:StrLaws.At x y x.length i)(hk:y.cps.toList[k]? = some c):x.cps.toList[i+k]? = some c:=by
 have h2:=h.2;rw[StrLaws.subAt_eq]at h2;have e:(x.cps.toList.drop i).take y.length=y.cps.toList:=eq_of_beq h2;rw[<-e]at hk;have hl:k<y.length:=by
  have:=(gI.mp hk).1;rw[mK]at this
  lia
 rw[gM hl,List.getElem?_drop]at hk;exact hk
theorem vG(y a b:Str)(r:List Str):Str.join y (a::b::r)=a++y++Str.join y (b::r):=rfl
theorem jQ(a b:Str):(a++b).cps.toList=a.cps.toList++b.cps.toList:=by rw[Str.cps_append,Array.toList_append]
theorem IG{x y:Str}{k c:Nat}(M:Mark y k c):∀(ps:List Str) (p:Str) (cuts:List Nat) (a f:Nat),(∀q∈p::ps,c∉q.cps.toList)->x.cps.toList.drop a=(Str.join y (p::ps)).cps.toList->a<=x.length->
  StrLaws.ChainG x y x.length a cuts f->(∀i,f<=i->¬StrLaws.At x y x.length i)->StrLaws.partsFrom x y.length a cuts=p::ps
 | [],p,cuts,a,f,hf,hx,ha,hG,hn=>by
  have no:∀i,a<=i->¬StrLaws.At x y x.length i:=λi hi hA=>by
   have h1:=ER hA M.one;have h2:(x.cps.toList.drop a)[i-a+k]? = some c:=by rw[List.getElem?_drop,show a+(i-a+k)=i+k by lia];exact h1
   rw[hx]at h2;exact hf p (by simp) (gX h2)
  cases cuts with
  | cons d r=>exact absurd hG.2.1 (no d hG.1)
  | nil=>
   show [strSub x a x.length]=[p]
   congr 1
   apply Str.ext';apply Array.toList_inj.mp;rw[StrLaws.strSub_toList,hx];exact gQ (by rw[<-hx,List.length_drop,jG];exact nN _)
 | q::ps,p,cuts,a,f,hf,hx,ha,hG,hn=>by
  rw[vG,jQ,jQ,List.append_assoc]at hx;have lx:x.length-a=p.length+(y.length+(Str.join y (q::ps)).length):=by
   have:=congrArg List.length hx;simp only[List.length_drop,List.length_append,jG]at this;exact this
  have ky:k<y.length:=by
   have:=(gI.mp M.one).1
   rwa [jG]at this
  have hA:StrLaws.At x y x.length (a+p.length):=by
   refine⟨by lia, ?_⟩;rw[StrLaws.subAt_eq,<-List.drop_drop,hx,<-jG p,List.drop_left,<-jG y,List.take_left];exact beq_self_eq_true _
  have no:∀i,a<=i->i<a+p.length->¬StrLaws.At x y x.length i:=λi h1 h2 hB=>by
   have h3:=ER hB M.one;have h4:(x.cps.toList.drop a)[i-a+k]? = some c:=by rw[List.getElem?_drop,show a+(i-a+k)=i+k by lia];exact h3
   rw[hx]at h4;by_cases hk:i-a+k<p.length
   ·rw[gJ (by rw[jG];exact hk)]at h4;exact hf p (by simp) (gX h4)
   ·rw[gH (by rw[jG];lia),jG,gJ (by rw[jG];lia)]at h4;exact M.only _ (by lia) h4
  cases cuts with
  | nil=>
   have e:f=a:=hG;exact absurd hA (hn _ (by lia))
  | cons d r=>
   obtain⟨g1,g2,g3,g4⟩:=hG;have ed:d=a+p.length:=by
    have h1:¬d<a+p.length:=λh=>no d g1 h g2;have h2:¬a+p.length<d:=λh=>g3 _ (by lia) h hA
    lia
   subst ed;show strSub x a (a+p.length)::StrLaws.partsFrom x y.length (a+p.length+y.length) r=_
   congr 1
   ·apply Str.ext';apply Array.toList_inj.mp;rw[StrLaws.strSub_toList,hx,show a+p.length-a=p.cps.toList.length by rw[jG];lia,List.take_left]
   ·refine IG M ps q r _ f (λz hz=>hf z (gY _ hz)) ?_ (by lia) g4 hn;rw[Nat.add_assoc,<-List.drop_drop,hx,<-List.drop_drop,<-jG p,List.drop_left,<-jG y,List.drop_left]
theorem UI(x:Str):1<=strKind x:=by
 unfold Builtin.Str.strKind;split
 ·exact nN _
 ·split<;>decide
theorem yP{y:Str}{k c:Nat}(M:Mark y k c){p:Str}{ps:List Str}(hf:∀q∈p::ps,c∉q.cps.toList):Txt.split (Str.join y (p::ps)) y=p::ps:=by
 have ky:k<y.length:=by
  have:=(gI.mp M.one).1
  rwa [jG]at this
 obtain⟨f,hG,hn⟩:=StrLaws.occ_tight (Str.join y (p::ps)) y (by lia);have key:=IG (x:=Str.join y (p::ps)) M ps p _ 0 f hf (by rw[List.drop_zero]) (nO _) hG hn;unfold Txt.split;split
 ·rename_i h;have hk:decide (strKind (Str.join y (p::ps))<strKind y)=false:=by
   rw[M.kind];exact mR (by have:=UI (Str.join y (p::ps));lia)
  rw[hk,Bool.or_false,decide_eq_true_eq]at h;cases ps with
  | nil=>rfl
  | cons q r=>
   rw[vG,Str.length_append,Str.length_append]at h
   lia
 ·split
  ·rename_i h;rw[List.isEmpty_iff.mp h]at key;have k2:[strSub (Str.join y (p::ps)) 0 (Str.join y (p::ps)).length]=p::ps:=key;rw[StrLaws.sub_whole]at k2;exact k2
  ·rw[StrLaws.partsBetween_eq];exact key
theorem NK{x:Str}{c:Nat}(h:c∉x.cps.toList):Txt.partition x ⟨#[c]⟩=(x,Str.empty,Str.empty):=by
 unfold Txt.partition;rcases StrLaws.occ_head x ⟨#[c]⟩ 1 gC with⟨h0,_⟩ | ⟨i,r,_,hA,_⟩
 ·rw[h0]
 ·exact absurd (gX (ER (k:=0) (c:=c) hA rfl)) h
theorem NL{p q:Str}{c:Nat}(h:c∉p.cps.toList):Txt.partition (p++⟨#[c]⟩++q) ⟨#[c]⟩=(p,⟨#[c]⟩,q):=by
 have hx:(p++(⟨#[c]⟩:Str)++q).cps.toList=p.cps.toList++c::q.cps.toList:=by rw[jQ,jQ,List.append_assoc];rfl
 have hl:(p++(⟨#[c]⟩:Str)++q).length=p.length+1+q.length:=by rw[Str.length_append,Str.length_append];rfl
 have hA:StrLaws.At (p++(⟨#[c]⟩:Str)++q) ⟨#[c]⟩ (p++(⟨#[c]⟩:Str)++q).length p.length:=by
  refine⟨by rw[hl];show p.length+1<=_;lia, ?_⟩;rw[StrLaws.subAt_eq,hx,<-jG p,List.drop_left];show([c]==[c])=true;exact beq_self_eq_true _
 have no:∀i,i<p.length->¬StrLaws.At (p++(⟨#[c]⟩:Str)++q) ⟨#[c]⟩ (p++(⟨#[c]⟩:Str)++q).length i:=λi hi hB=>by
  have h1:=ER (k:=0) (c:=c) hB rfl;rw[hx,nK,gJ (by rw[jG];exact hi)]at h1;exact h (gX h1)
 unfold Txt.partition;rcases StrLaws.occ_head (p++(⟨#[c]⟩:Str)++q) ⟨#[c]⟩ 1 gC with⟨_,h0⟩ | ⟨i,r,e,hB,hn⟩
 ·exact absurd hA (h0 _)
 ·have ei:i=p.length:=by
   have h1:¬i<p.length:=λz=>no i z hB;have h2:¬p.length<i:=λz=>hn _ z hA
   lia
  rw[e,ei];have e1:strSub (p++(⟨#[c]⟩:Str)++q) 0 p.length=p:=by
   apply Str.ext';apply Array.toList_inj.mp;rw[StrLaws.strSub_toList,hx,List.drop_zero,Nat.sub_zero,<-jG p,List.take_left]
  have e2:strSub (p++(⟨#[c]⟩:Str)++q) (p.length+(⟨#[c]⟩:Str).length) (p++(⟨#[c]⟩:Str)++q).length=q:=by
   apply Str.ext';apply Array.toList_inj.mp;rw[StrLaws.strSub_toList,hx,hl];show List.take (p.length+1+q.length-(p.length+1)) (List.drop (p.length+1) _)=_;rw[<-List.drop_drop,<-jG p,List.drop_left,List.drop_one,List.tail_cons];exact gQ (by rw[jG];lia)
  show(strSub _ 0 p.length,(⟨#[c]⟩:Str),strSub _ (p.length+_) _)=_;rw[e1,e2]
open LwI
def itx(i:Int):Str:=Str.ofString (toString i)
def dg(n:Nat):List Nat:=(Nat.toDigits 10 n).map Char.toNat
theorem FY(n:Nat):(itx (n:Int)).cps.toList=dg n:=by
 unfold itx;rw[Str.ofString_eq_toList];show((toString (n:Int)).toList.map Char.toNat)=_;rw[show(toString (n:Int))=String.ofList (Nat.toDigits 10 n)from rfl,String.toList_ofList]
 rfl
theorem XY(n:Nat)(h:0<n):(itx (-(n:Int))).cps.toList=45::dg n:=by
 obtain⟨m,rfl⟩:∃m,n=m+1:=⟨n-1,by lia⟩;unfold itx;rw[Str.ofString_eq_toList];show((toString (Int.negSucc m)).toList.map Char.toNat)=_;rw[show(toString (Int.negSucc m))="-"++String.ofList (Nat.toDigits 10 (m+1))from rfl,String.toList_append,List.map_append];show [45]++_=_;rw[String.toList_ofList]
 rfl
theorem wO(n:Nat):Dig (dg n):=λc hc=>by
 obtain⟨ch,h1,rfl⟩:=nI.mp hc;have:=Nat.isDigit_of_mem_toDigits (by decide) (by decide) h1;simp only[Char.isDigit,mO,decide_eq_true_eq]at this;exact⟨UInt32.le_iff_toNat_le.mp this.1,UInt32.le_iff_toNat_le.mp this.2⟩
theorem JM(n:Nat):dg n≠[]:=λh=>Nat.toDigits_ne_nil (List.map_eq_nil_iff.mp h)
theorem GO(n:Nat):valD (dg n)=n:=by
 have h:=Nat.ofDigitChars_ten_toDigits (n:=n);unfold Nat.ofDigitChars at h;unfold valD dg;rw[List.foldl_map];rw[<-h]
 conv=>lhs;rw[h]
 refine congrFun (congrFun (congrArg _ ?_) _) _
 funext a c
 rw[Nat.mul_comm]
 rfl
theorem GQ{n k:Nat}(hk:0<k)(h:n<10^k):(dg n).length<=k:=by
 unfold dg;rw[mQ];exact(Nat.length_toDigits_le_iff (by decide) hk).mpr h
theorem wB(i:Int):(0<=i/\(itx i).cps.toList=dg i.natAbs)∨(i<0/\(itx i).cps.toList=45::dg i.natAbs):=by
 by_cases h:0<=i
 ·obtain⟨n,rfl⟩:=gN h;exact .inl ⟨h,by rw[FY];rfl⟩
 ·have e:i = -(i.natAbs:Int):=by lia
  refine .inr ⟨by lia, ?_⟩
  conv=>lhs;rw[e]
  exact XY _ (by lia)
theorem vW{i:Int}{c:Nat}(hc:c∈(itx i).cps.toList):c=45∨(48<=c/\c<=57):=by
 rcases wB i with⟨_,h⟩ | ⟨_,h⟩
 ·rw[h]at hc;exact .inr (wO _ c hc)
 ·rw[h]at hc;rcases mY.mp hc with rfl | hc
  ·exact .inl rfl
  ·exact .inr (wO _ c hc)
theorem xI{i:Int}{k:Nat}(hk:0<k)(h:i.natAbs<10^k):(itx i).length<=k+1:=by
 rw[<-jG];have:=GQ hk h;rcases wB i with⟨_,h⟩ | ⟨_,h⟩<;>rw[h]
 ·lia
 ·rw[mN];lia
def ntx(t b:Int):Str:=if b=1 then itx t else itx t++⟨#[47]⟩++itx b
def wl:Nat->List Int->List (Nat×Int)
 | _,[]=>[]
 | j,p::r=>(if 1<=p then [(j,p)]else [])++wl (j+1) r
def ltr(j:Nat):Str:=⟨#[97+j]⟩
def wtx(q:Nat×Int):Str:=if q.2=1 then ltr q.1 else ltr q.1++⟨#[94]⟩++itx q.2
structure Trm where
 ns:List Int
 t:Int
 b:Int
def ttx(x:Trm):Str:=Str.join ⟨#[32]⟩ (ntx x.t x.b::(wl 0 x.ns).map wtx)
def stx(ts:List Trm):Str:=match ts with
 | []=>⟨#[48]⟩
 | x::r=>Str.join ⟨#[32,43,32]⟩ ((x::r).reverse.map ttx)
theorem AF(p:Int):∀(a:List Int) (j:Nat),wl j (a++[p])=wl j a++(if 1<=p then [(j+a.length,p)]else [])
 | [],j=>by simp [wl]
 | q::r,j=>by
  show _++wl (j+1) (r++[p])=(_++wl (j+1) r)++_;rw[AF p r (j+1),List.append_assoc,mN,show j+1+r.length=j+(r.length+1) by lia]
theorem uL:∀{ns:List Int} {j:Nat} {q:Nat×Int},q∈wl j ns->j<=q.1/\q.1<j+ns.length/\1<=q.2/\q.2∈ns
 | [],_,_,h=>nomatch h
 | p::r,j,q,h=>by
  rcases mS.mp h with h | h
  ·by_cases hp:1<=p
   ·rw[nV hp,mB]at h;subst h;exact⟨nN _,by simp,hp,mC ..⟩
   ·rw[nU hp]at h;cases h
  ·obtain⟨h1,h2,h3,h4⟩:=uL h;exact⟨by lia,by rw[mN];lia,h3,gY _ h4⟩
theorem HB(k:Nat):∀(ns:List Int) (j:Nat),wl j (ns++List.replicate k 0)=wl j ns
 | [],j=>by
  induction k generalizing j with
  | zero=>rfl
  | succ k ih=>exact ih (j+1)
 | p::r,j=>by show _++_=_++_;rw[<-HB k r (j+1)];rfl
def uX(l:List Int)(q:Nat×Int):List Int:=l.set q.1 (l.getD q.1 0+q.2)
theorem OG(ae:Nat):∀(n:Nat) (ns:List Int),ns.length=n->n<=ae->(∀p∈ns,0<=p)->(wl 0 ns).foldl uX (List.replicate ae 0)=ns++List.replicate (ae-n) 0
 | 0,ns,h,_,_=>by rw[List.length_eq_zero_iff.mp h];rfl
 | n+1,ns,h,hm,hp=>by
  have hne:ns≠[]:=λz=>by rw[z]at h;cases h
  obtain⟨a,p,rfl⟩:∃a p,ns=a++[p]:=⟨ns.dropLast,ns.getLast hne,(List.dropLast_concat_getLast hne).symm⟩;have ha:a.length=n:=by simpa using h
  rw[AF,List.foldl_append,OG ae n a ha (by lia) (λx hx=>hp x (List.mem_append_left _ hx)),Nat.zero_add,ha];have em:ae-n=(ae-(n+1))+1:=by lia
  have e1:List.replicate (ae-n) (0:Int)=0::List.replicate (ae-(n+1)) 0:=by rw[em,List.replicate_succ]
  have p0:0<=p:=hp p (by simp);by_cases h1:1<=p
  ·rw[nV h1,e1];show uX _ _=_;unfold uX;rw[<-ha];simp [gG]
  ·rw[nU h1,e1,show p=0 by lia];simp
theorem yF{t b:Int}{c:Nat}(hc:c∈(ntx t b).cps.toList):45<=c/\c<=57:=by
 unfold ntx at hc;split at hc
 ·have:=vW hc;lia
 ·rw[jQ,jQ,List.append_assoc]at hc;rcases mS.mp hc with h | h
  ·have:=vW h;lia
  ·rcases mS.mp h with h | h
   ·have:c=47:=by simpa using h
    lia
   ·have:=vW h;lia
theorem uK{q:Nat×Int}{c:Nat}(hc:c∈(wtx q).cps.toList):45<=c:=by
 unfold wtx at hc;split at hc
 ·have:c=97+q.1:=by simpa [ltr]using hc
  lia
 ·rw[jQ,jQ,List.append_assoc]at hc;rcases mS.mp hc with h | h
  ·have:c=97+q.1:=by simpa [ltr]using h
   lia
  ·rcases mS.mp h with h | h
   ·have:c=94:=by simpa using h
    lia
   ·have:=vW h;lia
theorem vH{sep:Str}{c:Nat} :∀{l:List Str},c∈(Str.join sep l).cps.toList->c∈sep.cps.toList∨∃x∈l,c∈x.cps.toList
 | [],h=>by cases h
 | [x],h=>.inr ⟨x,by simp,h⟩
 | x::y::r,h=>by
  rw[vG,jQ,jQ,List.append_assoc]at h;rcases mS.mp h with h | h
  ·exact .inr ⟨x,by simp,h⟩
  ·rcases mS.mp h with h | h
   ·exact .inl h
   ·rcases vH h with h | ⟨z,hz,h⟩
    ·exact .inl h
    ·exact .inr ⟨z,gY _ hz,h⟩
theorem PB{x:Trm}{c:Nat}(hc:c∈(ttx x).cps.toList):c=32∨45<=c:=by
 rcases vH hc with h | ⟨y,hy,h⟩
 ·exact .inl (by simpa using h)
 ·rcases mY.mp hy with rfl | hy
  ·have:=yF h;lia
  ·obtain⟨q,_,rfl⟩:=nI.mp hy;exact .inr (uK h)
theorem uP(x:Trm):Txt.split (ttx x) ⟨#[32]⟩=ntx x.t x.b::(wl 0 x.ns).map wtx:=by
 refine yP (k:=0) (c:=32) ⟨rfl,λj hj=>by lia,by decide +kernel⟩ λq hq hm=>?_;rcases mY.mp hq with rfl | hq
 ·have:=yF hm;lia
 ·obtain⟨q,_,rfl⟩:=nI.mp hq;have:=uK hm;lia
theorem PH(x:Trm)(r:List Trm):Txt.split (stx (x::r)) ⟨#[32,43,32]⟩=(x::r).reverse.map ttx:=by
 show Txt.split (Str.join ⟨#[32,43,32]⟩ ((x::r).reverse.map ttx)) ⟨#[32,43,32]⟩=_;cases e:(x::r).reverse with
 | nil=>simp at e
 | cons y s=>
  rw[mX];refine yP (k:=1) (c:=43) ⟨rfl,λj hj=>?_,by decide +kernel⟩ λq hq hm=>?_
  ·have:j=0:=by lia
   subst this
   decide
  ·have:∃z,q=ttx z:=by
    rcases mY.mp hq with rfl | hq
    ·exact⟨y,rfl⟩
    ·obtain⟨z,_,rfl⟩:=nI.mp hq;exact⟨z,rfl⟩
   obtain⟨z,rfl⟩:=this;have:=PB hm
   lia
end LwS
namespace LwD
open PySem PySem.Spec PyProof.Rows L2 Lw
section
variable{prog:Program}{w:World}{A:Around}{E:Value->Shared->Prop}{h:Heap}{g:Array GenState}{d:Drawn}{t:Nat}{os:OsState}{a:Addr}{o:Obj}
end
section
variable{prog:Program}{w:World}{A:Around}{E:Value->Shared->Prop}
end
section
variable{prog:Program}{w:World}{A:Around}{E:Value->Shared->Prop}{s:Shared}
end
section
variable{X:Cx}
end
section
variable{prog:Program}{w:World}{A:Around}{E:Value->Shared->Prop}{s:Shared}
end
section
variable{X:Cx}
end
structure PwS(ae:Nat)(ns:List Int):Prop where
 len:ns.length=ae
 nn:∀n∈ns,0<=n
 deg:ns.sum<=8
section
variable{X:Cx}
end
section
variable{prog:Program}{w:World}{A:Around}{E:Value->Shared->Prop}{s:Shared}
end
section
variable{X:Cx}
end
section
variable{prog:Program}{w:World}{A:Around}{E:Value->Shared->Prop}{s:Shared}{d it:Addr}{es:Array DictEntry}{ep i:Nat}
end
section
variable{X:Cx}
end
end LwD
namespace Lw
open PySem PySem.Spec PyProof.Rows L2
section
variable{X:Cx}
end
section
variable{X:Cx}
end
section
variable{prog:Program}{w:World}{A:Around}{R:Result->Shared->Prop}{s:Shared}
theorem JP{elt target iter c:Expr}{scope:Scope}{pos:Pos}{it acc:Value}{env:Env}(I:Nat->Shared->Prop)
  (turn:∀n s,I n s->wpAny (model prog w) A (pyNext it) (λr s₁=>match r with
   | none=>R (.ok .next) s₁
   | some v=>wpAny (model prog w) A (letOwnedTupleGo target it v) (λ_ s₁'=>wpAny (model prog w) A (assign target env v) (λ_ s₂=>wpAny (model prog w) A (isTrue c env (eval c env)) (λb s₂'=>if b=true then wpAny (model prog w) A (eval elt env) (λx s₃=>
     wpAny (model prog w) A (call (.builtin "list.append") [acc,x]) (λ_ s₄=>∃m,m<n/\I m s₄) (notedBy (model prog w) A env λe s'=>R (.error e) s') s₃)
     (notedBy (model prog w) A env λe s'=>R (.error e) s') s₂' else ∃m,m<n/\I m s₂') (notedBy (model prog w) A env λe s'=>R (.error e) s') s₂) (notedBy (model prog w) A env λe s'=>R (.error e) s') s₁') (notedBy (model prog w) A env λe s'=>R (.error e) s') s₁) (notedBy (model prog w) A env λe s'=>R (.error e) s') s)
  (n:Nat) (h:I n s) :
  codeAny (model prog w) A (.compLoop (.ListComp elt [⟨target,iter,[c],0⟩] scope pos) 0 it acc env) R s:=by
 refine codeAny_loop rfl I (λn s hI=>?_) n h;show wpAny _ _ ((compTurn (.ListComp elt [⟨target,iter,[c],0⟩] scope pos) 0 it acc env).onRaise (λx=>do noteFrame x env;theTreesLotGoes x)) _ _ s;refine wpAny_noted ?_;rw[compTurn_list];refine nQ (wpAny_standAt (nQ (nT (turn n s hI) (λr s₁ h₁=>?_) λ_ _ h'=>h')));cases r with
 | none=>exact nS h₁
 | some v=>
  refine nQ (nT h₁ (λ_ s₁' h₁'=>?_) λ_ _ h'=>h');refine nQ (nT h₁' (λ_ s₂ h₂=>?_) λ_ _ h'=>h');refine nQ ?_;rw[List.forIn_cons];dsimp only;rw[nV rfl];refine nQ (nQ (nT h₂ (λb s₂' hb=>nS ?_) λ_ _ h'=>h'));dsimp only;rw[List.forIn_nil];refine nS ?_;cases b with
  | true=>
   rw[nV rfl]at hb ⊢;refine nQ ?_;exact(nQ (nT hb (λx s₃ h₃=>nQ (nT h₃
    (λ_ s₄ h₄=>nS (nS ⟨rfl,h₄⟩)) λ_ _ h'=>h')) λ_ _ h'=>h'))
  | false=>
   rw[nU hW]at hb ⊢;exact nS ⟨rfl,hb⟩
end
section
variable{X:Cx}
end
end Lw
namespace LwD
open PySem PySem.Spec PyProof.Rows L2 Lw
section
variable{prog:Program}{w:World}{A:Around}{E:Value->Shared->Prop}{s:Shared}
end
section
variable{X:Cx}
end
section
variable{X:Cx}{k v:Expr}{tk tv:TE}{pos:Pos}
end
end LwD
namespace L2
open PySem PySem.Spec PyProof.Rows
section
variable{X:Cx}
end
section
variable{prog:Program}{w:World}{A:Around}{E:Value->Shared->Prop}{s:Shared}
end
def Itd(n:Nat):It:=⟨λi _=>i<n,λi H x H'=>H'=H/\x=.int ((n:Int)-1-i),λi _=>n<=i⟩
theorem OY{P:Program}{w:World}{K:nW}{tg:Expr}(it:Addr)(n:Nat):Turn P w K tg (Itd n) [it] it (λi h=>IsRangeIter h it (((n:Int)-1)+(i:Nat)*(-1)) ((n:Int)-(i:Nat)) (-1)) where
 mem:=by simp
 obj:=λi h st b hb=>by
  have e:b=it:=by simpa using hb
  subst e;exact⟨_,st,λv z=>by
   have z':Data.fields _=Data.cell v:=z;cases z'⟩
 keep:=λi h h' st k=>k it (by simp) _ st
 item:=by
  intro X hP hw hK hc i af s σ H E I hf st hg;subst hP hw hK;obtain⟨f0,f1,f2,f3,f4,f5⟩:=hf it (by simp);have W:=Walks.range (prog:=X.prog) (w:=X.w) (I.ok.hd hc) it ((n:Int)-1) (-1) n;refine W.item i s _ _ hg st λv h' tk hv st' kk=>?_;obtain⟨t,rfl⟩:=hv;have I1:Inv X af σ H { s with heap:=h',toks:=tk } :=I.turned (λb o hb e=>kk b o (by simpa using hb) e) f0 f1 f3 f4 f5;refine⟨_,rfl,JC (s:={ s with heap:=h',toks:=tk }) (n:="range_iterator") st' rfl rfl (by decide) ⟨.int ((n:Int)-1-i),H,I1,⟨t, ?_⟩,⟨rfl,rfl⟩,st',λb hb=>(hf b hb).1⟩⟩;rw[show(n:Int)-1+(i:Int)*(-1)=(n:Int)-1-i by lia]
 done:=by
  intro X hP hw hK hc i af s σ H E I hf st hg;subst hP hw hK;obtain⟨f0,f1,f2,f3,f4,f5⟩:=hf it (by simp);exact wpAny_pyNext_range_end (I.ok.hd hc) st (by have:n<=i:=hg;lia) λh' eb=>⟨rfl,I.turned (t':=s.toks) (λb o hb e=>eb b o hb e) f0 f1 f3 f4 f5⟩
 self:=λ_ _ _ _ _ st h=>wpAny_pyIter_rangeiter st h
section
variable{X:Cx}{tg:Expr}
end
open Lw
section
variable{X:Cx}{pos:Pos}
theorem wE:∀{xs:List V} {us:List Value},Vals xs us->Vals xs.reverse us.reverse
 | _,_,.nil=>.nil
 | _,_,.cons h t=>by rw[List.reverse_cons,List.reverse_cons];exact(wE t).append (.cons h .nil)
def ZP(K:nW)(te:TE)(ts:TO):TE:=fun σ H Q=>te σ H λx H1=>ts σ H1 λo H2=>o=some (-1)/\∃a xs,x=.ref a/\SqL K H2 a xs/\New H2 (.lst xs.reverse) Q
theorem IF{e st:Expr}{te:TE}{ts:TO}{p2:Pos}(he:PE X e te)(hs:PO X (some st) ts):PE X (.Subscript e (.Slice none none (some st) p2) pos) (ZP X.K te ts):=by
 intro af s σ H Q I h;refine Subscript_ (thn (he af s σ H _ I h) λv s1 ⟨x,H1,I1,r1,q1⟩=>?_);refine wpAny_Slice ?_;rw[evalPart_none];refine nS (nS (thn (hs af s1 σ H1 _ I1 q1) λvs s2 ⟨o,H2,I2,po,eo,a,xs,ex,hx,q⟩=>?_));subst eo ex;cases r1;cases po with
 | int i u=>
 have I3:Inv X af σ H2 { s2 with heap:=s2.heap.push { cls:=.type "slice",data:=.fields #[.none,.none,.int (-1) u] } } :=I2.kept (t':=s2.toks) λb ob q=>gP _ q;obtain⟨its,r,ht,hz⟩:=I3.list hx;have hl:its.toArray.size=xs.length:=by rw[mF];exact r.length.symm
 show wpAny (model X.prog X.w) X.A (subscriptTail e (.Slice none none (some st) p2) (.ref a) (.ref s2.heap.objs.size)) (EP X af σ Q) X.xe { s2 with heap:=s2.heap.push { cls:=.type "slice",data:=.fields #[.none,.none,.int (-1) u] } };refine tail_any (ops:=[.ref a,.ref s2.heap.objs.size]) ht.isList.typeIs slot_list_getitem.lookup ?_ (by with_unfolding_all rfl);refine wpAny_getItem_list_slice ht.isList (Heap.IsSliceOf.new ..) .none .none (.int (-1) u) (by decide) ?_ (by rw[hl];exact hz);rw[PySem.W.krv_pick];have n:=I3.hok.fresh (nN (s2.heap.push { cls:=.type "slice",data:=.fields #[.none,.none,.int (-1) u] }).objs.size);refine⟨.ref _,_,I3.laid (t':=s2.toks) (o:=.lst xs.reverse) (λb ob q=>gP _ q) gC ?_,rfl,q _ _ n (Lw.jW _ n) jF⟩;exact⟨by rw[List.length_reverse];exact hz,_,0,wE r,hU _ rfl⟩
end
section
variable{prog:Program}{w:World}{A:Around}{E:Value->Shared->Prop}{s:Shared}
end
section
variable{X:Cx}{pos:Pos}
end
structure ZL(z TI TO i1 i2 l1 l2:Addr)(k:Nat)(h:Heap):Prop where
 zz:IsZip h z TI TO .none
 ti:IsPair h TI (.ref i1) (.ref i2)
 to:∃a b,IsPair h TO a b
 one:h.IsListIter i1 l1 k
 two:h.IsListIter i2 l2 k
section
variable{X:Cx}
end
end L2
namespace L2
open PySem PySem.Spec PyProof.Rows
section
variable{prog:Program}{w:World}{A:Around}{E:Value->Shared->Prop}{s:Shared}
end
section
variable{X:Cx}{tg:Expr}
end
end L2
namespace Lw
open PySem PySem.Spec PyProof.Rows L2
section
variable{X:Cx}
theorem JT:bootBuiltins "min" = some (.builtin "min"):=by decide +kernel
end
section
variable{prog:Program}{w:World}{A:Around}{E:Value->Shared->Prop}{s:Shared}
end
section
variable{X:Cx}
end
section
variable{prog:Program}{w:World}{A:Around}{R:Result->Shared->Prop}{s:Shared}
end
section
variable{X:Cx}
end
section
variable{X:Cx}
end
section
variable{X:Cx}
end
section
variable{prog:Program}{w:World}{A:Around}{R:Result->Shared->Prop}{s:Shared}
end
def CompGoFI(σ0:L2.St)(J:It)(g:TG)(tt:TT)(te:TE)(Q:VK)(p:Addr)(H':Hp):Prop:=
 ∃W:Nat->Nat->List V->Hp->Prop,(∃m,W 0 m [] H')/\∀i m ys H2,W i m ys H2->H2 p=some (.lst ys)/\ys.length<sizeLine/\
  ((J.stop i H2/\Q (.ref p) H2)∨(J.go i H2/\∀x H3,J.yld i H2 x H3->g x σ0 H3 fun σ4 H4=>Keep σ0 σ4/\tt σ4 H4 λb H5=>if b=true then te σ4 H5 λy H6=>H6 p=some (.lst ys)/\∃m',m'<m/\W (i+1) m' (ys++[y]) (upd H6 p (.lst (ys++[y])))else ∃m',m'<m/\W (i+1) m' ys H5))
def WA(own:Nat)(idx:List Nat)(wi:TI)(g:TG)(tt:TT)(te:TE):TE:=fun σ H Q=>wi σ H λJ H1=>∀p H',H1 p=none->Same H1 H'->H' p=some (.lst [])->
 CompGoFI (List.replicate own none++idx.map λj=>(σ[j]?).getD none) J g tt te Q p H'
section
variable{X:Cx}
abbrev BI(X:Cx)(target c elt:Expr)(env:Env)(a:Addr)(R:Result->Shared->Prop)(v:Value)(K:Shared->Prop)(s:Shared):Prop:=
 wpAny (model X.prog X.w) X.A (assign target env v) (λ_ s₂=>wpAny (model X.prog X.w) X.A (isTrue c env (eval c env)) (λb s₂'=>if b=true then wpAny (model X.prog X.w) X.A (eval elt env) (λx s₃=>
  wpAny (model X.prog X.w) X.A (call (.builtin "list.append") [.ref a,x]) (λ_ s₄=>K s₄) (notedBy (model X.prog X.w) X.A env λe s'=>R (.error e) s') s₃) (notedBy (model X.prog X.w) X.A env λe s'=>R (.error e) s') s₂' else K s₂') (notedBy (model X.prog X.w) X.A env λe s'=>R (.error e) s') s₂) (notedBy (model X.prog X.w) X.A env λe s'=>R (.error e) s') s
theorem cgoFI{target c elt:Expr}{g:TG}{tt:TT}{te:TE}{N:List Str}{scope:Scope}{cl:List (Str×Addr)}(hg:∀C fp s2 H2,PG (jV X N scope cl C fp s2 H2) target g)(ht:∀C fp s2 H2,PT (jV X N scope cl C fp s2 H2) c tt)(he:∀C fp s2 H2,PE (jV X N scope cl C fp s2 H2) elt te){σ0:L2.St}{Q:VK}(C:Addr)(fp:List Addr)(s2:Shared)(H2:Hp)(J:It)(p:Addr)(H':Hp)(R:Result->Shared->Prop)
  (h:CompGoFI σ0 J g tt te Q p H'):CGo (jV X N scope cl C fp s2 H2) σ0 J (BI X target c elt (compEnvC scope cl C X.env) p R) (λH=>Q (.ref p) H) H':=by
 obtain⟨W,⟨m0,w0⟩,turn⟩:=h;refine⟨λi m H=>∃ys,W i m ys H,⟨m0,[],w0⟩, ?_⟩;rintro i m H3 ⟨ys,w⟩;obtain⟨hp3,hz3,hw⟩:=turn i m ys H3 w;refine hw.imp id λ⟨go,step⟩=>⟨go,λx H5 y5 pns u s5 K I5 r5 hK=>?_⟩;refine nT (hg _ _ _ _ _ s5 _ H5 x u _ I5 r5 (step x H5 y5)) (λ_ s6 ⟨σ6,H6,I6,kp6,q6⟩=>?_) λ_ _ z=>z.elim;refine nT (ht _ _ _ _ _ s6 σ6 H6 _ I6 q6) (λb s6' ⟨H6',I6',q6'⟩=>?_) λ_ _ z=>z.elim;cases b with
 | false=>
  rw[nU hW]at q6' ⊢;obtain⟨m',hm',w7⟩:=q6';exact hK _ _ _ m' I6' kp6 hm' ⟨_,w7⟩
 | true=>
  rw[nV rfl]at q6' ⊢;refine nT (he _ _ _ _ _ s6' σ6 H6' _ I6' q6') (λy s7 ⟨yv,H7,I7,r7,e7,m',hm',w7⟩=>?_) λ_ _ z=>z.elim;refine nT (qP (X:=jV X N scope cl C fp s2 H2) _ s7 σ6 H7 (.ref p) [yv] (.ref p) [y] (λ_ H8=>H8=upd H7 p (.lst (ys++[yv]))) I7 rfl (.cons r7 .nil) ⟨_,ys,yv,rfl,rfl,e7,hz3,rfl⟩) (λ_ s8 ⟨_,H8,I8,_,q8⟩=>?_) λ_ _ z=>z.elim;subst q8;exact hK _ _ _ m' I8 kp6 hm' ⟨_,w7⟩
theorem PY{own:Nat}{idx:List Nat}{N:List Str}{elt target iter c:Expr}{scope:Scope}{cl:List (Str×Addr)}{pos:Pos}{wi:TI}{g:TG}{tt:TT}{te:TE}(hc:X.calm=true)
  (hk:scope.kind=.function) (hclos:closureFor scope X.env=pure cl) (hcell:∀x∈scope.names,x.2≠.cell) (hnames:∀x∈scope.names,x.2=.local->scope.names.lookup x.1=some .local)
  (hsub:∀x c,cl.lookup x=some c->X.env.cells.lookup x=some c) (hhas:∀x,((relabel scope X.env).names.lookup x=some .cell∨(relabel scope X.env).names.lookup x=some .free)->∃c,cl.lookup x=some c)
  (hlen:N.length=own+idx.length)
  (hidx:∀(k j:Nat) (x:Str),idx[k]? = some j->N[own+k]? = some x->X.N[j]? = some x/\X.env.kindOf x=some .cell/\(relabel scope X.env).names.lookup x=some .cell/\X.env.scope.names.lookup x=some .cell)
  (hi:PI X target iter wi) (hg:∀C fp s2 H2,PG (jV X N scope cl C fp s2 H2) target g) (ht:∀C fp s2 H2,PT (jV X N scope cl C fp s2 H2) c tt) (he:∀C fp s2 H2,PE (jV X N scope cl C fp s2 H2) elt te)
  (hs:∀x,foldedSetIterable iter X.env x=pure x:=by intro _;rfl):PE X (.ListComp elt [⟨target,iter,[c],0⟩] scope pos) (WA own idx wi g tt te):=by
 intro af s σ H Q I h;rw[eval_ListComp];exact EI ⟨hk,hclos,hcell,hnames,hsub,hhas,hlen,hidx⟩ hc I hi h rfl hs (data:=.seq ([]:List Value).toArray) (nO _) rfl FR (B:=BI X target c elt) (λV=>JP V) codeAny_compStart_list (cgoFI hg ht he) KY
end
end Lw
namespace L2
open PySem PySem.Spec PyProof.Rows Lw
section
variable{X:Cx}
theorem XS:MtR X "str.find" (λx xs H Q=>∃z y:Str,x=.str z/\xs=[.str y]/\Q (.int (Txt.find z y)) H):=by
 intro af s σ H x xs v us Q I rx rs q;obtain⟨z,y,rfl,rfl,q⟩:=q;obtain⟨t,rfl⟩:=rx;obtain⟨u,rfl,t',rfl⟩:=vI rs;exact PySem.SC.find ⟨.int _,H,I.tok _,⟨_,rfl⟩,q⟩
def DC(c:Nat)(n:Int):Str:=⟨(List.replicate n.toNat c).toArray⟩
theorem BL(c:Nat):∀(k:Nat) (a:Array Nat),(List.replicate k #[c]).foldl (· ++·) a=a++(List.replicate k c).toArray
 | 0,a=>by simp
 | k+1,a=>by
  rw[List.replicate_succ,List.foldl_cons,BL c k];apply Array.ext';simp [List.replicate_succ]
theorem NM:OpR X (binaryOp .Mult) (λx y H Q=>∃(c:Nat) (n:Int),x=.str ⟨#[c]⟩/\y=.int n/\n<=100000/\-100000<=n/\Q (.str (DC c n)) H):=by
 intro af s σ H x y v u Q I rx ry h;obtain⟨c,n,rfl,rfl,h1,h2,q⟩:=h;obtain⟨t,rfl⟩:=rx;obtain⟨t',rfl⟩:=ry;have l1:(⟨#[c]⟩:Str).length=1:=rfl;refine PySem.P.mul_str (by rw[mR (by lia),mR (by lia)];rfl) (λa b=>?_) (λa b=>?_) ?_
 ·rw[l1];have:(2^63-1:Int)/n ≥ 1:=by
   rw[ge_iff_le,Int.le_ediv_iff_mul_le (by lia)]
   lia
  lia
 ·rw[l1,Nat.one_mul];show decide (_>sizeLine)=false;refine mR ?_;rw[sizeLine_eq]
  lia
 ·by_cases a:n<1
  ·rw[nV a];refine⟨by decide,.str (DC c n),H,I.tok _,⟨s.toks, ?_⟩,q⟩;have:n.toNat=0:=by lia
   rw[DC,this]
   rfl
  ·rw[nU a];by_cases b:n=1
   ·subst b;exact⟨.str (DC c 1),H,I,⟨t,rfl⟩,q⟩
   ·rw[nU (by rw[l1];simp [b])];refine⟨?_,.str (DC c n),H,I.tok _,⟨s.toks, ?_⟩,q⟩
    ·rw[BL];show(#[]++(List.replicate n.toNat c).toArray).size<=_;simp [sizeLine_eq]
     lia
    ·rw[BL];show Value.str ⟨#[]++(List.replicate n.toNat c).toArray⟩ _=_;rw[Array.empty_append]
     rfl
variable{tg:Expr}
def iDown(ta:TA):TI:=fun σ H R=>ta σ H λvs H1=>∃n:Nat,vs=[.int ((n:Int)-1),.int (-1),.int (-1)]/\n<1000000/\R (Itd n) H1
theorem NG{a b c:Expr}{ta:TA}{p pos:Pos}(hg:Gl X "range")(hm:X.mg "range" = none)(ha:PA X [a,b,c] ta)(hs:starEach [a,b,c] X.env=(false,eval a X.env)::starEach [b,c] X.env:=by rfl)(hpl:(backTo pos (starEach [b,c] X.env)).any (·.1)=false:=by rfl) :
  PI X tg (.Call (.Name "range" p) [a,b,c] [] pos) (iDown ta):=by
 intro af s σ H R I h;refine Call_ (yT I hg hm boot_range (PyProof.Rows.callWith_type1 (thn (ha pos af s σ H _ I h) λus s1 ⟨vs,H1,I1,r1,q1⟩=>?_) hs hpl));obtain⟨n,e,hn,q⟩:=q1;subst e;cases r1 with
 | cons r rr=>
  obtain⟨t,rfl⟩:=r;cases rr with
  | cons r' rr=>
  cases rr with
  | cons r'' rr=>
  cases rr;obtain⟨t',rfl⟩:=r';obtain⟨t'',rfl⟩:=r'';refine call_range_3 (by decide) ?_ (.inl (PyProof.noPylong_small (by lia)));have e2:Builtin.Range.rangeSize ((n:Int)-1) (-1) (-1)=n:=by
   unfold Builtin.Range.rangeSize;simp
   lia
  refine wpAny_pyIter_range (IsRange.new ..) ?_ ?_
  ·rw[Builtin.Range.small,e2];simp only[Builtin.Range.rangeFitsLong,mO,Bool.or_eq_true,decide_eq_true_eq,beq_iff_eq,show ¬((-1:Int)>0) by decide,if_false]
   lia
  ·have I2:Inv X af σ H1 { s1 with heap:=s1.heap.push { cls:=.type "range",data:=.fields #[.int ((n:Int)-1) t,.int (-1) t',.int (-1) t''] } } :=I1.kept λb o e=>gP _ e;refine⟨_,[_],_,_,H1,rfl,I2.kept (t':=s1.toks) λb o e=>gP _ e,OY _ n, ?_,λb hb=>?_,q⟩
   ·show IsRangeIter _ _ _ _ _;rw[show(n:Int)-1+((0:Nat):Int)*(-1)=n-1 by lia,show(n:Int)-((0:Nat):Int)=n by lia,e2];exact hU _ rfl
   ·have e:=mB.mp hb;subst e;exact I2.fpOk gC (I2.hok.fresh gC)
end
end L2
namespace LwE
open PySem PySem.W PySem.Calls PySem.Spec PyProof.Rows
structure XCls(K:Frag)(C fI:Addr)(bl:List Value)(newId:String):Prop where
 obj:∃nm q N bs hd sn sub ab col dd a0 a1 a2 a3 a5,K.lookup C=some (excClassObj nm q C N bs bl hd sn sub ab col dd a0 a1 a2 a3 a5 newId)
 isB:bl.contains (.type "ValueError")=true
 isBase:bl.contains (.type "BaseException")=true
 noAt:bl.contains (.type "AttributeError")=false
 noNm:bl.contains (.type "NameError")=false
 init:findIn K (.ref C) "__init__" = some (some (.ref fI))
 fn:typeIn K (.ref fI)=some (.type "function")
 kp:keepIn K (.ref C)=true
 ga:findIn K (.ref C) "__getattribute__" = some (some (.builtin "BaseException.__getattribute__"))
 gn:findIn K (.ref C) "__getattr__" = some none
 cl:findIn K (.ref C) "__class__" = some (some (.builtin "object.__class__"))
 obj':mroIn K C (.type "object")=some true
section
variable{prog:Program}{w:World}{A:Around}{E:Value->Shared->Prop}{R:Result->Shared->Prop}{hp:Heap}{g:Array GenState}{d:Drawn}{tk:Nat}{os:OsState}
variable{nm q:Str}{C N:Addr}{bs bl bb:List Value}{hd:Bool}{sn:List Str}{sub:List Value}{ab:Bool}{col:Option Bool}{dd:Option Addr}{a0 a1 a2 a3 a5:Option Value}{B newId initId:String}
theorem new_ok(F:ExcBaseFacts B newId initId bb)(zB:bl.contains (.type B)=true){us:List Value}{Q:Unit->Shared->Prop}(o:hp.get? C=some (excClassObj nm q C N bs bl hd sn sub ab col dd a0 a1 a2 a3 a5 newId))
  (k:Q () ⟨hp,g,d,tk,os⟩):wpAny (model prog w) A (checkBuiltinCall newId ⟨.ref C::us,[]⟩) Q E ⟨hp,g,d,tk,os⟩:=by
 have z:(Value.ref C::bl).contains (.type B)=true:=by rw[List.contains_cons,zB,Bool.or_true]
 have nostar:=F.noStar;simp only[checkBuiltinCall,F.newKind,F.newSplit,F.newRow]
 repeat (first | refine wpAny_loadPart_at o ?_ | (refine wpAny_isSubtype_exc o ?_;rw[z]) | refine wpAny_staticBase_exc o ?_ | refine wpAny_madeBy_exc o ?_ | simp only[bne_self_eq_false,Bool.false_eq_true,if_false] | wp_step)
 exact k
theorem XQ(F:ExcBaseFacts B newId initId bb)(zB:bl.contains (.type B)=true)(zA:bl.contains (.type "AttributeError")=false)(zN:bl.contains (.type "NameError")=false)
  {us:List Value} (o:hp.get? C=some (excClassObj nm q C N bs bl hd sn sub ab col dd a0 a1 a2 a3 a5 newId))
  (k:R (.ok (.ret (.ref (hp.objs.size+1)))) ⟨(hp.push { cls:=.type "tuple",data:=.seq us.toArray }).push
   { cls:=.ref C,data:=.fields #[.ref hp.objs.size,.none,.none,.none,.bool false,.none] },g,d,tk,os⟩) (fits:us.length<=sizeLine) :
  codeAny (model prog w) A (.builtin newId ⟨.ref C::us,[]⟩) R ⟨hp,g,d,tk,os⟩:=by
 have ends:=F.ends;have y1:(Value.ref C::bl).contains (.type B)=true:=by rw[List.contains_cons,zB,Bool.or_true]
 have y2:(Value.ref C::bl).contains (.type "AttributeError")=false:=by rw[List.contains_cons,zA];rfl
 have y3:(Value.ref C::bl).contains (.type "NameError")=false:=by rw[List.contains_cons,zN];rfl
 refine codeAny_builtinAt F.entry ?_;unfold Builtin.«BaseException.__new__»;refine PySem.wpAt_bind ?_;show PySem.wpAt _ _ _ (stack >>= _) _ _ _;refine PySem.wpAt_bind (PySem.wpAt_stack λp below=>PySem.wpAt_of_wpAny ?_)
 wp_walk
 refine PySem.wpAt_of_wpAny ?_;rw[F.owner]
 repeat (first | with_reducible refine wpAny_madeHere_exc F.canon o ?_ | with_reducible refine wpAny_loadPart_at o ?_ | (with_reducible refine wpAny_isSubtype_exc o ?_;first | rw[y1] | rw[y2] | rw[y3]) | wp_step)
 show R _ _;rw[mW];exact k
theorem TZ(F:ExcBaseFacts B newId initId bb){K:Frag}{fI:Addr}(KI:K.In hp)(zB:bl.contains (.type B)=true)(zA:bl.contains (.type "AttributeError")=false)(zN:bl.contains (.type "NameError")=false)
  (zi:findIn K (.ref C) "__init__" = some (some (.ref fI))) (zf:typeIn K (.ref fI)=some (.type "function"))
  {us:List Value} {Q:Fin->Shared->Prop} (o:hp.get? C=some (excClassObj nm q C N bs bl hd sn sub ab col dd a0 a1 a2 a3 a5 newId))
  (k:∀h' e,hp.objs.size<=e->Heap.MadeExcOf hp h' e (.ref C) us->
   wpAny (model prog w) A (call (.ref fI) (.ref e::us)) (λr s'=>r=.none/\Q (.done (.ret (.ref e))) s') E ⟨h',g,d,tk,os⟩) (fits:us.length<=sizeLine) :
  wpAny (model prog w) A (Builtin.«type.__call__» ⟨.ref C::us,[]⟩) Q E ⟨hp,g,d,tk,os⟩:=by
 repeat (first | with_reducible refine wpAny_loadPart_at o ?_ | with_reducible refine wpAny_madeBy_exc o ?_ | wp_step)
 refine codeAny_call_builtin_code (Code.quiet_builtin _ F.quiet) (new_ok F zB o ?_);refine XQ F zB zA zN o ?_ fits;show wpAny _ _ _ _ _ _;have kp:∀b ob,hp.get? b=some ob->((hp.push { cls:=.type "tuple",data:=.seq us.toArray }).push { cls:=.ref C,data:=.fields #[.ref hp.objs.size,.none,.none,.none,.bool false,.none] }).get? b=some ob:=
  λb ob e=>gP _ (gP _ e)
 have o1:=kp _ _ o;have oe:((hp.push { cls:=.type "tuple",data:=.seq us.toArray }).push { cls:=.ref C,data:=.fields #[.ref hp.objs.size,.none,.none,.none,.bool false,.none] }).get? (hp.objs.size+1)
   = some { cls:=.ref C,data:=.fields #[.ref hp.objs.size,.none,.none,.none,.bool false,.none] } :=by heap_get
 have y:(Value.ref C::bl).contains (.ref C)=true:=by simp
 have K1:=KI.keeps kp;unfold isInstance
 repeat (first | with_reducible refine wpAny_loadPart_at oe ?_ | (with_reducible refine wpAny_isSubtype_exc o1 ?_;rw[y]) | wp_step)
 show wpAny _ _ (typeLookup (.ref C) _) _ _ _;refine(looks_findIn K1 zi).at ?_;refine wpAny_holding (nQ ((bind_fn K1 (.ref (hp.objs.size+1)) zf).at ?_));refine nQ (nT (k _ (hp.objs.size+1) (Nat.le_succ _) ⟨kp,Heap.get?_none_of_le (Nat.le_succ _),hp.objs.size,oe,Heap.get?_none_of_le gC, ?_⟩) (λr s' hr=>?_) λ_ _ x=>x)
 ·exact gP _ (Heap.get?_push_at rfl rfl)
 ·obtain⟨rfl,hQ⟩:=hr
  wp_walk
  exact hQ
theorem UX(F:ExcBaseFacts B newId initId bb){K:Frag}{fI:Addr}(KI:K.In hp)(zB:bl.contains (.type B)=true)(zA:bl.contains (.type "AttributeError")=false)(zN:bl.contains (.type "NameError")=false)
  (zi:findIn K (.ref C) "__init__" = some (some (.ref fI))) (zf:typeIn K (.ref fI)=some (.type "function"))
  {us:List Value} {Q:Value->Shared->Prop} (o:hp.get? C=some (excClassObj nm q C N bs bl hd sn sub ab col dd a0 a1 a2 a3 a5 newId))
  (k:∀h' e,hp.objs.size<=e->Heap.MadeExcOf hp h' e (.ref C) us->
   wpAny (model prog w) (A.under (.builtin "type.__call__" ⟨.ref C::us,[]⟩)) (call (.ref fI) (.ref e::us)) (λr s'=>r=.none/\Q (.ref e) s') E ⟨h',g,d,tk,os⟩) (fits:us.length<=sizeLine) :
  wpAny (model prog w) A (call (.ref C) us) Q E ⟨hp,g,d,tk,os⟩:=by
 have u1:=tc_lookup;have u2:=tc_bind (.ref C);have ty:(⟨hp,g,d,tk,os⟩:Shared).TypeIs (.ref C) "type":=⟨_,o,rfl⟩;refine wpAny_call (codeAny_of_tree ?_);show wpAny _ _ (callAny (.ref C) _) _ _ _
 repeat (any_goals (first | assumption | with_reducible refine wpAny_loadPart_at o ?_ | wp_step))
 refine⟨rfl, ?_⟩;refine codeAny_call_builtin_at (Code.quiet_builtin _ (by decide +kernel)) entry_typeCall (wpAny_check_type_call_sub o (TZ F KI zB zA zN zi zf o (λh' e hl hm=>?_) fits));exact k h' e hl hm
end
end LwE
namespace LwE
open PySem PySem.W PySem.Spec PyProof.Rows L2
def yK(e C:Addr):HO:=.ext λh=>∃t,h.get? e=some { cls:=.ref C,data:=.fields #[.ref t,.none,.none,.none,.bool false,.none] }
theorem OI{P:Program}{w:World}{H:Hp}{h:Heap}{e C t:Addr}(q:h.get? e=some { cls:=.ref C,data:=.fields #[.ref t,.none,.none,.none,.bool false,.none] }):ObjOk P w H h e (yK e C):=
 ⟨⟨t,q⟩,⟨_,q⟩,λ_ _ ⟨t,z⟩ k=>⟨t,k _ z⟩⟩
theorem RL{H:Hp}{a:Addr}{o:HO}(e:H a=some o):upd H a o=H:=by
 funext b
 unfold upd;by_cases h:b=a
 ·rw[nV h,h,e]
 ·rw[nU h]
def tInit(K:Frag)(t:TA):TE:=fun σ H Q=>t σ H λvs H1=>∃e C fI bl nid v,vs=[.ref e,v]/\H1 e=some (yK e C)/\XCls K C fI bl nid/\Q .non H1
theorem RH{M:Model}{A:Around}{E:Value->Shared->Prop}{hp:Heap}{g:Array GenState}{d:Drawn}{tk:Nat}{os:OsState}{K:Frag}{C fI e:Addr}{bl:List Value}{nid:String}{oe:Obj}{us:List Value}{Q:Unit->Shared->Prop}
  (KI:K.In hp) (c:XCls K C fI bl nid) (he:hp.get? e=some oe) (hc:oe.cls=.ref C) (q:Q () ⟨hp,g,d,tk,os⟩):wpAny M A (checkBuiltinCall "ValueError.__init__" ⟨.ref e::us,[]⟩) Q E ⟨hp,g,d,tk,os⟩:=by
 obtain⟨nm,qn,N,bs,hd,sn,sub,ab,col,dd,a0,a1,a2,a3,a5,lk⟩:=c.obj;have o:=KI _ _ lk;have y:(Value.ref C::bl).contains (.type "ValueError")=true:=by rw[List.contains_cons,c.isB,Bool.or_true]
 have nostar:=PySem.F.excBase_ValueError.noStar;simp only[checkBuiltinCall,PySem.F.excBase_ValueError.initKind,PySem.F.excBase_ValueError.initSplit,PySem.F.excBase_ValueError.initRow]
 repeat (first | (with_reducible refine wpAny_loadPart_at he ?_;rw[hc]) | with_reducible refine wpAny_loadPart_at o ?_ | (with_reducible refine wpAny_isSubtype_exc o ?_;rw[y]) | wp_step)
 refine wpAny_onRaise ?_;rw[show ∀(a b:String) (n:Nat),Bind.check ⟨.positional,"*","ValueError",.self,[⟨"args",.varPos,false⟩]⟩ a b n (List.map (λx=>x.fst) ({ pos:=.ref e::us } :Args).kw)=pure ()from λ_ _ _=>check_star_args _ _ _ _ _ _];exact nS q
theorem VU:typeOf (.type "ValueError")=pure (.type "type"):=kitMeta_of (by decide +kernel)
section
variable{X:Cx}{e1 e2:Expr}{t:TA}{np apos pos:Pos}{pl:Sem Bool}
theorem SM{af:List (Addr×Obj)}{σ:L2.St}{H:Hp}{s:Shared}{Q:VK}{e C fI:Addr}{bl:List Value}{nid:String}{u:Value}(I:Inv X af σ H s)(he:H e=some (yK e C))(hs:XCls X.K C fI bl nid)(q:Q .non H) :
  wpAny (model X.prog X.w) X.A (call (.builtin "ValueError.__init__") [.ref e,u]) (EP X af σ Q) X.xe s:=by
 obtain⟨⟨tt,hx⟩,_⟩:=(show ObjOk X.prog X.w H s.heap e (yK e C)from I.hok e _ he);have I':=I;obtain⟨hp,g,d,tk,os⟩:=s;refine wpAny_call (codeAny_call_builtin PySem.F.excBase_ValueError.init.plain PySem.F.excBase_ValueError.initEntry (RH I.kIn hs hx rfl ?_))
 wp_walk
 refine⟨.non,H, ?_,rfl,q⟩;have w:=I'.write (x:=e) (e:=e) (o:=yK e C) (t':=tk) (h':=(hp.push { cls:=.type "tuple",data:=.seq #[u] }).update e (Obj.mapFields (·.setIfInBounds 0 (.ref hp.objs.size)))) (by rw[he];trivial) (.inl rfl) (λb ob hb z=>by
  rw[Heap.get?_update_other _ _ (Ne.symm hb)];exact gP _ z) ⟨_,Heap.get?_update_self _ (gP _ hx) rfl⟩ (OI (t:=hp.objs.size) (Heap.get?_update_self _ (gP _ hx) rfl))
 rw[RL he]at w;exact w
theorem pe_baseInit(ha:PA X [e1,e2] t)(hg:Gl X "ValueError":=by rfl)(hm:X.mg "ValueError" = none)
  (hs:starEach [e1,e2] X.env=(false,eval e1 X.env)::starEach [e2] X.env:=by rfl) (hpl:(backTo pos (starEach [e2] X.env)).any (·.1)=false:=by rfl)
  (ht:eval (.Call (.Attribute (.Name "ValueError" np) "__init__" apos) [e1,e2] [] pos) X.env=(do
   let ov<-eval (.Name "ValueError" np) X.env
   standAt apos.atName
   let (f,first)<-holding [ov] (getMethod ov "__init__" pl)
   callWith pos f first (backTo pos (starEach [e1,e2] X.env)) (backToKw pos (keywordEach [] X.env))):=by rfl) :
  PE X (.Call (.Attribute (.Name "ValueError" np) "__init__" apos) [e1,e2] [] pos) (tInit X.K t):=by
 intro af s σ H Q I h;refine methodCall_KW (pl:=pl) (yT I hg hm PyProof.Rows.Boot.«ValueError» ?_ (by decide) (by decide)) ht;obtain⟨m,fr⟩:=I.fr;refine method_type (K:=X.K) (v:=.builtin "ValueError.__init__") fr I.ok.mod.kin VU (by decide +kernel) (by rfl) (by decide +kernel) ?_;have J:=I.tok (s.toks+1);have hA:=ha pos af _ σ H _ J h;rw[hs]at hA ⊢;refine Calls.callWith_builtin (by show(false||(backTo pos (starEach [e2] X.env)).any (·.1))=false;rw[hpl]<;>rfl) (Calls.evalArgs_plain ?_);refine thn hA λus s2 ⟨vs,H2,I2,r2,e,C,fI,bl,nid,v,ev,he,hc,q⟩=>?_;subst ev;obtain⟨u1,u2,rfl,r3,r4⟩:=Vals.two r2;cases r3;exact SM I2 he hc q
end
def spInit(K:Frag):Sp:=λvs H Q _=>∃e C fI bl nid v,vs=[.ref e,v]/\H e=some (yK e C)/\XCls K C fI bl nid/\Q .non H
def CXF(P:Program)(w:World):CXT:=λouter H s E v s'=>∃(e C:Addr) (a0:Value) (H':Hp) (B:Heap),v=.ref e/\s.heap.objs.size<=e/\s'.os=s.os/\AllBare s'.gens/\Un (frs outer) [] H H' s.heap s'.heap/\HOk P w H' B/\H' e=none/\
 Heap.FlyingW B outer e (.ref C) a0 s'.heap/\(∀b o,s.heap.get? b=some o->b∉frs outer->(∃o',B.get? b=some o')/\(H b=none->B.get? b=some o))/\E (.ref C) none H'
section
variable{X:Cx}{af:List (Addr×Obj)}{σ:L2.St}{H H':Hp}{s:Shared}{B h':Heap}
theorem JU(hx:X.ex=[])(I:Inv X af σ H s)(st:B.StaysIn h')(up:∀b o,b∈X.fs->s.heap.get? b=some o->(∀vs,o.data≠.fields vs)->∃sl,h'.get? b=some { o with slots:=sl })(cover:∀b o,X.s₀.heap.get? b=some o->b∉X.fs->(∃o',B.get? b=some o')/\(X.H₀ b=none->B.get? b=some o))
  (fr:∀b o,X.s₀.heap.get? b=some o->H b=none->H' b=none) (tu:∀b xs,H b=some (.tup xs)->H' b=some (.tup xs)) (fz:∀b o u,H b=some (.frz o u)->H' b=some (.frz o u)) (tb:∀b ps,H b=some (.tbl ps)->H' b=some (.tbl ps)) :
  Un X.fs [] X.H₀ H' X.s₀.heap h':=by
 have nex:∀b:Addr,b∉X.ex:=λb z=>by rw[hx]at z;exact absurd z (by simp)
 have nf:∀b o,b∈X.fs->s.heap.get? b=some o->∃sl,h'.get? b=some { o with slots:=sl } :=λb o hb e=>by
  obtain⟨_,o',e',hd⟩:=I.funs.mem hb;rw[e]at e';cases e';exact up b o hb e hd
 refine⟨λb o e n hb _=>st b o ((cover b o e hb).2 n),λb o e n hb _=>?_,λb o e n _=>fr b o e (I.base.free b o e n (nex b)),λb o e _=>?_,
  λb xs e=>tu b xs (I.base.tups b xs e),λb o u e=>fz b o u (I.base.frzs b o u e),λb ps e=>?_⟩
 ·obtain⟨sl,e1⟩:=I.base.slot b o e n hb (nex b);obtain⟨sl',e2⟩:=nf b _ hb e1;exact⟨sl',e2⟩
 ·by_cases hb:b∈X.fs
  ·obtain⟨o',e1⟩:=I.base.there b o e (nex b);obtain⟨sl',e2⟩:=nf b _ hb e1;exact⟨_,e2⟩
  ·obtain⟨⟨o',e1⟩,_⟩:=cover b o e hb;exact⟨o',st b o' e1⟩
 ·obtain⟨m,e1⟩:=I.base.tbls b ps e;exact⟨m,tb b _ e1⟩
variable{P:Program}{w:World}{K:Frag}{mg:Str->Option Value}{base:Heap}{N:List Str}{qual:Str}{scope:Scope}{f:Addr}{cd:Value}{A:Around}{outer:List Env}{s0:Shared}{H0:Hp}{E:XK}
theorem QI{e C:Addr}(I:Inv (xA (CXF P w) P w K mg base N qual scope f cd A outer s0 H0 E) af σ (upd H e (yK e C)) s)(hn:H e=none)(he:s0.heap.objs.size<=e)(q:E (.ref C) none H) :
  (xA (CXF P w) P w K mg base N qual scope f cd A outer s0 H0 E).xe (.ref e) s:=by
 obtain⟨⟨t,hx⟩,_⟩:=(show ObjOk P w (upd H e (yK e C)) s.heap e (yK e C)from I.hok e _ jF);have hfr:∀b∈frs (envOfC qual scope s0.heap.objs.size f cd::outer),upd H e (yK e C) b=none:=I.stkFree;have nfr:∀b o,upd H e (yK e C) b=some o->b∉frs (envOfC qual scope s0.heap.objs.size f cd::outer):=λb o z hb=>by rw[hfr b hb]at z;cases z
 have hB:∀b o,s.heap.get? b=some o->b≠e->b∉frs (envOfC qual scope s0.heap.objs.size f cd::outer)->(hideAll s.heap (e::frs (envOfC qual scope s0.heap.objs.size f cd::outer))).get? b=some o:=λb o z h1 h2=>
  hideAll_get _ z λhm=>(mY.mp hm).elim h1 h2
 have cover:∀b o,s0.heap.get? b=some o->b∉frs outer->(∃o',(hideAll s.heap (e::frs (envOfC qual scope s0.heap.objs.size f cd::outer))).get? b=some o')/\(H0 b=none->(hideAll s.heap (e::frs (envOfC qual scope s0.heap.objs.size f cd::outer))).get? b=some o):=λb o z hb=>by
  have lt:=nF z;have b1:b≠e:=nH (hX lt he);have b2:b∉frs (envOfC qual scope s0.heap.objs.size f cd::outer):=λhm=>(mY.mp hm).elim (λy=>mZ s0.heap.objs.size (by have y':b=s0.heap.objs.size:=y;rw[y']at lt;exact lt)) hb;obtain⟨o',e1⟩:=I.base.there b o z (by show b∉[];simp);exact⟨⟨o',hB b o' e1 b1 b2⟩,λn=>hB b o (I.base.keep b o z n hb (by show b∉[];simp)) b1 b2⟩
 have ne_e:∀b (u:HO),upd H e (yK e C) b=some u->(∀φ,u≠.ext φ)->H b=some u:=λb u z hu=>by
  by_cases hb:b=e
  ·subst hb;rw[jF]at z;cases z;exact absurd rfl (hu _)
  ·rw[jN hb]at z;exact z
 have hok:HOk P w H (hideAll s.heap (e::frs (envOfC qual scope s0.heap.objs.size f cd::outer))):=λa o z=>by
  have ha:a≠e:=jY z hn;have z':upd H e (yK e C) a=some o:=by rw[jN ha];exact z
  refine(I.hok a o z').stay (λb u hb e1=>?_) (λb e1=>ne_e b _ e1 (fun φ y=>by cases y)) λb xs e1=>ne_e b _ e1 (fun φ y=>by cases y);rcases hb with rfl | hb
  ·exact hB _ u e1 ha (nfr _ _ z')
  ·exact hB _ u e1 (jY (ne_e b _ hb fun φ y=>by cases y) hn) (nfr _ _ hb)
 show wpAny (model P w) (A.deeper (envOfC qual scope s0.heap.objs.size f cd)) (leaving (envOfC qual scope s0.heap.objs.size f cd) (.ref e)) _ _ s;refine wpAny_leaving_firstW (base:=hideAll s.heap (e::frs (envOfC qual scope s0.heap.objs.size f cd::outer))) (L:=s0.heap.objs.size) (a0:=.ref t) I.ok.frames
  (funFrames_hide I.stack λenv hm b hb=>gY _ (List.mem_filterMap.mpr ⟨env,hm,hb⟩)) rfl hx (λb o z=>of_hideAll _ z) (hideAll_none _ (mC ..)) rfl rfl rfl λh' ⟨k1,k2,k3,k4⟩=>?_
 refine⟨e,C,.ref t,H,_,rfl,he,I.os,I.bare, ?_,hok,hn,⟨k1,hideAll_none _ (mC ..),k2.2.2,k3⟩,cover,q⟩;refine JU (X:=xA (CXF P w) P w K mg base N qual scope f cd A outer s0 H0 E) rfl I k1 (λb o _=>k4 b o) cover (λb o z n=>?_) (λb xs z=>ne_e b _ z (fun φ y=>by cases y)) (λb o u z=>ne_e b _ z (fun φ y=>by cases y)) (λb ps z=>ne_e b _ z (fun φ y=>by cases y));have lt:=nF z;rw[jN (nH (hX lt he))]at n;exact n
theorem pass_fly:Passes (CXF P w) (xA (CXF P w) P w K mg base N qual scope f cd A outer s0 H0 E) E:=by
 rintro af σ H s v s' I ⟨e,C,a0,H',B,rfl,he,ho,bare,un,hok,hn,fly,cover,q⟩;have I':Inv (xA (CXF P w) P w K mg base N qual scope f cd A outer s0 H0 E) af σ H' s':=I.call' ho un (hok.kept fly.1) bare λ_ z=>nomatch z;have cov:∀b o,s0.heap.get? b=some o->b∉frs outer->(∃o',B.get? b=some o')/\(H0 b=none->B.get? b=some o):=λb o z hb=>by
  have lt:=nF z;have nb:b∉frs (envOfC qual scope s0.heap.objs.size f cd::outer):=λhm=>(mY.mp hm).elim (λy=>mZ s0.heap.objs.size (by have y':b=s0.heap.objs.size:=y;rw[y']at lt;exact lt)) hb;obtain⟨o',e1⟩:=I.base.there b o z (by show b∉[];simp);refine⟨(cover b o' e1 nb).1,λn=>?_⟩;exact(cover b o (I.base.keep b o z n hb (by show b∉[];simp)) nb).2 (I.base.free b o z n (by show b∉[];simp))
 show wpAny (model P w) (A.deeper (envOfC qual scope s0.heap.objs.size f cd)) (leaving (envOfC qual scope s0.heap.objs.size f cd) (.ref e)) _ _ s';refine wpAny_leaves_onW (L:=s0.heap.objs.size) I.ok.frames rfl fly λh' k1 k4=>?_;refine⟨e,C,a0,H',B,rfl,nG I.sz he,I'.os,I'.bare, ?_,hok,hn,k1,cov,q⟩;exact JU (X:=xA (CXF P w) P w K mg base N qual scope f cd A outer s0 H0 E) rfl I' k1.1 (λb o _=>k4 b o) cov (λ_ _ _ n=>n) (λ_ _ z=>z) (λ_ _ _ z=>z) (λ_ _ z=>z)
end
section
variable{af:List (Addr×Obj)}{σ:L2.St}{H H':Hp}{s:Shared}
variable{P:Program}{w:World}{K:Frag}{mg:Str->Option Value}{base:Heap}{N:List Str}{qual:Str}{scope:Scope}{f:Addr}{cd:Value}{A:Around}{outer:List Env}{s0:Shared}{H0:Hp}{E:XK}
variable{C fI:Addr}{fdI:FuncData}{bl:List Value}{k:Nat}{x:Str}{np cpos pos:Pos}{e1:Expr}{te:TE}
theorem WM{X:Cx}{Q:VK}{us:List Value}{v:V}(c:XCls X.K C fI bl "ValueError.__new__")(G:FnOk X.prog X.w X.K X.mg X.base CX0 k fI fdI ["self","text"] (spInit X.K))(hr:Room (k+1) X.A)(b:Binds X.K fdI ["self","text"] [])
  (I:Inv X af σ H s) (r:Vals [v] us) (h:∀e,H e=none->X.s₀.heap.objs.size<=e->Q (.ref e) (upd H e (yK e C))):wpAny (model X.prog X.w) X.A (call (.ref C) us) (EP X af σ Q) X.xe s:=by
 obtain⟨nm,qn,N',bs,hd,sn,sub,ab,col,dd,a0,a1,a2,a3,a5,lk⟩:=c.obj;have o:=I.kIn _ _ lk;have lim:us.length<=sizeLine:=by rw[<-r.length];show 1<=sizeLine;decide
 have I0:=I;have sz:=I.sz;obtain⟨hp,g,d,tk,os⟩:=s;refine UX PySem.F.excBase_ValueError I.kIn c.isB c.noAt c.noNm c.init c.fn o (λh' e hle hm=>?_) lim;obtain⟨t,ht,_,_⟩:=hm.there;have hn:H e=none:=I0.hok.fresh hle;have I2:Inv X af σ (upd H e (yK e C)) ⟨h',g,d,tk,os⟩:=I0.laid (t':=tk) hm.keeps hle (OI ht);have r2:Vals [V.ref e,v] (.ref e::us):=.cons rfl r;refine wpAny_call (codeAny_mono (G.run _ X.stack _ (upd H e (yK e C)) ⟨.ref e::us,[]⟩ (.ref e::us) [.ref e,v] (λy H2=>y=.non/\H2=upd H e (yK e C)) E0 (hr.make C us []) (I2.env0.make C us []) ?_ r2
  ⟨e,C,fI,bl,_,v,rfl,jF,c,rfl,rfl⟩) λr s' hq=>?_)
 ·have z:=b ⟨h',g,d,tk,os⟩ (.ref e::us) I2.kIn (by rw[List.append_nil,<-r2.length];rfl);rw[List.append_nil]at z;exact z
 ·cases r with
  | error y=>exact False.elim hq
  | ok fl=>
   cases fl with
   | ret u=>
    obtain⟨y,H3,I3,ry,ey,e3⟩:=I2.after hq;subst ey e3;exact⟨ry,⟨.ref e,_,I3,rfl,h e hn (nG sz hle)⟩⟩
   | next=>exact False.elim hq
   | brk=>exact False.elim hq
   | cont=>exact False.elim hq
def tRaise(C:Addr)(E:XK)(te:TE):TS:=λ_ σ H=>xG te tNil σ H λvs H1=>∃v,vs=[v]/\E (.ref C) none H1
theorem ps_raise(c:XCls K C fI bl "ValueError.__new__")(G:FnOk P w K mg base CX0 k fI fdI ["self","text"] (spInit K))(b:Binds K fdI ["self","text"] [])
  (hr:Room (k+1) (xA (CXF P w) P w K mg base N qual scope f cd A outer s0 H0 E).A) (hg:Gl (xA (CXF P w) P w K mg base N qual scope f cd A outer s0 H0 E) x) (hm:mg x=some (.ref C))
  (he:PE (xA (CXF P w) P w K mg base N qual scope f cd A outer s0 H0 E) e1 te) (hdb:(x==("__debug__" :Str))=false:=by decide)
  (hs:starEach [e1] (xA (CXF P w) P w K mg base N qual scope f cd A outer s0 H0 E).env=(false,eval e1 (xA (CXF P w) P w K mg base N qual scope f cd A outer s0 H0 E).env)::starEach [] (xA (CXF P w) P w K mg base N qual scope f cd A outer s0 H0 E).env:=by rfl) :
  PS (xA (CXF P w) P w K mg base N qual scope f cd A outer s0 H0 E) (.Raise (some (.Call (.Name x np) [e1] [] cpos)) none pos) (tRaise C E te):=by
 intro af s σ H D I h;obtain⟨nm,qn,N',bs,hd,sn,sub,ab,col,dd,a0,a1,a2,a3,a5,lk⟩:=id c.obj;rw[arm_exec_Raise];refine nQ (wpAny_standAt (wpAny_raiseStmt_made_sub (C:=C) (nm:=nm) (q:=qn) (N:=N') (bs:=bs) (bm:=bl) (hdct:=hd) (sn:=sn) (sub:=sub) (ab:=ab) (col:=col) (dd:=dd) (k0:=a0) (k1:=a1) (k2:=a2) (k3:=a3) (k5:=a5) (newId:="ValueError.__new__") c.isBase (I.ok.hd rfl) ?_));have go:wpAny (model P w) (xA (CXF P w) P w K mg base N qual scope f cd A outer s0 H0 E).A (eval (.Call (.Name x np) [e1] [] cpos) (xA (CXF P w) P w K mg base N qual scope f cd A outer s0 H0 E).env)
   (EP (xA (CXF P w) P w K mg base N qual scope f cd A outer s0 H0 E) af σ λv H2=>∃e H1,v=.ref e/\H1 e=none/\s0.heap.objs.size<=e/\H2=upd H1 e (yK e C)/\E (.ref C) none H1) (xA (CXF P w) P w K mg base N qual scope f cd A outer s0 H0 E).xe s:=by
  refine wpAny_Call_Name_kw (uD I hg hm ?_ hdb);refine PySem.W.callWith_K (h₀:=base) I.ok.mod.kin c.kp (thn ((jA he jD hs) cpos af s σ H _ I h) λus s1 ⟨vs,H1,I1,r,v,ev,q⟩=>⟨I1.kIn, ?_⟩) hs rfl;subst ev;exact WM (X:=xA (CXF P w) P w K mg base N qual scope f cd A outer s0 H0 E) c G hr b I1 r λe hn hle=>⟨e,H1,rfl,hn,hle,rfl,q⟩
 refine nQ (nT go (λv s1 h1=>nQ (wpAny_standAt (nS ?_))) λ_ _ z=>z);obtain⟨v',H2,I2,rv,e,H1,rfl,hn,hle,rfl,q⟩:=h1;cases rv;obtain⟨⟨t,hx⟩,_⟩:=(show ObjOk P w (upd H1 e (yK e C)) s1.heap e (yK e C)from I2.hok e _ jF);exact⟨e,t,rfl,I2.kIn _ _ lk,hx,QI I2 hn hle q⟩
end
def excH(e C:Addr):HO:=.ext λh=>∃o,h.get? e=some o/\o.cls=.ref C
theorem YI{P:Program}{w:World}{H:Hp}{h:Heap}{e C:Addr}{o:Obj}(q:h.get? e=some o)(c:o.cls=.ref C):ObjOk P w H h e (excH e C):=
 ⟨⟨o,q,c⟩,⟨o,q⟩,λ_ _ ⟨o,z,c⟩ k=>⟨o,k _ z,c⟩⟩
abbrev hdl(X:Cx)(e:Addr):Cx:={ X with A:=X.A.mark (some (.ref e)),calm:=false,xe:=λ_ _=>False }
section
variable{X:Cx}{af:List (Addr×Obj)}{σ:L2.St}{H H' H1:Hp}{s:Shared}
theorem UP{e:Addr}(I:Inv X af σ H s):Inv (hdl X e) af σ H s:=
 ⟨⟨I.ok.mod,I.ok.kind,I.ok.glob,I.ok.blt,I.ok.above,I.ok.inj,I.ok.has,I.ok.cab,λz=>Bool.noConfusion z,I.ok.frames,I.ok.stk,I.ok.exf,I.ok.bs,I.ok.bsz,I.ok.noex,I.ok.exfs,I.ok.funs,I.ok.frf⟩,
  I.os,I.bare,I.base,I.loc,I.cell,I.free,I.freeC,I.pin,I.hok,I.len⟩
theorem AY{e:Addr}(ok:X.Ok)(I:Inv (hdl X e) af σ H s):Inv X af σ H s:=⟨ok,I.os,I.bare,I.base,I.loc,I.cell,I.free,I.freeC,I.pin,I.hok,I.len⟩
def XP(X:Cx)(af:List (Addr×Obj))(σ:L2.St)(E:XK)(v:Value)(s':Shared):Prop:=∃H1 s1,Inv X af σ H1 s1/\CXF X.prog X.w X.stack H1 s1 E v s'
theorem un_up{fs:List Addr}{h0 h1 h2 B:Heap}(un:Un fs [] H1 H' h0 h1)(nf:∀b o,b∈fs->h1.get? b=some o->∀vs,o.data≠.fields vs)(st:B.StaysIn h2)(up:h1.UpToSlots h2)
  (cover:∀b o,h0.get? b=some o->b∉fs->(∃o',B.get? b=some o')/\(H1 b=none->B.get? b=some o)):Un fs [] H1 H' h0 h2:=by
 refine⟨λb o e n hb _=>st b o ((cover b o e hb).2 n),λb o e n hb hx=>?_,un.free,λb o e hx=>?_,un.tups,un.frzs,un.tbls⟩
 ·obtain⟨sl,e1⟩:=un.slot b o e n hb hx;obtain⟨sl',e2⟩:=up b _ e1 (nf b _ hb e1);exact⟨sl',e2⟩
 ·by_cases hb:b∈fs
  ·obtain⟨o',e1⟩:=un.there b o e hx;obtain⟨sl',e2⟩:=up b _ e1 (nf b _ hb e1);exact⟨_,e2⟩
  ·obtain⟨⟨o',e1⟩,_⟩:=cover b o e hb;exact⟨o',st b o' e1⟩
theorem track{a:Addr}{o:HO}(hx:X.ex=[])(I:Inv X af σ H s)(hn:H a=none)(hle:X.s₀.heap.objs.size<=a)(hL:a≠X.env.locals)(hc:∀x c,X.env.cells.lookup x=some c->c≠a)(hp:∀p∈X.pn++af,p.1≠a)
  (new:∀H,ObjOk X.prog X.w H s.heap a o):Inv X af σ (upd H a o) s:=by
 have nb:∀b q,X.s₀.heap.get? b=some q->b≠a:=λb q z=>nH (hX (nF z) hle);refine⟨I.ok,I.os,I.bare,⟨I.base.keep,I.base.slot,λb q e n hb=>?_,I.base.there,λb xs e=>?_,λb q u e=>?_,λb ps e=>?_⟩,I.loc,I.cell, ?_,λx c e=>?_,λp z=>?_,λb u e=>?_,I.len⟩
 ·rw[jN (nb b q e)];exact I.base.free b q e n hb
 ·have z:=I.base.tups b xs e;rw[jN (jY z hn)];exact z
 ·have z:=I.base.frzs b q u e;rw[jN (jY z hn)];exact z
 ·obtain⟨m,z⟩:=I.base.tbls b ps e;exact⟨m,by rw[jN (jY z hn)];exact z⟩
 ·rw[jN (Ne.symm hL)];exact I.free
 ·rw[jN (hc x c e)];exact I.freeC x c e
 ·obtain⟨z1,z2,z3,z4,z5⟩:=I.pin p z;exact⟨z1,by rw[jN (hp p z)];exact z2,z3,z4,z5⟩
 ·by_cases hb:b=a
  ·subst hb;rw[jF]at e;cases e;exact new _
  ·rw[jN hb]at e;refine(I.hok b u e).stay (λ_ _ _ z=>z) (λc z=>?_) λc xs z=>?_
   ·rw[jN (jY z hn)];exact z
   ·rw[jN (jY z hn)];exact z
theorem zU{M:Model}{A:Around}{E:Value->Shared->Prop}{j:Nat}{n:Str}{pos:Pos}{Q:Unit->Shared->Prop}(I:Inv X af σ H s)(hN:X.N.Nodup)(hj:X.N[j]? = some n)(hk:X.env.kindOf n=some .local)
  (h:∀s',Inv X af (σ.set j none) H s'->Q () s'):wpAny M A (do bindName X.env n .none;unbindBehindTheSuite X.env n pos) Q E s:=by
 obtain⟨m,hn,hl⟩:=id I.loc;have cne:=I.cne;have hcls:(X.env.scope.kind==.class||(X.env.scope.kind==.module&&X.env.locals != X.env.globals))=false:=by rw[I.ok.kind];rfl
 have hjσ:j<σ.length:=by rw[I.len];exact(gI.mp hj).1
 refine wpAny_nameGoes_keeps hk hn hcls λh' v hn' hs=>?_;have ab:∀b q,X.s₀.heap.get? b=some q->b≠X.env.locals:=λb q e=>nH (hX (nF e) I.ok.above);refine h _ ⟨I.ok,I.os,I.bare,⟨λb o e n hb hx=>(hs.2 b (ab b o e)).trans (I.base.keep b o e n hb hx),λb o e n hb hx=>?_,I.base.free,λb o e hx=>?_,I.base.tups,I.base.frzs,I.base.tbls⟩,⟨_,hn',λi y v' e1 e2 e3=>?_⟩,λy c e=>?_,I.free,I.freeC,λp hp=>?_,λb ob e=>?_,by simpa using I.len⟩
 ·obtain⟨sl,e1⟩:=I.base.slot b o e n hb hx;exact⟨sl,(hs.2 b (ab b o e)).trans e1⟩
 ·obtain⟨o',e1⟩:=I.base.there b o e hx;exact⟨o',(hs.2 b (ab b o e)).trans e1⟩
 ·by_cases hi:i=j
  ·subst hi;rw[List.getElem?_set_self hjσ]at e2;cases e2
  ·rw[List.getElem?_set_ne (Ne.symm hi)]at e2;obtain⟨u',r',q⟩:=hl i y v' e1 e2 e3;refine⟨u',r', ?_⟩;rcases q with⟨k,e⟩ | ⟨k,c,e,z⟩
   ·refine .inl ⟨k, ?_⟩;by_cases hy:y=n
    ·subst hy;exact absurd (BX hN e1 hj) hi
    ·simp [hy,e]
   ·exact .inr ⟨k,c,e,z.sameBut hs (cne y c e)⟩
 ·obtain⟨w',z⟩:=I.cell y c e;exact⟨w',z.sameBut hs (cne y c e)⟩
 ·obtain⟨e,n,ne,nf,d⟩:=I.pin p hp;exact⟨(hs.2 p.1 ne).trans e,n,ne,nf,d⟩
 ·refine(I.hok b ob e).stay (λc w' hc q=>(hs.2 c ?_).trans q) (λ_ q=>q) λ_ _ q=>q;rintro rfl;rcases hc with rfl | hc
  ·rw[I.free]at e;cases e
  ·rw[I.free]at hc;cases hc
end
theorem QU{M:Model}{A:Around}{E:Value->Shared->Prop}{hp:Heap}{g:Array GenState}{d:Drawn}{tk:Nat}{os:OsState}{K:Frag}{C D fC fD e:Addr}{bl bd:List Value}{n1 n2:String}{oe:Obj}{Q:Bool->Shared->Prop}
  (KI:K.In hp) (c:XCls K C fC bl n1) (cd:XCls K D fD bd n2) (up:bl.contains (.ref D)=true) (he:hp.get? e=some oe) (hc:oe.cls=.ref C) (q:Q true ⟨hp,g,d,tk,os⟩):wpAny M A (excMatches (.ref e) (.ref D)) Q E ⟨hp,g,d,tk,os⟩:=by
 obtain⟨nm,qn,N,bs,hd,sn,sub,ab,col,dd,a0,a1,a2,a3,a5,lk⟩:=c.obj;obtain⟨nm',qn',N',bs',hd',sn',sub',ab',col',dd',b0,b1,b2,b3,b5,lk'⟩:=cd.obj;have o:=KI _ _ lk;have o':=KI _ _ lk';have y1:(Value.ref D::bd).contains (.type "BaseException")=true:=by rw[List.contains_cons,cd.isBase,Bool.or_true]
 have y2:(Value.ref C::bl).contains (.ref D)=true:=by rw[List.contains_cons,up,Bool.or_true]
 have f:=tc_notTuple;unfold excMatches
 repeat (first | (with_reducible refine wpAny_loadPart_at he ?_;rw[hc]) | with_reducible refine wpAny_loadPart_at o' ?_ | (with_reducible refine wpAny_isSubtype_exc o' ?_;rw[y1]) | (with_reducible refine wpAny_isSubtype_exc o ?_;rw[y2]) | wp_step)
 exact q
section
variable{X:Cx}{k:Nat}{f:Addr}{fd:FuncData}{ps:List Str}{sp:Sp}{x:Str}{p pos:Pos}{e:Expr}{es:List Expr}{t:TA}
theorem YJ(hxe:X.xe=λ_ _=>False)(F:FnOk X.prog X.w X.K X.mg X.base (CXF X.prog X.w) k f fd ps sp)(hr:Room k X.A)(hg:Gl X x)(hm:X.mg x=some (.ref f))(hk:PySem.W.keepIn X.K (.ref f)=true)(hb:Binds X.K fd ps [])
  (ha:PA X (e::es) t) {af:List (Addr×Obj)} {s:Shared} {σ:L2.St} {H:Hp} {Q:VK} {E:XK} (I:Inv X af σ H s) (h:MD sp [] E t σ H Q)
  (hdb:(x==("__debug__" :Str))=false:=by decide) (he:starEach (e::es) X.env=(false,eval e X.env)::starEach es X.env:=by rfl) (hpl:(backTo pos (starEach es X.env)).any (·.1)=false:=by rfl) :
  wpAny (model X.prog X.w) X.A (eval (.Call (.Name x p) (e::es) [] pos) X.env) (EP X af σ Q) (XP X af σ E) s:=by
 refine wpAny_Call_Name_kw (uD I hg hm ?_ hdb);refine PySem.W.callWith_K (h₀:=X.base) I.ok.mod.kin hk (nT (ha pos af s σ H _ I h) (λus s1 ⟨vs,H1,I1,r,q⟩=>⟨I1.kIn, ?_⟩) λ_ _ z=>?_) he hpl
 ·have q:sp (vs++[]) H1 Q E:=q;rw[List.append_nil]at q;have hl:us.length=ps.length:=by rw[<-r.length];exact F.len _ _ _ _ q
  have z:=hb s1 us I1.kIn (by rw[List.append_nil];exact hl);rw[List.append_nil]at z;refine wpAny_call (codeAny_mono (F.run X.A X.stack s1 H1 ⟨us,[]⟩ us vs Q E hr I1.env0 z r q) λr s' hq=>?_);cases r with
  | error y=>exact⟨H1,s1,I1,hq⟩
  | ok fl=>
   cases fl with
   | ret u=>exact I1.after hq
   | next=>exact False.elim hq
   | brk=>exact False.elim hq
   | cont=>exact False.elim hq
 ·rw[hxe]at z;exact z.elim
def PBx(X:Cx)(b:List Stmt)(t:XK->TS):Prop:=
 ∀(af:List (Addr×Obj)) (s:Shared) (σ:L2.St) (H:Hp) (D:Ends) (E:XK),Inv X af σ H s->t E D σ H->wpAny (model X.prog X.w) X.A (execs b X.env) (SP X af D) (XP X af σ E) s
def ZO(K:Frag)(D j:Nat)(tb:XK->TS)(ts:TS):TS:=λEd σ H=>∃E:XK,tb E Ed σ H/\∀(c:Value) (H':Hp),E c none H'->∃(C fC:Addr) (bl:List Value) (n1:String),c=.ref C/\XCls K C fC bl n1/\bl.contains (.ref D)=true/\
 ∀e,H' e=none->ts { nx:=fun σ2 H2=>Ed.nx (σ2.set j none) H2,bk:=fun σ2 H2=>Ed.bk (σ2.set j none) H2,ct:=fun σ2 H2=>Ed.ct (σ2.set j none) H2,rt:=Ed.rt } (σ.set j (some (.ref e))) (upd H' e (excH e C))
theorem ps_catch{D fD:Addr}{bd:List Value}{n2:String}{body:List Stmt}{cl n:Str}{b0:Stmt}{suite:List Stmt}{np hpos tpos:Pos}{j:Nat}{tb:XK->TS}{ts:TS}(hex:X.ex=[])(hxe:X.xe=λ_ _=>False)
  (stk:X.stack=X.env::X.outer) (frm:X.env.frame=some X.env.locals) (cd:XCls X.K D fD bd n2) (hg:Gl X cl) (hm:X.mg cl=some (.ref D)) (hN:X.N.Nodup) (hj:X.N[j]? = some n) (hk:X.env.kindOf n=some .local)
  (hb:PBx X body tb) (hs:∀e,PSs (hdl X e) (b0::suite) ts) (hdb:(cl==("__debug__" :Str))=false:=by decide) :
  PS X (.Try body [.ExceptHandler (some (.Name cl np)) (some n) (b0::suite) hpos] [] [] tpos) (ZO X.K D j tb ts):=by
 intro af s σ H Ed I ⟨E,hbody,hcont⟩;refine wpAny_Try_except (nT (hb af s σ H Ed E I hbody) (λfl s1 h1=>?_) λv s1 h1=>?_)
 ·cases fl with
  | next=>exact wpAny_execs_nil h1
  | brk=>exact h1
  | cont=>exact h1
  | ret u=>exact h1
 ·obtain⟨H1,sc,I1,e,C,a0,H',B,rfl,hle,ho,bare,un,hok,hn,fly,cover,q⟩:=h1;obtain⟨C',fC,bl,n1,ec,c,up,hts⟩:=hcont _ _ q;cases ec;have nf:∀b o,b∈frs X.stack->s1.heap.get? b=some o->∀vs,o.data≠.fields vs:=λb o hb z=>by
   obtain⟨_,o',z',hd⟩:=fly.2.2.1.mem hb;rw[z]at z';cases z';exact hd
  have inv:∀h2:Heap,B.StaysIn h2->s1.heap.UpToSlots h2->Inv X af σ H' { s1 with heap:=h2 } :=λh2 st u2=>
   I1.call' (s':={ s1 with heap:=h2 }) ho (un_up un nf st u2 cover) (hok.kept st) bare λ_ z=>nomatch z
  have hfr:X.A.frames=some (X.env::X.outer):=by rw[<-stk];exact I.ok.frames
  rw[stk]at fly;refine wpAny_looks_onW hfr frm fly λh4 held4 up4=>?_;refine wpAny_landsW held4 λh5 fly5 up5=>?_;have I5:=inv h5 fly5.1 (up4.trans up5);obtain⟨oe,hoe,hoc⟩:=fly5.there;refine wpAny_handleBy_cons (codeAny_handlers_test (uD (X:=hdl X e) (UP I5) hg hm ?_ hdb)) (by intro z;cases z);have KI:=I5.kIn;obtain⟨hp1,g1,d1,tk1,os1⟩:=s1;refine QU KI c cd up hoe hoc ?_;refine codeAny_handlers_suite_as (lands_againW fly5 λh6 fly6 up6=>?_);have I6:=inv h6 fly6.1 ((up4.trans up5).trans up6);obtain⟨o6,h6e,h6c⟩:=fly6.there;have hsz:X.s₀.heap.objs.size<=e:=nG I1.sz hle;have hL:e≠X.env.locals:=λz=>mZ e (hX (by rw[z];exact I1.lt) hle);have I7:Inv X af σ (upd H' e (excH e C)) { (⟨hp1,g1,d1,tk1,os1⟩:Shared)with heap:=h6 } :=track hex I6 hn hsz hL (λx c z=>by obtain⟨_,o,ho,_⟩:=I1.cell x c z;exact nH (hX (nF ho) hle)) (λp z=>nH (hX (nF (I1.pin p z).1) hle)) λH=>YI h6e h6c;refine yB I7 hN hj (Or.inl hk) (v:=.ref e) rfl (λs8 I8=>?_) (.inr hk);refine nT (hs e af s8 _ _ _ (UP I8) (hts e hn)) (λfl s9 h9=>?_) λ_ _ z=>z.elim;cases fl with
  | next=>
   obtain⟨σ2,H2,I9,q9⟩:=h9;exact zU (AY I.ok I9) hN hj hk λs' I'=>⟨_,H2,I',q9⟩
  | brk=>
   obtain⟨σ2,H2,I9,q9⟩:=h9;exact zU (AY I.ok I9) hN hj hk λs' I'=>⟨_,H2,I',q9⟩
  | cont=>
   obtain⟨σ2,H2,I9,q9⟩:=h9;exact zU (AY I.ok I9) hN hj hk λs' I'=>⟨_,H2,I',q9⟩
  | ret u=>
   obtain⟨v,σ2,H2,I9,rv,q9⟩:=h9;exact zU (AY I.ok I9) hN hj hk λs' I'=>⟨v,_,H2,I',rv,q9⟩
theorem pbx_set{t:TA}{pos' pos2:Pos}{i:Nat}{y:Str}(hxe:X.xe=λ_ _=>False)(hN:X.N.Nodup)(hi:X.N[i]? = some y)(hy:X.env.scope.names.lookup y=some .local)(F:FnOk X.prog X.w X.K X.mg X.base (CXF X.prog X.w) k f fd ps sp)(hr:Room k X.A)(hg:Gl X x)(hm:X.mg x=some (.ref f))
  (hk:PySem.W.keepIn X.K (.ref f)=true) (hb:Binds X.K fd ps []) (ha:PA X (e::es) t) (hdb:(x==("__debug__" :Str))=false:=by decide) (he:starEach (e::es) X.env=(false,eval e X.env)::starEach es X.env:=by rfl)
  (hpl:(backTo pos (starEach es X.env)).any (·.1)=false:=by rfl) (hs:swapsWith (.Call (.Name x p) (e::es) [] pos) (some (.Name y pos2)) pos'.line X.env=pure false:=by rfl) :
  PBx X [.Assign [.Name y pos2] (.Call (.Name x p) (e::es) [] pos) pos'] (λE=>yO (MD sp [] E t) (qY i)):=by
 intro af s σ H D E I h;refine wpAny_execs_cons (wpAny_Assign_Name (nT (YJ hxe F hr hg hm hk hb ha I h hdb he hpl) (λv s1 ⟨z,H1,I1,r1,q1⟩=>?_) λ_ _ z=>z) hs);exact yB I1 hN hi (Or.inl hy) r1 (λs2 I2=>wpAny_execs_nil ⟨_,H1,I2,q1⟩) (.inr hy)
end
open PySem.Calls
section
variable{prog:Program}{w:World}{A:Around}{E:Value->Shared->Prop}{hp:Heap}{g:Array GenState}{d:Drawn}{tk:Nat}{os:OsState}{K:Frag}{C fC a:Addr}{bl:List Value}{n1:String}{o:Obj}
theorem ga_slot:Slot "BaseException" "__getattribute__" "BaseException.__getattribute__":=
 .of (owner:="BaseException") (n:="__getattribute__") (by rw[typeLookup_type,builtinLookup_eq_fast];kernel_rfl) (by decide +kernel) (by decide +kernel) (by decide +kernel)
  (by first | exact .inl (by decide +kernel) | exact .inr (by decide +kernel)) (by rw[isSubtype_type];kernel_rfl)
theorem YD:builtinKind "BaseException.__getattribute__" = some .slot:=by decide +kernel
theorem UR:splitId "BaseException.__getattribute__" = some ("BaseException","__getattribute__"):=by decide +kernel
theorem YN{R:Result->Shared->Prop}(KI:K.In hp)(c:XCls K C fC bl n1)(hx:hp.get? a=some o)(hc:o.cls=.ref C)(q:R (.ok (.ret (.ref C))) ⟨hp,g,d,tk,os⟩) :
  codeAny (model prog w) A (.call (.builtin "getset_descriptor.__get__") ⟨[.builtin "object.__class__",.ref a,.ref C],[]⟩) R ⟨hp,g,d,tk,os⟩:=by
 have t5:(⟨hp,g,d,tk,os⟩:Shared).TypeIs (.builtin "object.__class__") "getset_descriptor":=PySem.F.typeOf_object_class;have LS:Looks (model prog w) hp (isSubtype (.ref C) (.type (".".intercalate ("object.__class__".cutAt '.').dropLast))) true:=by
  rw[PySem.F.owner_object_class];exact looks_mroIn KI c.obj'
 refine codeAny_call_builtin PySem.F.slot_gs_get.plain PySem.F.entry_gs_get (PySem.F.slot_gs_get.check _ _ _ _ _ _ _ _ t5 (PySem.F.args_gs_get _ _ _) ?_)
 repeat (any_goals (first | assumption | (with_reducible refine wpAny_loadPart_at hx ?_;rw[hc]) | with_reducible refine LS.at ?_ | wp_step))
 refine⟨Code.quiet_builtin _ (by decide +kernel),codeAny_builtin PySem.F.entry_object_class ?_⟩
 repeat (any_goals (first | assumption | (with_reducible refine wpAny_loadPart_at hx ?_;rw[hc]) | wp_step))
theorem RA{u:Tok}{Q:Fin->Shared->Prop}(KI:K.In hp)(c:XCls K C fC bl n1)(hx:hp.get? a=some o)(hc:o.cls=.ref C)(q:Q (.done (.ret (.ref C))) ⟨hp,g,d,tk,os⟩) :
  wpAny (model prog w) A (Builtin.«object.__getattribute__» ⟨[.ref a,.str "__class__" u],[]⟩) Q E ⟨hp,g,d,tk,os⟩:=by
 have t5:(⟨hp,g,d,tk,os⟩:Shared).TypeIs (.builtin "object.__class__") "getset_descriptor":=PySem.F.typeOf_object_class;have t6:=PySem.F.typeOf_object_class;have t7:=PySem.F.slot_gs_get.lookup;have t8:=PySem.F.slot_gs_set.lookup;have L3:=looks_findIn (M:=model prog w) KI c.cl
 repeat (any_goals (first | assumption | (with_reducible refine wpAny_loadPart_at hx ?_;rw[hc]) | with_reducible refine L3.at ?_ | wp_step))
 refine YN KI c hx hc ?_
 repeat (any_goals (first | assumption | wp_step))
theorem US{M:Model}{v:Value}{Q:Unit->Shared->Prop}(LI:Looks M hp (isInstance (.ref a) (.type "BaseException")) true)(q:Q () ⟨hp,g,d,tk,os⟩) :
  wpAny M A (checkBuiltinCall "BaseException.__getattribute__" ⟨[.ref a,v],[]⟩) Q E ⟨hp,g,d,tk,os⟩:=by
 have z3:=PySem.F.args_bexc_ga (.ref a) v;simp only[checkBuiltinCall,YD,UR];refine nQ (LI.at ?_)
 repeat (first | assumption | wp_step)
theorem VM{u:Tok}{R:Result->Shared->Prop}(KI:K.In hp)(c:XCls K C fC bl n1)(hx:hp.get? a=some o)(hc:o.cls=.ref C)(q:R (.ok (.ret (.ref C))) ⟨hp,g,d,tk,os⟩) :
  codeAny (model prog w) A (.call (.builtin "BaseException.__getattribute__") ⟨[.ref a,.str "__class__" u],[]⟩) R ⟨hp,g,d,tk,os⟩:=by
 obtain⟨nm,qn,N,bs,hd,sn,sub,ab,col,dd,a0,a1,a2,a3,a5,lk'⟩:=c.obj;have oc:=KI _ _ lk';have y:(Value.ref C::bl).contains (.type "BaseException")=true:=by rw[List.contains_cons,c.isBase,Bool.or_true]
 have T0:Looks (model prog w) hp (typeOf (.ref a)) (.ref C):=by
  have z:Looks (model prog w) hp (typeOf (.ref a)) o.cls:=(Looks.ld hx).andThen .now;rw[hc]at z;exact z
 have LI:Looks (model prog w) hp (isInstance (.ref a) (.type "BaseException")) true:=by
  refine T0.andThen ?_;intro A' Q' E' s' k q';obtain⟨hp',g',d',tk',os'⟩:=s';refine wpAny_isSubtype_exc (k _ _ oc) ?_;rw[y];exact q'
 exact codeAny_call_builtin ga_slot.plain PySem.F.entry_bexc_ga (US LI (RA KI c hx hc q))
theorem cls_by{u:Tok}{Q:Value->Shared->Prop}(KI:K.In hp)(c:XCls K C fC bl n1)(hx:hp.get? a=some o)(hc:o.cls=.ref C)(q:Q (.ref C) ⟨hp,g,d,tk,os⟩) :
  wpAny (model prog w) A (getAttrBy (.ref a) (.str "__class__" u) false) Q E ⟨hp,g,d,tk,os⟩:=by
 have t3:=ga_slot.bind (.ref a);have x0:(false&&onTheHeap (Value.builtin "BaseException.__getattribute__"))=false:=rfl;have x2:(Value.builtin "BaseException.__getattribute__"==Value.builtin "object.__getattribute__")=false:=by decide +kernel
 have x1:(onTheHeap (Value.ref C)&&Value.builtin "BaseException.__getattribute__"==Value.builtin "object.__getattribute__")=false:=by rw[x2];rfl
 have L1:=looks_findIn (M:=model prog w) KI c.ga;have L2:=looks_findIn (M:=model prog w) KI c.gn
 repeat (any_goals (first | assumption | (with_reducible refine wpAny_loadPart_at hx ?_;rw[hc]) | with_reducible refine L1.at ?_ | with_reducible refine L2.at ?_ | wp_step))
 refine VM KI c hx hc ?_
 repeat (any_goals (first | assumption | wp_step))
theorem QV{Q:Option Value->Shared->Prop}(KI:K.In hp)(c:XCls K C fC bl n1)(hx:hp.get? a=some o)(hc:o.cls=.ref C)(q:Q (some (.ref C)) ⟨hp,g,d,tk+1,os⟩) :
  wpAny (model prog w) A (getAttr? (.ref a) "__class__") Q E ⟨hp,g,d,tk,os⟩:=by
 unfold getAttr? getAttrBy?
 repeat (any_goals (first | assumption | with_reducible apply cls_by KI c hx hc | wp_step))
end
theorem IZ{K:Frag}{C fC a:Addr}{bl:List Value}{n1:String}(c:XCls K C fC bl n1):KitX K (.ref a) (.ref C) (λh=>∃o,h.get? a=some o/\o.cls=.ref C) where
 ty:=λM h _ ⟨o,h1,h2⟩=>by
  have z:Looks M h (typeOf (.ref a)) o.cls:=(Looks.ld h1).andThen .now;rw[h2]at z;exact z
 it:=λM h KI _=>by
  obtain⟨nm,qn,N,bs,hd,sn,sub,ab,col,dd,a0,a1,a2,a3,a5,lk'⟩:=c.obj;intro A' Q' E' s' k q;unfold isType loadHead;exact nQ (wpAny_loadPart (k _ _ (KI _ _ lk')) (nS q))
 ne:=λh tp dd its n sl KI htp=>by
  obtain⟨nm,qn,N,bs,hd,sn,sub,ab,col,dd,a0,a1,a2,a3,a5,lk'⟩:=c.obj;refine Bool.eq_false_iff.mpr λq=>?_;have z:C=tp:=Value.ref.inj (beq_iff_eq.mp q);subst z;have y:=congrArg Obj.data (Option.some.inj ((KI _ _ lk').symm.trans htp));cases y
 ca:=fun {prog w A E Q s} KI p k=>by
  obtain⟨o,h1,h2⟩:=p;obtain⟨hp,g,d,tk,os⟩:=s;exact QV KI c h1 h2 k
def VCls:V->Value->Prop
 | .ref D,v=>v=.ref D
 | .ty T,v=>v=.type T
 | _,_=>False
theorem VCls.rel{x:V}{v u:Value}(h:VCls x v)(r:RelV x u):u=v:=by
 cases x with
 | ref D=>exact(show u=.ref D from r).trans (show v=.ref D from h).symm
 | ty T=>exact(show u=.type T from r).trans (show v=.type T from h).symm
 | _=>exact h.elim
theorem HE:∀{xs:List V} {us vs:List Value},Paired VCls xs vs->Vals xs us->us=vs
 | _,_,_,.nil,.nil=>rfl
 | _,_,_,.cons c t,.cons r s=>by rw[c.rel r,HE t s]
section
variable{X:Cx}
def rIsX(K:Frag):List V->Hp->VK->Prop:=λxs H Q=>∃(a C fC:Addr) (bl:List Value) (n1:String) (y:V) (c:Value) (b:Bool),xs=[.ref a,y]/\H a=some (excH a C)/\XCls K C fC bl n1/\VCls y c/\kitOne K (.ref C) c=some b/\Q (.bl b) H
theorem call_isX:CallR X (.builtin "isinstance") (rIsX X.K):=by
 intro af s σ H xs us Q I r h;obtain⟨a,C,fC,bl,n1,y,c,b,rfl,ha,cc,hy,hb,q⟩:=h;obtain⟨u1,u2,rfl,r1,r2⟩:=LY r;cases r1;rw[hy.rel r2];obtain⟨p,_⟩:=(show ObjOk X.prog X.w H s.heap a (excH a C)from I.hok a _ ha);exact kia_one (IZ cc) I.kIn p hb (λz=>nomatch z) λtk=>⟨.bl b,H,I.tok tk,rfl,q⟩
def rIsXT(K:Frag):List V->Hp->VK->Prop:=λxs H Q=>∃(a C fC tp:Addr) (bl:List Value) (n1:String) (ys:List V) (cs:List Value) (b:Bool),xs=[.ref a,.ref tp]/\H a=some (excH a C)/\XCls K C fC bl n1/\H tp=some (.tup ys)/\Paired VCls ys cs/\kitAny K (.ref C) cs=some b/\Q (.bl b) H
theorem call_isXT:CallR X (.builtin "isinstance") (rIsXT X.K):=by
 intro af s σ H xs us Q I r h;obtain⟨a,C,fC,tp,bl,n1,ys,cs,b,rfl,ha,cc,ht,hy,hb,q⟩:=h;obtain⟨u1,u2,rfl,r1,r2⟩:=LY r;cases r1;cases r2;obtain⟨p,_⟩:=(show ObjOk X.prog X.w H s.heap a (excH a C)from I.hok a _ ha);obtain⟨_,its,rv,it,_⟩:=(show ObjOk X.prog X.w H s.heap tp (.tup ys)from I.hok tp _ ht);have e:=HE hy rv;subst e;obtain⟨o,h1,h2,n,h3⟩:=it;obtain⟨oc,od,odt,osl⟩:=o;cases h2;cases h3;exact kia_tup (IZ cc) I.kIn p h1 hb (λz=>nomatch z) λtk=>⟨.bl b,H,I.tok tk,rfl,q⟩
end
end LwE
namespace LwE
open PySem PySem.W PySem.Spec PyProof.Rows L2 Lw
def xK(X:Cx)(E:XK)(N:List Str)(scope:Scope)(cl:List (Str×Addr))(C:Addr)(fp:List Addr)(s2:Shared)(H2:Hp):Cx:=
 { jV X N scope cl C fp s2 H2 with xe:=λv s'=>∃pns σ' H s,Inv (jV X N scope cl C fp s2 H2) pns σ' H s/\CXF X.prog X.w X.stack H s E v s' }
section
variable{X:Cx}{E:XK}{N:List Str}{sc:Scope}{cl:List (Str×Addr)}{C:Addr}{fp:List Addr}{s2:Shared}{H2:Hp}{af:List (Addr×Obj)}{σ:L2.St}{H:Hp}{s:Shared}
theorem cx_in(I:Inv (jV X N sc cl C fp s2 H2) af σ H s):Inv (xK X E N sc cl C fp s2 H2) af σ H s:=
 ⟨⟨I.ok.mod,I.ok.kind,I.ok.glob,I.ok.blt,I.ok.above,I.ok.inj,I.ok.has,I.ok.cab,I.ok.hd,I.ok.frames,I.ok.stk,I.ok.exf,I.ok.bs,I.ok.bsz,I.ok.noex,I.ok.exfs,I.ok.funs,I.ok.frf⟩,I.os,I.bare,I.base,I.loc,I.cell,I.free,I.freeC,I.pin,I.hok,I.len⟩
theorem VH(I:Inv (xK X E N sc cl C fp s2 H2) af σ H s):Inv (jV X N sc cl C fp s2 H2) af σ H s:=
 ⟨⟨I.ok.mod,I.ok.kind,I.ok.glob,I.ok.blt,I.ok.above,I.ok.inj,I.ok.has,I.ok.cab,I.ok.hd,I.ok.frames,I.ok.stk,I.ok.exf,I.ok.bs,I.ok.bsz,I.ok.noex,I.ok.exfs,I.ok.funs,I.ok.frf⟩,I.os,I.bare,I.base,I.loc,I.cell,I.free,I.freeC,I.pin,I.hok,I.len⟩
theorem pass_comp:Passes (CXF X.prog X.w) (xK X E N sc cl C fp s2 H2) E:=λaf σ H s e s' I h=>⟨af,σ,H,s,VH I,h⟩
theorem cgoX{target elt:Expr}{g:TG}{te:TE}(hg:∀C fp s2 H2,PG (xK X E N sc cl C fp s2 H2) target g)(he:∀C fp s2 H2,PE (xK X E N sc cl C fp s2 H2) elt te){σ0:L2.St}{Q:VK}(C:Addr)(fp:List Addr)(s2:Shared)(H2:Hp)(J:It)(p:Addr)(H':Hp)(R:Result->Shared->Prop)
  (hR:∀pns σ' H4 s4 v s5,Inv (jV X N sc cl C fp s2 H2) pns σ' H4 s4->CXF X.prog X.w X.stack H4 s4 E v s5->notedBy (model X.prog X.w) X.A (compEnvC sc cl C X.env) (λe s'=>R (.error e) s') v s5)
  (h:CompGoF σ0 J g te Q p H'):CGo (jV X N sc cl C fp s2 H2) σ0 J (BF X target elt (compEnvC sc cl C X.env) p R) (λH=>Q (.ref p) H) H':=by
 obtain⟨W,⟨m0,w0⟩,turn⟩:=h;have hx:∀v s5,(xK X E N sc cl C fp s2 H2).xe v s5->notedBy (model X.prog X.w) X.A (compEnvC sc cl C X.env) (λe s'=>R (.error e) s') v s5:=λv s5 ⟨pns,σ',H4,s4,I4,f4⟩=>hR pns σ' H4 s4 v s5 I4 f4;refine⟨λi m H=>∃ys,W i m ys H,⟨m0,[],w0⟩, ?_⟩;rintro i m H3 ⟨ys,w⟩;obtain⟨hp3,hz3,hw⟩:=turn i m ys H3 w;refine hw.imp id λ⟨go,step⟩=>⟨go,λx H5 y5 pns u s5 K I5 r5 hK=>?_⟩;refine nT (hg _ _ _ _ _ s5 _ H5 x u _ (cx_in I5) r5 (step x H5 y5)) (λ_ s6 ⟨σ6,H6,I6,kp6,q6⟩=>?_) hx;refine nT (he _ _ _ _ _ s6 σ6 H6 _ I6 q6) (λy s7 ⟨yv,H7,I7,r7,e7,m',hm',w7⟩=>?_) hx;refine nT (qP (X:=xK X E N sc cl C fp s2 H2) _ s7 σ6 H7 (.ref p) [yv] (.ref p) [y] (λ_ H8=>H8=upd H7 p (.lst (ys++[yv]))) I7 rfl (.cons r7 .nil) ⟨_,ys,yv,rfl,rfl,e7,hz3,rfl⟩) (λ_ s8 ⟨_,H8,I8,_,q8⟩=>?_) hx;subst q8;exact hK _ _ _ m' (VH I8) kp6 hm' ⟨_,w7⟩
end
section
variable{M:Model}{A:Around}{E:Value->Shared->Prop}{s:Shared}
theorem LH{base:Heap}{l:List Env}{e:Addr}{cls a0 fl:Value}{o:Option Addr}{Q:Unit->Shared->Prop}(hkb:base.StaysIn s.heap)(hl:s.heap.FunFrames base l)(ht:s.heap.TracedAtW base e cls a0 fl)
  (h:∀h' fl',base.StaysIn h'->h'.FunFrames base l->h'.TracedAtW base e cls a0 fl'->s.heap.UpToSlots h'->Q () { s with heap:=h' }):wpAny M A (setFlight (.ref e) o) Q E s:=by
 obtain⟨oe,vs,T,oT,ts,he,hcls,hd,h1,hnT,hTe,hT,hdT,h3⟩:=ht;have hsz3:3<ts.size:=(Array.getElem?_eq_some_iff.mp h3).1;have other:∀b,b≠T->(s.heap.update T (Obj.mapFields (·.setIfInBounds 3 (o.elim Value.none λf=>rawInt f)))).get? b=s.heap.get? b:=λb hb=>Heap.get?_update_other _ _ (Ne.symm hb);have noRecord:∀b o,s.heap.get? b=some o->(∀vs,o.data≠.fields vs)->b≠T:=λb o hb hnf q=>by
  rw[q,hT]at hb;injection hb with hb;subst hb;exact hnf ts hdT
 unfold setFlight;refine nQ (wpAny_field he hd h1 ?_);rw[nV (show(Value.ref T != Value.none)=true from by simp)];refine wpAny_setField hT hdT hsz3 (h _ (o.elim Value.none λf=>rawInt f) (λb o hbo=>(other b λq=>by rw[q,hnT]at hbo;cases hbo).trans (hkb b o hbo))
  (hl.of_keeps λb o hb hnf=>⟨o,(other b (noRecord b o hb hnf)).trans hb,rfl⟩) ?_ λb o hb hn=>⟨o.slots,(other b (noRecord b o hb hn)).trans hb⟩)
 exact⟨oe,vs,T,_,_,(other e (Ne.symm hTe)).trans he,hcls,hd,h1,hnT,hTe,Heap.get?_update_self _ hT (Obj.isFreed_of_fields (Obj.data_mapFields hdT _)),Obj.data_mapFields hdT _,by simp [hsz3]⟩
theorem QJ{base:Heap}{env:Env}{outer:List Env}{L e:Addr}{cls a0 fl:Value}{Q:Unit->Shared->Prop}(hfr:A.frames=some (env::outer))(hf:env.frame=some L)(hkb:base.StaysIn s.heap)(hen:base.get? e=none)(hl:s.heap.FunFrames base (env::outer))(ht:s.heap.TracedAtW base e cls a0 fl)
  (h:∀h',Heap.FlyingW base outer e cls a0 h'->s.heap.UpToSlots h'->Q () { s with heap:=h' }):wpAny M A (leaving env (.ref e)) Q E s:=by
 by_cases hfl:fl=rawInt L
 ·subst hfl;unfold leaving;refine nQ (wpAny_noteFrame_againW hf ht ?_);refine wpAny_landsW ⟨hkb,hen,hl,ht⟩ λh' ⟨k1,k2,⟨_,_,k3⟩,k4⟩ up=>h h' ⟨k1,k2,k3,k4⟩ up
 ·obtain⟨oe,vs,T,oT,ts,he,⟨hcls,h0⟩,hd,h1,hnT,hTe,hT,hdT,h3⟩:=ht;subst hcls;unfold leaving noteFrame;simp only[hf];refine nQ (nQ (wpAny_field he hd h1 ?_));rw[nV (show(Value.ref T != Value.none)=true from by simp)];refine nQ (wpAny_field hT hdT h3 ?_);rw[nU (show ¬((fl==rawInt L)=true)from λz=>hfl (by simpa using z))];refine nQ (wpAny_setField hT hdT (Array.getElem?_eq_some_iff.mp h3).1 ?_);have other:∀b,b≠T->(s.heap.update T (Obj.mapFields (·.setIfInBounds 3 Value.none))).get? b=s.heap.get? b:=λb hb=>Heap.get?_update_other _ _ (Ne.symm hb);have noRecord:∀b o,s.heap.get? b=some o->(∀vs,o.data≠.fields vs)->b≠T:=λb o hb hnf q=>by
   rw[q,hT]at hb;injection hb with hb;subst hb;exact hnf ts hdT
  refine wpAny_newEntryW hfr (hl.of_keeps λb o hb hnf=>⟨o,(other b (noRecord b o hb hnf)).trans hb,rfl⟩) hf ((other e (Ne.symm hTe)).trans he)
   (λb o hbo=>(other b λq=>by rw[q,hnT]at hbo;cases hbo).trans (hkb b o hbo)) hen hd (Array.getElem?_eq_some_iff.mp h1).1 h0
   λh' ⟨x1,⟨_,_,x2⟩,x3,x4⟩=>h h' ⟨x1,hen,x2,x3⟩ λb o hb hnf=>x4 b o ((other b (noRecord b o hb hnf)).trans hb) hnf
end
theorem wN{h h' B B':Heap}(k:∀b o,B'.get? b=some o->B.get? b=some o):∀{l:List Env},(∀b∈frs l,h'.get? b=h.get? b)->h.FunFrames B l->h'.FunFrames B' l
 | [],_,_=>trivial
 | v::_,g,⟨a,⟨L,o,h1,h2,h3,h4⟩,q⟩=>⟨a,⟨L,o,h1,(by
  cases q:B'.get? L with
  | none=>rfl
  | some u=>rw[k _ _ q]at h2;cases h2),(g L (List.mem_filterMap.mpr ⟨v,mC ..,h1⟩)).trans h3,h4⟩,wN k (λb hb=>g b (by obtain⟨y,m,e⟩:=List.mem_filterMap.mp hb;exact List.mem_filterMap.mpr ⟨y,gY _ m,e⟩)) q⟩
section
variable{P:Program}{w:World}{K:Frag}{mg:Str->Option Value}{base:Heap}{N0:List Str}{qual:Str}{scope:Scope}{f:Addr}{cd:Value}{A:Around}{outer:List Env}{s0:Shared}{H0:Hp}{E:XK}
abbrev cxF(P:Program)(w:World)(K:Frag)(mg:Str->Option Value)(base:Heap)(N0:List Str)(qual:Str)(scope:Scope)(f:Addr)(cd:Value)(A:Around)(outer:List Env)(s0:Shared)(H0:Hp)(E:XK):Cx:=xA (CXF P w) P w K mg base N0 qual scope f cd A outer s0 H0 E
theorem fly_ok{af:List (Addr×Obj)}{σ:L2.St}{Qc:Value->Shared->Prop}{N:List Str}{sc:Scope}{cl:List (Str×Addr)} :
  FlyOk (cxF P w K mg base N0 qual scope f cd A outer s0 H0 E) af σ none Qc (λH s v s'=>CXF P w (cxF P w K mg base N0 qual scope f cd A outer s0 H0 E).stack H s E v s') N sc cl:=by
 rintro C fp s2 H1 pns σ' H s v s' I2 f2 hC I5 ⟨e,Cl,a0,H',B,rfl,he,ho,bare,un,hok,hn,fly,cover,q⟩;have I50:Inv (jV (cxF P w K mg base N0 qual scope f cd A outer s0 H0 E) N sc cl C fp s2 H1) [] σ' H s:=I5.pins_of λp hp=>nomatch hp;obtain⟨_,IX,lt,keep⟩:=JO I2 f2 hC I50;have I6:Inv (jV (cxF P w K mg base N0 qual scope f cd A outer s0 H0 E) N sc cl C fp s2 H1) pns σ' H' s':=I5.call' ho un (hok.kept fly.1) bare λ_ z=>nomatch z;have IX':Inv (cxF P w K mg base N0 qual scope f cd A outer s0 H0 E) af σ H' s':=IX.call' ho un (hok.kept fly.1) bare λ_ z=>nomatch z;have cov:∀b o,s0.heap.get? b=some o->b∉frs outer->(∃o',B.get? b=some o')/\(H0 b=none->B.get? b=some o):=λb o z hb=>by
  have lt:=nF z;have nb:b∉frs (envOfC qual scope s0.heap.objs.size f cd::outer):=λhm=>(mY.mp hm).elim (λy=>mZ s0.heap.objs.size (by have y':b=s0.heap.objs.size:=y;rw[y']at lt;exact lt)) hb;obtain⟨o',e1⟩:=IX.base.there b o z (by show b∉[];simp);refine⟨(cover b o' e1 nb).1,λn=>?_⟩;exact(cover b o (IX.base.keep b o z n hb (by show b∉[];simp)) nb).2 (IX.base.free b o z n (by show b∉[];simp))
 have lC:s0.heap.objs.size<=C:=by
  have:=I2.sz;rw[hC];exact Nat.le_succ_of_le this
 obtain⟨f1,f3,f4,T,hT⟩:=fly;have sub:∀b o,(hideAll B [C]).get? b=some o->B.get? b=some o:=λb o z=>of_hideAll _ z;have none':∀{b},B.get? b=none->(hideAll B [C]).get? b=none:=fun {b} z=>by
  cases q:(hideAll B [C]).get? b with
  | none=>rfl
  | some u=>rw[sub _ _ q]at z;cases z
 have nC:(hideAll B [C]).get? C=none:=hideAll_none _ (mC ..);have ne':∀b o,B.get? b=some o->b≠C->(hideAll B [C]).get? b=some o:=λb o z hb=>hideAll_get _ z λhm=>hb (mB.mp hm);have fly':Heap.FlyingW (hideAll B [C]) (envOfC qual scope s0.heap.objs.size f cd::outer) e (.ref Cl) a0 s'.heap:=by
  obtain⟨vs,Tb,oT,ts,g1,g2,g3,g4,g5,g6,g7,g8,g9⟩:=hT;exact⟨λb o z=>f1 b o (sub b o z),none' f3,wN sub (λ_ _=>rfl) f4,T,vs,Tb,oT,ts,g1,g2,g3,g4,none' g5,g6,g7,g8,g9⟩
 have HC:H' C=none:=I6.free;have hok':HOk P w H' (hideAll B [C]):=λa o z=>(hok a o z).stay (λb u hb e1=>by
  rcases hb with rfl | hb
  ·exact ne' _ _ e1 (λy=>by rw[y,HC]at z;cases z)
  ·exact ne' _ _ e1 (λy=>by rw[y,HC]at hb;cases hb)) (λ_ z=>z) λ_ _ z=>z
 have cov':∀b o,s0.heap.get? b=some o->b∉frs outer->(∃o',(hideAll B [C]).get? b=some o')/\(H0 b=none->(hideAll B [C]).get? b=some o):=λb o z hb=>by
  have bC:b≠C:=λy=>by
   have:=nF z;rw[y]at this;exact absurd this (Nat.not_lt.mpr lC)
  obtain⟨⟨o',e1⟩,e2⟩:=cov b o z hb;exact⟨⟨o',ne' _ _ e1 bC⟩,λn=>ne' _ _ (e2 n) bC⟩
 obtain⟨m,hm,_⟩:=I6.loc;show wpAny (model P w) _ (noteFrame (.ref e) (envOfC qual scope s0.heap.objs.size f cd)) _ _ s';refine wpAny_looks_onW (L:=s0.heap.objs.size) IX.ok.frames rfl fly' λh1 ⟨g1,g2,g3,g4⟩ up=>?_;refine⟨m,up.ns hm,λh2 ⟨_,sb⟩ cenv _=>?_⟩;have frC:∀b∈frs (envOfC qual scope s0.heap.objs.size f cd::outer),b≠C:=λb hb=>by
  obtain⟨_,o,ho,_⟩:=I2.stack.mem hb;exact lt b (nF ho)
 have recC:∀b o vs,h1.get? b=some o->o.data=.fields vs->b≠C:=λb o vs z d y=>by
  obtain⟨oc,es,ep,hg,hd,_⟩:=up.ns hm;have hg:h1.get? C=some oc:=hg;rw[<-y,z]at hg;cases hg;rw[d]at hd;cases hd
 obtain⟨oe,vs,Tb,oT,ts,k1,k2,k3,k4,k5,k6,k7,k8,k9⟩:=g4;have k1':=(sb _ (recC _ _ _ k1 k3)).trans k1;have ht:h2.TracedAtW (hideAll B [C]) e (.ref Cl) a0 (rawInt s0.heap.objs.size):=⟨oe,vs,Tb,oT,ts,k1',k2,k3,k4,k5,k6,(sb _ (recC _ _ _ k7 k8)).trans k7,k8,k9⟩;have st2:(hideAll B [C]).StaysIn h2:=λb o z=>(sb b (λy=>by rw[y,nC]at z;cases z)).trans (g1 b o z);have ff2:h2.FunFrames (hideAll B [C]) (envOfC qual scope s0.heap.objs.size f cd::outer):=wN (λ_ _ z=>z) (λb hb=>sb b (frC b hb)) g3;show wpAny _ _ (PySem.passOn _ (.ref e) cenv) _ _ _;unfold PySem.passOn;refine nQ (wpAny_field k1' k3 k4 ?_);rw[nU (show ¬((Value.ref Tb==Value.none)=true)from by simp)];refine nQ (LH (base:=hideAll B [C]) st2 ff2 ht λh3 fl st3 ff3 ht3 up3=>?_);refine wpAny_throw ?_;show wpAny (model P w) (A.deeper (envOfC qual scope s0.heap.objs.size f cd)) (leaving (envOfC qual scope s0.heap.objs.size f cd) (.ref e)) _ _ _;refine QJ (L:=s0.heap.objs.size) (base:=hideAll B [C]) IX.ok.frames rfl st3 g2 ff3 ht3 λh4 fly4 up4=>?_;refine⟨e,Cl,a0,H',hideAll B [C],rfl,nG IX.sz he,IX'.os,IX'.bare, ?_,hok',hn,fly4,cov',q⟩;refine JU (X:=cxF P w K mg base N0 qual scope f cd A outer s0 H0 E) rfl IX' fly4.1 (λb o hb z hd=>?_) cov' (λ_ _ _ n=>n) (λ_ _ z=>z) (λ_ _ _ z=>z) (λ_ _ z=>z);obtain⟨s1,e1⟩:=up b o z hd;have e2:=(sb b (frC b (by obtain⟨y,m,e⟩:=List.mem_filterMap.mp hb;exact List.mem_filterMap.mpr ⟨y,gY _ m,e⟩))).trans e1
 obtain⟨s3,e3⟩:=up3 b _ e2 hd;exact up4 b { o with slots:=s3 } e3 hd
end
section
variable{P:Program}{w:World}{K:Frag}{mg:Str->Option Value}{base:Heap}{N0:List Str}{qual:Str}{scope0:Scope}{f:Addr}{cd:Value}{A:Around}{outer:List Env}{s0:Shared}{H0:Hp}{E:XK}
theorem pe_compX{own:Nat}{idx:List Nat}{N:List Str}{elt target iter:Expr}{scope:Scope}{cl:List (Str×Addr)}{pos:Pos}{wi:TI}{g:TG}{te:TE}(hk:scope.kind=.function)(hclos:closureFor scope (cxF P w K mg base N0 qual scope0 f cd A outer s0 H0 E).env=pure cl)(hcell:∀x∈scope.names,x.2≠.cell)(hnames:∀x∈scope.names,x.2=.local->scope.names.lookup x.1=some .local)
  (hsub:∀x c,cl.lookup x=some c->(cxF P w K mg base N0 qual scope0 f cd A outer s0 H0 E).env.cells.lookup x=some c) (hhas:∀x,((relabel scope (cxF P w K mg base N0 qual scope0 f cd A outer s0 H0 E).env).names.lookup x=some .cell∨(relabel scope (cxF P w K mg base N0 qual scope0 f cd A outer s0 H0 E).env).names.lookup x=some .free)->∃c,cl.lookup x=some c)
  (hlen:N.length=own+idx.length)
  (hidx:∀(k j:Nat) (x:Str),idx[k]? = some j->N[own+k]? = some x->(cxF P w K mg base N0 qual scope0 f cd A outer s0 H0 E).N[j]? = some x/\(cxF P w K mg base N0 qual scope0 f cd A outer s0 H0 E).env.kindOf x=some .cell/\(relabel scope (cxF P w K mg base N0 qual scope0 f cd A outer s0 H0 E).env).names.lookup x=some .cell/\(cxF P w K mg base N0 qual scope0 f cd A outer s0 H0 E).env.scope.names.lookup x=some .cell)
  (hi:PI (cxF P w K mg base N0 qual scope0 f cd A outer s0 H0 E) target iter wi) (hg:∀C fp s2 H2,PG (xK (cxF P w K mg base N0 qual scope0 f cd A outer s0 H0 E) E N scope cl C fp s2 H2) target g) (he:∀C fp s2 H2,PE (xK (cxF P w K mg base N0 qual scope0 f cd A outer s0 H0 E) E N scope cl C fp s2 H2) elt te)
  (hs:∀x,foldedSetIterable iter (cxF P w K mg base N0 qual scope0 f cd A outer s0 H0 E).env x=pure x:=by intro _;rfl):PE (xA (CXF P w) P w K mg base N0 qual scope0 f cd A outer s0 H0 E) (.ListComp elt [⟨target,iter,[],0⟩] scope pos) (KA own idx wi g te):=by
 intro af s σ H Q I h;rw[eval_ListComp];exact CU (X:=cxF P w K mg base N0 qual scope0 f cd A outer s0 H0 E) ⟨hk,hclos,hcell,hnames,hsub,hhas,hlen,hidx⟩ rfl I hi h rfl hs (data:=.seq ([]:List Value).toArray) (nO _) rfl FR (B:=BF (cxF P w K mg base N0 qual scope0 f cd A outer s0 H0 E) target elt) (λV=>yV V) codeAny_compStart_list _ fly_ok (cgoX hg he) KY
end
end LwE
namespace L2
open PySem PySem.Spec PyProof.Rows Lw
section
variable{X:Cx}
def rSumG(K:nW):List V->Hp->VK->Prop:=λxs H Q=>∃(a:Addr) (ns:List Int),xs=[.ref a]/\(SqT K H a (ns.map V.int)∨SqL K H a (ns.map V.int))/\Q (.int ns.sum) H
theorem ME{its:List Value}{ns:List Int}(i1:IntsAre its ns)(i:Nat)(v:Value)(hv:its.toArray[i]? = some v):∃t,v=.int (ns.getD i 0) t:=by
 have hv':its[i]? = some v:=by simpa using hv
 obtain⟨hi,e⟩:=gI.mp hv';obtain⟨n,t,e1,e2⟩:=CI i1 hi;exact⟨t,by rw[<-e,e2,gG,e1];rfl⟩
theorem EJ(hc:X.calm=true):CallR X (.builtin "sum") (rSumG X.K):=by
 intro af s σ H xs us Q I r h;obtain⟨a,ns,rfl,hq,q⟩:=h;obtain⟨u,rfl,ru⟩:=vI r;cases ru;have fin:∀{its:List Value} {h':Heap} {tk:Nat} {t':Tok} {o1:Obj},IntsAre its ns->(∀b o,b≠s.heap.objs.size->(s.heap.push o1).get? b=some o->h'.get? b=some o)->EP X af σ Q (.int (preSum (λi=>ns.getD i 0) its.toArray.size) t') { s with heap:=h',toks:=tk } :=fun {its h' tk t' o1} i1 k=>by
  have e:preSum (λi=>ns.getD i 0) its.toArray.size=ns.sum:=by
   rw[mF,qO i1,uZ ns _ gC,mM]
  rw[e];exact⟨.int ns.sum,H,I.kept (t':=tk) (λb o q=>k b o (nH (nF q)) (gP _ q)),⟨t',rfl⟩,q⟩
 have low:∀{o1:Obj} {b:Addr},a<s.heap.objs.size->b∈[s.heap.objs.size,a]->b<(s.heap.push o1).objs.size:=λha hb=>by
  rw[mW];simp only[mY,mL,or_false]at hb;rcases hb with rfl | rfl
  ·exact Nat.lt_succ_self _
  ·exact Nat.lt_succ_of_lt ha
 rcases hq with hq | hq
 ·obtain⟨its,rv,p,_⟩:=I.tuple hq;have ha:a<s.heap.objs.size:=by
   obtain⟨o,e,_⟩:=p;exact nF e
  refine PySem.call_sum_walkG (wpAny_pyIter_tuple (t:=a) (items:=its.toArray) p ?_);exact⟨s.heap.objs.size,_,_,_,_,_,λi=>ns.getD i 0,rfl,Walks.tuple (show X.A.in1.handled=none from I.ok.hd hc) s.heap.objs.size a (nH ha) its.toArray,⟨⟨_,hU _ rfl,rfl,rfl⟩,p.keeps λb o e=>gP _ e⟩,λb hb=>low ha hb,λi v hv=>ME (kK rv) i v hv,λh' tk t' k=>fin (kK rv) λb o hb=>k b o (by simpa using hb)⟩
 ·obtain⟨its,rv,p,_⟩:=I.list hq;have ha:a<s.heap.objs.size:=by
   obtain⟨o,e,_⟩:=p.isList;exact nF e
  refine PySem.call_sum_walkG (wpAny_pyIter_list p.isList ?_);exact⟨s.heap.objs.size,_,_,_,_,_,λi=>ns.getD i 0,rfl,Walks.list (show X.A.in1.handled=none from I.ok.hd hc) s.heap.objs.size a (nH ha) its.toArray,⟨⟨_,hU _ rfl,rfl,rfl⟩,p.isList.at λo e=>gP _ e⟩,λb hb=>low ha hb,λi v hv=>ME (kK rv) i v hv,λh' tk t' k=>fin (kK rv) λb o hb=>k b o (by simpa using hb)⟩
end
end L2
namespace LwR
open PySem PySem.W PySem.Spec PyProof.Rows
section
variable{M:Model}{A:Around}{E:Value->Shared->Prop}{σ:Type}
theorem kE{α:Type}{m:StateT σ Sem α}{Q Q':α->σ->Shared->Prop}{st:σ}{s:Shared}(h:kasC M A E m Q st s)(hq:∀a st' s',Q a st' s'->Q' a st' s'):kasC M A E m Q' st s:=
 nT h (λr s' h'=>hq _ _ _ h') λ_ _ e=>e
theorem NZ{β:Type}(f:Nat->β->StateT σ Sem (ForInStep β))(I:List Nat->β->σ->Shared->Prop)(Q:β->σ->Shared->Prop)
  (hstep:∀x rest b st s,I (x::rest) b st s->kasC M A E (f x b) (λr st' s'=>match r with | .done b'=>Q b' st' s' | .yield b'=>I rest b' st' s') st s)
  (hend:∀b st s,I [] b st s->Q b st s):∀(l:List Nat) (b:β) (st:σ) (s:Shared),I l b st s->kasC M A E (forIn l b f) Q st s
 | [],b,st,s,h=>kasC_nil (hend _ _ _ h)
 | x::rest,b,st,s,h=>by
  refine kasC_cons (kE (hstep x rest b st s h) λr st' s' h'=>?_);cases r with
  | done b'=>exact h'
  | yield b'=>exact NZ f I Q hstep hend rest b' st' s' h'
theorem kO{β:Type}{a b:Nat}{f:Nat->β->StateT σ Sem (ForInStep β)}(I:Nat->β->σ->Shared->Prop){Q:β->σ->Shared->Prop}
  (hstep:∀i c st s,a<=i->i<b->I i c st s->kasC M A E (f i c) (λr st' s'=>match r with | .done c'=>Q c' st' s' | .yield c'=>I (i+1) c' st' s') st s)
  (hend:∀c st s,I (max a b) c st s->Q c st s) {c:β} {st:σ} {s:Shared} (h:I a c st s):kasC M A E (forIn [a:b] c f) Q st s:=by
 refine kasC_range ?_;refine NZ f (λl c st s=>∃i,a<=i/\i<=max a b/\l=List.range' i (max a b-i) 1/\I i c st s) Q ?_ ?_ _ c st s ⟨a,nN _,by lia,by congr 1;lia,h⟩
 ·rintro x rest c st s ⟨i,hai,hib,hl,hI⟩;have hlt:i<max a b:=by
   rcases Nat.lt_or_ge i (max a b)with h' | h'
   ·exact h'
   ·rw[show max a b-i=0 by lia]at hl;simp at hl
  obtain⟨n,hn⟩:∃n,max a b-i=n+1:=⟨max a b-i-1,by lia⟩;rw[hn,List.range'_succ]at hl;obtain⟨rfl,rfl⟩:=List.cons.inj hl;refine kE (hstep x c st s hai (by lia) hI) λr st' s' h'=>?_;cases r with
  | done c'=>exact h'
  | yield c'=>exact⟨x+1,by lia,by lia,by congr 1;lia,h'⟩
 ·rintro c st s ⟨i,hai,hib,hl,hI⟩;have:i=max a b:=by
   rcases Nat.lt_or_ge i (max a b)with h' | h'
   ·obtain⟨n,hn⟩:∃n,max a b-i=n+1:=⟨max a b-i-1,by lia⟩;rw[hn,List.range'_succ]at hl;simp at hl
   ·lia
  subst this;exact hend _ _ _ hI
end
structure Cmp(prog:Program)(w:World)(A:Around)(κ:SortKind)(it:Array Keyed)(N:Nat)(lt:Nat->Nat->Bool)(Iv:Shared->Prop):Prop where
 ask:∀(i j:Nat) (s:Shared) (C:Bool->Shared->Prop),i<N->j<N->Iv s->(∀s',Iv s'->C (lt i j) s')->kas_cmp prog w A κ it i j C s
 o:LwD.Strict lt N
section
variable{prog:Program}{w:World}{A:Around}{E:Value->Shared->Prop}{κ:SortKind}{it:Array Keyed}{N:Nat}{lt:Nat->Nat->Bool}{Iv:Shared->Prop}{st:SortSt}{s:Shared}
theorem HJ(c:Cmp prog w A κ it N lt Iv){i j:Nat}{Q:Option Bool->SortSt->Shared->Prop}(hi:i<N)(hj:j<N)(hk:kindOf st=κ)(hs:Iv s)(h:∀s',Iv s'->Q (some (lt i j)) st s'):kasC (model prog w) A E (lt' (kas_item it i) (kas_item it j)) Q st s:=by
 rw[lt'_eq];refine kasC_bind (kasC_get ?_);rw[hk];refine kasC_bind (kasC_lift (wpAny_attempt (nT (c.ask i j s (λb s'=>b=lt i j/\Iv s') hi hj hs λs' h'=>⟨rfl,h'⟩) (λb s' hb=>?_) λ_ _ hF=>hF.elim)));obtain⟨rfl,h'⟩:=hb;exact kasC_pure (h s' h')
theorem MB{xs:Array Nat}{i:Nat}{Q:Keyed->SortSt->Shared->Prop}(hi:i<xs.size)(h:Q (kas_item it (xs.getD i 0)) st s):kasC (model prog w) A E (elem' (xs.map (kas_item it)) i) Q st s:=by
 have e:(xs.map (kas_item it))[i]? = some (kas_item it (xs.getD i 0)):=by
  have e:xs.getD i 0=xs[i]:=by simp [Array.getD,hi]
  rw[e];simp [hi]
 rw[elem'_eq,e];exact kasC_pure h
end
abbrev BA:Bool->Keyed->Array Keyed->Nat->Nat->Nat->StateT SortSt Sem (Option Nat):=sortPriv% PySem.Builtin.gallop
local macro_rules | `(tactic| trivial)=>do
 let n (s:String):=Lean.mkIdent (.str (.str (.str (.num (.str (.str (.str (.str (.str .anonymous "_private") "PySem") "Builtin") "List") "W1All") 0) "PySem") "Builtin") s)
 `(tactic| first | unfold $(n "gallop") | unfold $(n "mergeLo") | unfold $(n "mergeHi") | unfold $(n "mergeAt") | unfold $(n "setMinGallop"))
section
variable{prog:Program}{w:World}{A:Around}{E:Value->Shared->Prop}{κ:SortKind}{it:Array Keyed}{N:Nat}{lt:Nat->Nat->Bool}{Iv:Shared->Prop}{st:SortSt}{s:Shared}
def bey(lt:Nat->Nat->Bool)(left:Bool)(k:Nat)(xs:Array Nat)(base i:Nat):Bool:=if left=true then lt (xs.getD (base+i) 0) k else !lt k (xs.getD (base+i) 0)
theorem zV(c:Cmp prog w A κ it N lt Iv){left:Bool}{k:Nat}{xs:Array Nat}{base n hint:Nat}{Q:Option Nat->SortSt->Shared->Prop}(hk:kindOf st=κ)(hkN:k<N)(hx:∀i,i<xs.size->xs.getD i 0<N)(hb:base+n<=xs.size)(hh:hint<n)(hs:Iv s)
  (mono:∀i j,i<=j->j<n->bey lt left k xs base j=true->bey lt left k xs base i=true)
  (h:∀r s',Iv s'->r<=n->(∀i,i<r->bey lt left k xs base i=true)->(∀i,r<=i->i<n->bey lt left k xs base i=false)->Q (some r) st s'):kasC (model prog w) A E (BA left (kas_item it k) (xs.map (kas_item it)) base n hint) Q st s:=by
 have ask:∀{i:Nat} {s:Shared} {Q:Option Bool->SortSt->Shared->Prop},i<n->Iv s->(∀s',Iv s'->Q (some (bey lt left k xs base i)) st s')->kasC (model prog w) A E (do
   let x<-elem' (xs.map (kas_item it)) (base+i)
   if left then lt' x (kas_item it k)else return(<-lt' (kas_item it k) x).map (!·)) Q st s:=by
  intro i s Q hi hs h;refine kasC_bind (MB (by omega) ?_);unfold bey at h;cases left with
  | true=>exact HJ c (hx _ (by omega)) hkN hk hs h
  | false=>exact kasC_bind (HJ c hkN (hx _ (by omega)) hk hs λs' h'=>kasC_pure (h s' h'))
 generalize bey lt left k xs base=P at mono h ask;have anti:∀i j,i<=j->j<n->P i=false->P j=false:=λi j h1 h2 h3=>by
  cases e:P j with
  | false=>rfl
  | true=>rw[mono i j h1 h2 e]at h3;cases h3
 unfold BA
 trivial
 dsimp only;refine kasC_bind (ask hh hs λs1 hs1=>?_);dsimp only;cases ph:P hint with
 | true=>
  rw[nV rfl];refine kasC_bind (kE (kO (λx c st' s'=>st'=st/\Iv s'/\∃l o,c=(none,l,o)/\l<o/\x<o/\hint+l<n/\P (hint+l)=true) (Q:=λc st' s'=>st'=st/\Iv s'/\∃l o,c=(none,l,o)/\l<o/\hint+l<n/\P (hint+l)=true/\(hint+o<n->P (hint+o)=false)) ?a ?b ⟨rfl,hs1,0,1,rfl,by omega,by omega,hh,ph⟩) ?c);case a=>
   rintro x c st' s' _ hxn ⟨rfl,hs',l,o,rfl,a1,a2,a3,a4⟩;dsimp only;by_cases e:o ≥ n-hint
   ·rw[nV e];exact kasC_pure ⟨rfl,hs',l,o,rfl,a1,a3,a4,λz=>by omega⟩
   ·rw[nU e];refine kasC_bind (ask (by omega) hs' λs2 hs2=>?_);dsimp only;cases pe:P (hint+o)with
    | false=>exact kasC_pure ⟨rfl,hs2,l,o,rfl,a1,a3,a4,λ_=>pe⟩
    | true=>exact kasC_pure ⟨rfl,hs2,o,2*o+1,rfl,by omega,by omega,by omega,pe⟩
  case b=>
   rintro c st' s' ⟨rfl,hs',l,o,rfl,a1,a2,a3,a4⟩;exact⟨rfl,hs',l,o,rfl,a1,a3,a4,λz=>by omega⟩
  case c=>
   rintro c st' s' ⟨rfl,hs',l,o,rfl,a1,a3,a4,a5⟩;dsimp only;refine kasC_bind (kO (λx c st'' s'=>st''=st'/\Iv s'/\∃l r,c=(none,l,r)/\l<=r/\r<=n/\r-l<=n-x/\(∀i,i<l->P i=true)/\∀i,r<=i->i<n->P i=false) ?_ ?_ ⟨rfl,hs',hint+l+1,hint+min o (n-hint),rfl,by omega,by omega,by omega,λi hi=>mono i (hint+l) (by omega) a3 a4,λi hi hn=>anti (hint+o) i (by omega) hn (a5 (by omega))⟩)
   ·rintro x c st'' s' _ hxn ⟨rfl,hs',l,r,rfl,a1,a2,a3,a4,a5⟩;dsimp only;by_cases e:l ≥ r
    ·rw[nV e];exact kasC_pure (kasC_pure (h r s' hs' a2 (λi hi=>a4 i (by omega)) a5))
    ·rw[nU e];refine kasC_bind (ask (by omega) hs' λs2 hs2=>?_);dsimp only;cases pe:P (l+(r-l)/2)with
     | true=>exact kasC_pure ⟨rfl,hs2,_,_,rfl,by omega,a2,by omega,λi hi=>mono i _ (by omega) (by omega) pe,a5⟩
     | false=>exact kasC_pure ⟨rfl,hs2,_,_,rfl,by omega,by omega,by omega,a4,λi hi hn=>anti _ i hi hn pe⟩
   ·rintro c st'' s' ⟨rfl,hs',l,r,rfl,a1,a2,a3,a4,a5⟩;exact kasC_pure (h r s' hs' a2 (λi hi=>a4 i (by omega)) a5)
 | false=>
  rw[nU hW];refine kasC_bind (kE (kO (λx c st' s'=>st'=st/\Iv s'/\∃l o,c=(none,l,o)/\l<o/\x<o/\l<=hint/\P (hint-l)=false) (Q:=λc st' s'=>st'=st/\Iv s'/\∃l o,c=(none,l,o)/\l<o/\l<=hint/\P (hint-l)=false/\(o<=hint->P (hint-o)=true)) ?a ?b ⟨rfl,hs1,0,1,rfl,by omega,by omega,nO _,ph⟩) ?c);case a=>
   rintro x c st' s' _ hxn ⟨rfl,hs',l,o,rfl,a1,a2,a3,a4⟩;dsimp only;by_cases e:o ≥ hint+1
   ·rw[nV e];exact kasC_pure ⟨rfl,hs',l,o,rfl,a1,a3,a4,λz=>by omega⟩
   ·rw[nU e];refine kasC_bind (ask (by omega) hs' λs2 hs2=>?_);dsimp only;cases pe:P (hint-o)with
    | true=>exact kasC_pure ⟨rfl,hs2,l,o,rfl,a1,a3,a4,λ_=>pe⟩
    | false=>exact kasC_pure ⟨rfl,hs2,o,2*o+1,rfl,by omega,by omega,by omega,pe⟩
  case b=>
   rintro c st' s' ⟨rfl,hs',l,o,rfl,a1,a2,a3,a4⟩;exact⟨rfl,hs',l,o,rfl,a1,a3,a4,λz=>by omega⟩
  case c=>
   rintro c st' s' ⟨rfl,hs',l,o,rfl,a1,a3,a4,a5⟩;dsimp only;refine kasC_bind (kO (λx c st'' s'=>st''=st'/\Iv s'/\∃l r,c=(none,l,r)/\l<=r/\r<=n/\r-l<=n-x/\(∀i,i<l->P i=true)/\∀i,r<=i->i<n->P i=false) ?_ ?_ ⟨rfl,hs',hint+1-min o (hint+1),hint-l,rfl,by omega,by omega,by omega,λi hi=>mono i (hint-o) (by omega) (by omega) (a5 (by omega)),λi hi hn=>anti _ i hi hn a4⟩)
   ·rintro x c st'' s' _ hxn ⟨rfl,hs',l,r,rfl,a1,a2,a3,a4,a5⟩;dsimp only;by_cases e:l ≥ r
    ·rw[nV e];exact kasC_pure (kasC_pure (h r s' hs' a2 (λi hi=>a4 i (by omega)) a5))
    ·rw[nU e];refine kasC_bind (ask (by omega) hs' λs2 hs2=>?_);dsimp only;cases pe:P (l+(r-l)/2)with
     | true=>exact kasC_pure ⟨rfl,hs2,_,_,rfl,by omega,a2,by omega,λi hi=>mono i _ (by omega) (by omega) pe,a5⟩
     | false=>exact kasC_pure ⟨rfl,hs2,_,_,rfl,by omega,by omega,by omega,a4,λi hi hn=>anti _ i hi hn pe⟩
   ·rintro c st'' s' ⟨rfl,hs',l,r,rfl,a1,a2,a3,a4,a5⟩;exact kasC_pure (h r s' hs' a2 (λi hi=>a4 i (by omega)) a5)
end
abbrev qA(st:SortSt)(g:Nat):SortSt:=SortSt.mk' (kindOf st) (arrOf st) (pendingOf st) g (failedOf st)
abbrev DB:Nat->StateT SortSt Sem Unit:=sortPriv% PySem.Builtin.setMinGallop
theorem AI{M:Model}{A:Around}{E:Value->Shared->Prop}{g:Nat}{st:SortSt}{s:Shared}{Q:Unit->SortSt->Shared->Prop}(h:Q () (qA st g) s):kasC M A E (DB g) Q st s:=kasC_modify h
abbrev IR:Array Keyed->Array Keyed->StateT SortSt Sem (Array Keyed):=sortPriv% PySem.Builtin.mergeLo
abbrev IS:Array Keyed->Array Keyed->StateT SortSt Sem (Array Keyed):=sortPriv% PySem.Builtin.mergeHi
section
variable{prog:Program}{w:World}{A:Around}{E:Value->Shared->Prop}{κ:SortKind}{it:Array Keyed}{N:Nat}{lt:Nat->Nat->Bool}{Iv:Shared->Prop}{st:SortSt}{s:Shared}
def kA(it:Array Keyed)(xs:List Nat):Array Keyed:=(xs.map (kas_item it)).toArray
theorem qL(xs:List Nat):(kA it xs).size=xs.length:=by simp [kA]
theorem wL(xs:List Nat):kA it xs=xs.toArray.map (kas_item it):=by simp [kA]
theorem zQ(xs ys:List Nat):kA it xs++kA it ys=kA it (xs++ys):=by simp [kA]
theorem OB(xs:List Nat)(i:Nat):(kA it xs).push (kas_item it i)=kA it (xs++[i]):=by simp [kA]
theorem zP(xs:List Nat)(i j:Nat):(kA it xs).extract i j=kA it ((xs.drop i).take (j-i)):=by
 apply Array.toList_inj.mp;simp [kA,List.map_drop,List.map_take]
theorem LA(xs:List Nat):(kA it xs).reverse=kA it xs.reverse:=by
 apply Array.toList_inj.mp;simp [kA]
theorem qR{xs:List Nat}{i:Nat}{Q:Keyed->SortSt->Shared->Prop}(hi:i<xs.length)(h:Q (kas_item it (xs.getD i 0)) st s):kasC (model prog w) A E (elem' (kA it xs) i) Q st s:=by
 rw[wL];refine MB (by simpa using hi) ?_;have e:xs.toArray.getD i 0=xs.getD i 0:=by simp [Array.getD_eq_getD_getElem?,gG]
 rw[e];exact h
theorem OA(xs:List Nat)(i:Nat):(kA it xs).extract i (kA it xs).size=kA it (xs.drop i):=by
 rw[zP,qL]
 congr 1
 exact gQ (by rw[List.length_drop];lia)
end
abbrev Rl(lt:Nat->Nat->Bool)(a b:Nat):Prop:=lt a b=true
structure MG(N:Nat)(lt:Nat->Nat->Bool)(xs ys:List Nat):Prop where
 o:LwD.Strict lt N
 nd:(xs++ys).Nodup
 bd:∀z∈xs++ys,z<N
 px:xs.Pairwise (Rl lt)
 py:ys.Pairwise (Rl lt)
theorem vD{xs:List Nat}{i:Nat}(h:i<xs.length):xs.getD i 0∈xs:=by
 have e:xs.getD i 0=xs[i]:=by simp [gG,h]
 rw[e];exact List.getElem_mem h
theorem qG{lt:Nat->Nat->Bool}{xs:List Nat}(p:xs.Pairwise (Rl lt)){i j:Nat}(h:i<j)(hj:j<xs.length):lt (xs.getD i 0) (xs.getD j 0)=true:=by
 have e:∀k,k<xs.length->xs.getD k 0=xs[k]! :=λk hk=>by simp [gG,hk]
 have e1:xs.getD i 0=xs[i]'(by lia):=by simp [gG,show i<xs.length by lia]
 have e2:xs.getD j 0=xs[j]:=by simp [gG,hj]
 rw[e1,e2];exact List.pairwise_iff_getElem.mp p i j (by lia) hj h
theorem QW{xs:List Nat}{i:Nat}(h:i<xs.length):xs.drop i=xs.getD i 0::xs.drop (i+1):=by
 have e:xs.getD i 0=xs[i]:=by simp [gG,h]
 rw[e];exact List.drop_eq_getElem_cons h
theorem kJ{xs:List Nat}{i z:Nat}(h:z∈xs.drop i):∃j,i<=j/\j<xs.length/\z=xs.getD j 0:=by
 obtain⟨k,hk,e⟩:=List.mem_iff_getElem.mp h;rw[List.length_drop]at hk;refine⟨i+k,by lia,by lia, ?_⟩;rw[<-e,List.getElem_drop];simp [gG,show i+k<xs.length by lia]
section
variable{N:Nat}{lt:Nat->Nat->Bool}{xs ys:List Nat}
theorem MG.xN(g:MG N lt xs ys){i:Nat}(h:i<xs.length):xs.getD i 0<N:=g.bd _ (List.mem_append_left _ (vD h))
theorem MG.yN(g:MG N lt xs ys){i:Nat}(h:i<ys.length):ys.getD i 0<N:=g.bd _ (gS _ (vD h))
theorem MG.ne(g:MG N lt xs ys){i j:Nat}(hi:i<xs.length)(hj:j<ys.length):xs.getD i 0≠ys.getD j 0:=(mI.mp g.nd).2.2 _ (vD hi) _ (vD hj)
theorem MG.ab(g:MG N lt xs ys){i j:Nat}(hi:i<xs.length)(hj:j<ys.length)(h:lt (ys.getD j 0) (xs.getD i 0)=false):lt (xs.getD i 0) (ys.getD j 0)=true:=g.o.tot _ _ (g.yN hj) (g.xN hi) (λz=>g.ne hi hj z.symm) h
structure MI(lt:Nat->Nat->Bool)(xs ys zs:List Nat)(ia ib:Nat):Prop where
 pm:(zs++xs.drop ia++ys.drop ib).Perm (xs++ys)
 ra:(zs++xs.drop ia).Pairwise (Rl lt)
 rb:(zs++ys.drop ib).Pairwise (Rl lt)
theorem MI.pushA(g:MG N lt xs ys){zs:List Nat}{ia ib:Nat}(m:MI lt xs ys zs ia ib)(k:Nat)(hb:ib<ys.length)(h:∀i,i<k->lt (xs.getD (ia+i) 0) (ys.getD ib 0)=true):MI lt xs ys (zs++(xs.drop ia).take k) (ia+k) ib:=by
 have e:xs.drop ia=(xs.drop ia).take k++xs.drop (ia+k):=by rw[<-List.drop_drop,List.take_append_drop]
 have ra:=m.ra;have pm:=m.pm;rw[e,<-List.append_assoc]at ra pm;refine⟨pm,ra, ?_⟩;rw[List.append_assoc,List.pairwise_append];have rb:=List.pairwise_append.mp m.rb;have ra':=List.pairwise_append.mp (List.pairwise_append.mp ra).1;have lo:∀a∈(xs.drop ia).take k,∀b∈ys.drop ib,lt a b=true:=λa ha b hb'=>by
  obtain⟨q,hq,e⟩:=List.mem_iff_getElem.mp ha;rw[mK,List.length_drop]at hq;have ea:a=xs.getD (ia+q) 0:=by
   rw[<-e,List.getElem_take,List.getElem_drop];simp [gG,show ia+q<xs.length by lia]
  have h1:=h q (by lia);rw[<-ea]at h1;obtain⟨j,j1,j2,rfl⟩:=kJ hb';by_cases z:ib=j
  ·rw[<-z];exact h1
  ·exact g.o.tr _ _ _ h1 (qG g.py (by lia) j2)
 refine⟨ra'.1,List.pairwise_append.mpr ⟨ra'.2.1,rb.2.1,lo⟩,λa ha b hb=>?_⟩;rcases mS.mp hb with hb | hb
 ·exact ra'.2.2 a ha b hb
 ·exact rb.2.2 a ha b hb
theorem MI.pushB(g:MG N lt xs ys){zs:List Nat}{ia ib:Nat}(m:MI lt xs ys zs ia ib)(k:Nat)(ha:ia<xs.length)(h:∀i,i<k->lt (ys.getD (ib+i) 0) (xs.getD ia 0)=true):MI lt xs ys (zs++(ys.drop ib).take k) ia (ib+k):=by
 have e:ys.drop ib=(ys.drop ib).take k++ys.drop (ib+k):=by rw[<-List.drop_drop,List.take_append_drop]
 have rb:=m.rb;rw[e,<-List.append_assoc]at rb;refine⟨?_, ?_,rb⟩
 ·refine List.Perm.trans ?_ m.pm;rw[List.append_assoc,List.append_assoc,List.append_assoc];refine List.Perm.append_left _ ?_
  conv=>rhs;rw[e]
  rw[<-List.append_assoc,<-List.append_assoc];exact List.Perm.append_right _ List.perm_append_comm
 ·rw[List.append_assoc,List.pairwise_append];have ra:=List.pairwise_append.mp m.ra;have rb':=List.pairwise_append.mp (List.pairwise_append.mp rb).1;have lo:∀b∈(ys.drop ib).take k,∀a∈xs.drop ia,lt b a=true:=λb hb a ha'=>by
   obtain⟨q,hq,e⟩:=List.mem_iff_getElem.mp hb;rw[mK,List.length_drop]at hq;have eb:b=ys.getD (ib+q) 0:=by
    rw[<-e,List.getElem_take,List.getElem_drop];simp [gG,show ib+q<ys.length by lia]
   have h1:=h q (by lia);rw[<-eb]at h1;obtain⟨j,j1,j2,rfl⟩:=kJ ha';by_cases z:ia=j
   ·rw[<-z];exact h1
   ·exact g.o.tr _ _ _ h1 (qG g.px (by lia) j2)
  refine⟨rb'.1,List.pairwise_append.mpr ⟨rb'.2.1,ra.2.1,lo⟩,λa ha b hb=>?_⟩;rcases mS.mp hb with hb | hb
  ·exact rb'.2.2 a ha b hb
  ·exact ra.2.2 a ha b hb
theorem DO{xs:List Nat}{i:Nat}(h:i<xs.length):(xs.drop i).take 1=[xs.getD i 0]:=by rw[QW h];rfl
theorem MI.a1(g:MG N lt xs ys){zs:List Nat}{ia ib:Nat}(m:MI lt xs ys zs ia ib)(ha:ia<xs.length)(hb:ib<ys.length)(h:lt (xs.getD ia 0) (ys.getD ib 0)=true):MI lt xs ys (zs++[xs.getD ia 0]) (ia+1) ib:=by
 rw[<-DO ha];exact m.pushA g 1 hb λi hi=>by rw[show ia+i=ia by lia];exact h
theorem MI.b1(g:MG N lt xs ys){zs:List Nat}{ia ib:Nat}(m:MI lt xs ys zs ia ib)(ha:ia<xs.length)(hb:ib<ys.length)(h:lt (ys.getD ib 0) (xs.getD ia 0)=true):MI lt xs ys (zs++[ys.getD ib 0]) ia (ib+1):=by
 rw[<-DO hb];exact m.pushB g 1 ha λi hi=>by rw[show ib+i=ib by lia];exact h
structure MF(lt:Nat->Nat->Bool)(xs ys zs:List Nat):Prop where
 pm:zs.Perm (xs++ys)
 pw:zs.Pairwise (Rl lt)
theorem MI.doneB{zs:List Nat}{ia ib:Nat}(m:MI lt xs ys zs ia ib)(h:ys.length<=ib):MF lt xs ys (zs++xs.drop ia++ys.drop ib):=by
 refine⟨m.pm, ?_⟩;rw[List.drop_eq_nil_of_le h,List.append_nil];exact m.ra
theorem MI.lastA{zs:List Nat}{ia ib:Nat}(m:MI lt xs ys zs ia ib)(h:ia+1=xs.length)(l:∀j,j<ys.length->lt (ys.getD j 0) (xs.getD (xs.length-1) 0)=true):MF lt xs ys (zs++ys.drop ib++xs.drop ia):=by
 refine⟨?_, ?_⟩
 ·refine List.Perm.trans ?_ m.pm;rw[List.append_assoc,List.append_assoc];exact List.Perm.append_left _ List.perm_append_comm
 ·rw[List.pairwise_append];refine⟨m.rb,(List.pairwise_append.mp m.ra).2.1,λa ha b hb=>?_⟩;obtain⟨j,j1,j2,rfl⟩:=kJ hb;rcases mS.mp ha with ha | ha
  ·exact(List.pairwise_append.mp m.ra).2.2 a ha _ hb
  ·obtain⟨i,i1,i2,rfl⟩:=kJ ha;rw[show j=xs.length-1 by lia];exact l i i2
end
local macro_rules | `(tactic| trivial)=>do
 let n (s:String):=Lean.mkIdent (.str (.str (.str (.num (.str (.str (.str (.str (.str .anonymous "_private") "PySem") "Builtin") "List") "W1All") 0) "PySem") "Builtin") s)
 `(tactic| first | unfold $(n "gallop") | unfold $(n "mergeLo") | unfold $(n "mergeHi") | unfold $(n "mergeAt") | unfold $(n "setMinGallop"))
section
variable{prog:Program}{w:World}{A:Around}{E:Value->Shared->Prop}{κ:SortKind}{it:Array Keyed}{N:Nat}{lt:Nat->Nat->Bool}{Iv:Shared->Prop}{st:SortSt}{s:Shared}{xs ys:List Nat}
theorem AX(zs:List Nat)(i j:Nat):kA it zs++(kA it xs).extract i (kA it xs).size++(kA it ys).extract j (kA it ys).size=kA it (zs++xs.drop i++ys.drop j):=by rw[OA,OA,zQ,zQ]
theorem bey_f(g:MG N lt xs ys){ia:Nat}{key:Nat}(hk:key<N)(i j:Nat)(hij:i<=j)(hj:ia+j<xs.length)(h:bey lt false key xs.toArray ia j=true):bey lt false key xs.toArray ia i=true:=by
 have e:∀k,xs.toArray.getD k 0=xs.getD k 0:=λk=>by simp [Array.getD_eq_getD_getElem?,gG]
 have h1:lt key (xs.getD (ia+j) 0)=false:=by
  have h:(!lt key (xs.toArray.getD (ia+j) 0))=true:=h;rw[e]at h;simpa using h
 show(!lt key (xs.toArray.getD (ia+i) 0))=true;rw[e];cases q:lt key (xs.getD (ia+i) 0)with
 | false=>rfl
 | true=>
  by_cases z:i=j
  ·rw[z,h1]at q;cases q
  ·rw[g.o.tr _ _ _ q (qG g.px (by lia) hj)]at h1;cases h1
theorem bey_t(g:MG N lt xs ys){ib:Nat}{key:Nat}(i j:Nat)(hij:i<=j)(hj:ib+j<ys.length)(h:bey lt true key ys.toArray ib j=true):bey lt true key ys.toArray ib i=true:=by
 have e:∀k,ys.toArray.getD k 0=ys.getD k 0:=λk=>by simp [Array.getD_eq_getD_getElem?,gG]
 have h1:lt (ys.getD (ib+j) 0) key=true:=by
  have h:lt (ys.toArray.getD (ib+j) 0) key=true:=h
  rwa [e]at h
 show lt (ys.toArray.getD (ib+i) 0) key=true;rw[e];by_cases z:i=j
 ·rw[z];exact h1
 ·exact g.o.tr _ _ _ (qG g.py (by lia) hj) h1
theorem MA(c:Cmp prog w A κ it N lt Iv)(g:MG N lt xs ys){j ia n hint:Nat}{Q:Option Nat->SortSt->Shared->Prop}(hk:kindOf st=κ)(hj:j<ys.length)(hn:ia+n<=xs.length)(hh:hint<n)(hs:Iv s)
  (h:∀r s',Iv s'->r<=n->(∀i,i<r->lt (xs.getD (ia+i) 0) (ys.getD j 0)=true)->(∀i,r<=i->i<n->lt (ys.getD j 0) (xs.getD (ia+i) 0)=true)->Q (some r) st s'):kasC (model prog w) A E (BA false (kas_item it (ys.getD j 0)) (kA it xs) ia n hint) Q st s:=by
 have e:∀k,xs.toArray.getD k 0=xs.getD k 0:=λk=>by simp [Array.getD_eq_getD_getElem?,gG]
 rw[wL];refine zV c hk (g.yN hj) (λi hi=>by rw[e];exact g.xN (by simpa using hi)) (by simpa using hn) hh hs (λi i' h1 h2 h3=>bey_f g (g.yN hj) i i' h1 (by lia) h3) λr s' hs' hr h1 h2=>h r s' hs' hr (λi hi=>?_) λi hi hi'=>?_
 ·have q:(!lt (ys.getD j 0) (xs.toArray.getD (ia+i) 0))=true:=h1 i hi;rw[e]at q;exact g.ab (by lia) hj (by simpa using q)
 ·have q:(!lt (ys.getD j 0) (xs.toArray.getD (ia+i) 0))=false:=h2 i hi hi';rw[e]at q;simpa using q
theorem LZ(c:Cmp prog w A κ it N lt Iv)(g:MG N lt xs ys){j ib n hint:Nat}{Q:Option Nat->SortSt->Shared->Prop}(hk:kindOf st=κ)(hj:j<xs.length)(hn:ib+n<=ys.length)(hh:hint<n)(hs:Iv s)
  (h:∀r s',Iv s'->r<=n->(∀i,i<r->lt (ys.getD (ib+i) 0) (xs.getD j 0)=true)->(∀i,r<=i->i<n->lt (xs.getD j 0) (ys.getD (ib+i) 0)=true)->Q (some r) st s'):kasC (model prog w) A E (BA true (kas_item it (xs.getD j 0)) (kA it ys) ib n hint) Q st s:=by
 have e:∀k,ys.toArray.getD k 0=ys.getD k 0:=λk=>by simp [Array.getD_eq_getD_getElem?,gG]
 rw[wL];refine zV c hk (g.xN hj) (λi hi=>by rw[e];exact g.yN (by simpa using hi)) (by simpa using hn) hh hs (λi i' h1 h2 h3=>bey_t g i i' h1 (by lia) h3) λr s' hs' hr h1 h2=>h r s' hs' hr (λi hi=>?_) λi hi hi'=>?_
 ·have q:lt (ys.toArray.getD (ib+i) 0) (xs.getD j 0)=true:=h1 i hi
  rwa [e]at q
 ·have q:lt (ys.toArray.getD (ib+i) 0) (xs.getD j 0)=false:=h2 i hi hi';rw[e]at q;exact g.ab hj (by lia) q
def MFin(it:Array Keyed)(lt:Nat->Nat->Bool)(xs ys:List Nat)(Iv:Shared->Prop)(st:SortSt)(c:Option (Array Keyed))(st':SortSt)(s':Shared):Prop:=∃zs g',c=some (kA it zs)/\st'=qA st g'/\Iv s'/\MF lt xs ys zs
theorem MFin.doneB{zs:List Nat}{ia ib g':Nat}{s':Shared}(hs':Iv s')(m:MI lt xs ys zs ia ib)(e:ib=ys.length):MFin it lt xs ys Iv st (some (kA it zs++(kA it xs).extract ia xs.length++(kA it ys).extract ib ys.length)) (qA st g') s':=by
 have q:=AX (it:=it) (xs:=xs) (ys:=ys) zs ia ib;rw[qL,qL]at q;exact⟨_,g',by rw[q],rfl,hs',m.doneB (nM e.symm)⟩
theorem MFin.lastA{zs:List Nat}{ia ib g':Nat}{s':Shared}(hs':Iv s')(m:MI lt xs ys zs ia ib)(e:ia+1=xs.length)(l:∀j,j<ys.length->lt (ys.getD j 0) (xs.getD (xs.length-1) 0)=true):MFin it lt xs ys Iv st (some (kA it zs++(kA it ys).extract ib ys.length++(kA it xs).extract ia xs.length)) (qA st g') s':=by
 have q:=AX (it:=it) (xs:=ys) (ys:=xs) zs ib ia;rw[qL,qL]at q;exact⟨_,g',by rw[q],rfl,hs',m.lastA e l⟩
inductive LoI{τ:Type}(it:Array Keyed)(lt:Nat->Nat->Bool)(xs ys:List Nat)(Iv:Shared->Prop)(st:SortSt)(n:Nat):(Option (Array Keyed)×Array Keyed×Nat×Nat×τ)->SortSt->Shared->Prop
 | mk {zs:List Nat} {ia ib g':Nat} {r:τ} {s':Shared} (hs:Iv s') (m:MI lt xs ys zs ia ib) (a:ia+1<xs.length) (b:ib<ys.length) (n1:n<=ia+ib):LoI it lt xs ys Iv st n (none,kA it zs,ia,ib,r) (qA st g') s'
theorem HI{α:Type}{x:StateT SortSt Sem α}{Q:α->SortSt->Shared->Prop}{β γ:Type}(C:β->γ->Prop)(F:β->γ->StateT SortSt Sem α)(h1:(∀a b,C a b->kasC (model prog w) A E (F a b) Q st s)->kasC (model prog w) A E x Q st s)(h2:∀a b,C a b->kasC (model prog w) A E (F a b) Q st s):kasC (model prog w) A E x Q st s:=h1 h2
theorem II{α:Type}{x:StateT SortSt Sem α}{Q:α->SortSt->Shared->Prop}{β:Type}(C:β->Prop)(F:β->StateT SortSt Sem α)(h1:(∀a,C a->kasC (model prog w) A E (F a) Q st s)->kasC (model prog w) A E x Q st s)(h2:∀a,C a->kasC (model prog w) A E (F a) Q st s):kasC (model prog w) A E x Q st s:=h1 h2
theorem NO{α:Type}{x:StateT SortSt Sem α}{Q:α->SortSt->Shared->Prop}{β:Type}(F:β->StateT SortSt Sem α)(h1:(∀a,kasC (model prog w) A E (F a) Q st s)->kasC (model prog w) A E x Q st s)(h2:∀a,kasC (model prog w) A E (F a) Q st s):kasC (model prog w) A E x Q st s:=h1 h2
theorem kM{α:Type}{c:Prop}{i:Decidable c}{a b:StateT SortSt Sem α}{Q:α->SortSt->Shared->Prop}(h:c)(k:kasC (model prog w) A E a Q st s):kasC (model prog w) A E (@ite _ c i a b) Q st s:=by
 rw[nV h];exact k
theorem kH{α:Type}{c:Prop}{i:Decidable c}{a b:StateT SortSt Sem α}{Q:α->SortSt->Shared->Prop}(h:¬c)(k:kasC (model prog w) A E b Q st s):kasC (model prog w) A E (@ite _ c i a b) Q st s:=by
 rw[nU h];exact k
theorem ts_lo(c:Cmp prog w A κ it N lt Iv)(g:MG N lt xs ys){Q:Array Keyed->SortSt->Shared->Prop}(hk:kindOf st=κ)(x0:0<xs.length)(y0:0<ys.length)(h0:lt (ys.getD 0 0) (xs.getD 0 0)=true)(hl:∀j,j<ys.length->lt (ys.getD j 0) (xs.getD (xs.length-1) 0)=true)(hs:Iv s)
  (h:∀zs g' s',Iv s'->MF lt xs ys zs->Q (kA it zs) (qA st g') s'):kasC (model prog w) A E (IR (kA it xs) (kA it ys)) Q st s:=by
 have fin:∀{zs:List Nat} {ia ib g':Nat} {s':Shared},Iv s'->MI lt xs ys zs ia ib->ib=ys.length->Q (kA it zs++(kA it xs).extract ia (kA it xs).size++(kA it ys).extract ib (kA it ys).size) (qA st g') s':=λhs' m e=>by
  rw[AX];exact h _ _ _ hs' (m.doneB (nM e.symm))
 have fla:∀{zs:List Nat} {ia ib g':Nat} {s':Shared},Iv s'->MI lt xs ys zs ia ib->ia+1=xs.length->Q (kA it zs++(kA it ys).extract ib (kA it ys).size++(kA it xs).extract ia (kA it xs).size) (qA st g') s':=λhs' m e=>by
  rw[AX];exact h _ _ _ hs' (m.lastA e hl)
 have m0:MI lt xs ys [] 0 0:=⟨List.Perm.refl _,g.px,g.py⟩;have m1:MI lt xs ys [ys.getD 0 0] 0 1:=m0.b1 g x0 y0 h0;have es:∀zs:List Nat,∀i,(kA it zs).push (kas_item it i)=kA it (zs++[i]):=OB;have e1:(#[kas_item it (ys.getD 0 0)]:Array Keyed)=kA it [ys.getD 0 0]:=rfl;unfold IR
 trivial
 refine kasC_bind (kasC_lift (wpAny_rule ?_));dsimp only;rw[qL,qL];generalize hb:(λ(x:Nat) (r:Option (Array Keyed)×Array Keyed×Nat×Nat×Nat)=>(_:StateT SortSt Sem (ForInStep (Option (Array Keyed)×Array Keyed×Nat×Nat×Nat))))=f;refine kasC_bind (qR y0 ?_);rw[e1];by_cases c1:1=ys.length
 ·refine kM (beq_iff_eq.mpr c1) ?_;have:=fin (g':=gallopOf st) hs m1 c1;rw[qL,qL]at this;exact kasC_pure this
 ·refine kH (λz=>c1 (beq_iff_eq.mp z)) ?_;by_cases c2:0+1=xs.length
  ·refine kM (beq_iff_eq.mpr c2) ?_;have:=fla (g':=gallopOf st) hs m1 c2;rw[qL,qL]at this;exact kasC_pure this
  ·refine kH (λz=>c2 (beq_iff_eq.mp z)) ?_;refine kasC_bind (kasC_get ?_);refine kasC_bind (kE (kO (λx c st' s'=>LoI it lt xs ys Iv st (x+1) c st' s')
    (Q:=λc st' s'=>MFin it lt xs ys Iv st c.1 st' s') ?step ?fin (.mk hs m1 (by lia) (by lia) (by lia))) ?post)
   case fin=>
    rintro c st' s' ⟨hs',m,a1,b1,n1⟩
    lia
   case post=>
    rintro c st' s' ⟨zs,g',e,rfl,hs',f⟩;obtain⟨c1,c2⟩:=c;have e:c1=some (kA it zs):=e;subst e;exact kasC_pure (h zs g' s' hs' f)
   case step=>
    rintro x c st' s' _ hx ⟨hs',m,a1,b1,n1⟩;rename_i zs ia ib g' mg;subst hb;dsimp only;generalize hb2:(λ(x:Nat) (r:Option (Array Keyed)×Array Keyed×Nat×Nat×Nat×Nat)=>(_:StateT SortSt Sem (ForInStep (Option (Array Keyed)×Array Keyed×Nat×Nat×Nat×Nat))))=f2;generalize hb3:(λ(x:Nat) (r:Option (Array Keyed)×Array Keyed×Nat×Nat×Nat×Nat×Nat)=>(_:StateT SortSt Sem (ForInStep (Option (Array Keyed)×Array Keyed×Nat×Nat×Nat×Nat×Nat))))=f3;refine kasC_bind (kE (kO (λx' c st' s'=>LoI it lt xs ys Iv st (x+1+x') c st' s')
     (Q:=λc st' s'=>MFin it lt xs ys Iv st c.1 st' s'∨LoI it lt xs ys Iv st (x+2) c st' s') ?istep ?ifin (.mk hs' m a1 b1 n1)) ?ipost)
    case ifin=>
     rintro c st' s' ⟨hs',m,a1,b1,n1⟩
     lia
    case istep=>
     clear hs' m a1 b1 n1;rintro x' c st' s' _ hx' ⟨hs',m,a1,b1,n1⟩;rename_i zs ia ib g' r;obtain⟨ac,bc⟩:=r;subst hb2;dsimp only;refine kasC_bind (qR b1 (kasC_bind (qR (by lia) ?_)));refine kasC_bind (HJ c (g.yN b1) (g.xN (by lia)) hk hs' λs2 hs2=>?_);dsimp only;cases q:lt (ys.getD ib 0) (xs.getD ia 0)with
     | true=>
      have m2:=m.b1 g (by lia) b1 q;refine kM rfl ?_;refine kasC_bind (qR b1 ?_);rw[es];by_cases e:ib+1=ys.length
      ·refine kM (beq_iff_eq.mpr e) ?_;exact kasC_pure (.inl (MFin.doneB hs2 m2 e))
      ·refine kH (λz=>e (beq_iff_eq.mp z)) ?_;split
       ·exact kasC_pure (.inr (.mk hs2 m2 a1 (by lia) (by lia)))
       ·exact kasC_pure (.mk hs2 m2 a1 (by lia) (by lia))
     | false=>
      have m2:=m.a1 g (by lia) b1 (g.ab (by lia) b1 q);refine kH hW ?_;refine kasC_bind (qR (by lia) ?_);rw[es];by_cases e:ia+1+1=xs.length
      ·refine kM (beq_iff_eq.mpr e) ?_;exact kasC_pure (.inl (MFin.lastA hs2 m2 e hl))
      ·refine kH (λz=>e (beq_iff_eq.mp z)) ?_;split
       ·exact kasC_pure (.inr (.mk hs2 m2 (by lia) b1 (by lia)))
       ·exact kasC_pure (.mk hs2 m2 (by lia) b1 (by lia))
    case ipost=>
     clear hs' m a1 b1 n1;rintro c st' s' (⟨zs,g',e,rfl,hs',f⟩ | ⟨hs',m,a1,b1,n1⟩)
     ·obtain⟨c1,c2⟩:=c;have e:c1=some (kA it zs):=e;subst e;exact kasC_pure ⟨zs,g',rfl,rfl,hs',f⟩
     ·dsimp only;refine kasC_bind (kasC_lift (wpAny_rule ?_));refine kasC_bind (kE (kO (λ_ c st' s'=>LoI it lt xs ys Iv st (x+2) c st' s')
       (Q:=λc st' s'=>MFin it lt xs ys Iv st c.1 st' s'∨LoI it lt xs ys Iv st (x+2) c st' s') ?gstep (λ_ _ _ z=>.inr z) (.mk hs' m a1 b1 n1)) ?gpost)
      case gpost=>
       clear hs' m a1 b1 n1;rintro c st' s' (⟨zs,g',e,rfl,hs',f⟩ | ⟨hs',m,a1,b1,n1⟩)
       ·obtain⟨c1,c2⟩:=c;have e:c1=some (kA it zs):=e;subst e;exact kasC_pure ⟨zs,g',rfl,rfl,hs',f⟩
       ·rename_i zs ia ib g' r;obtain⟨mg,ac,bc⟩:=r;dsimp only;exact kasC_bind (AI (kasC_pure (.mk hs' m a1 b1 (by lia))))
      case gstep=>
       clear hs' m a1 b1 n1;rintro x' c st' s' _ _ ⟨hs',m,a1,b1,n1⟩;rename_i zs ia ib g' r;obtain⟨mg,ac,bc⟩:=r;subst hb3;dsimp only;apply NO (β:=Nat);case h1=>
        intro key;by_cases e0:mg>1
        ·refine kM e0 ?_;generalize mg-1=mg2;exact key mg2
        ·refine kH e0 ?_;exact key mg
       intro mg2;refine kasC_bind (AI ?_);refine kasC_bind (qR b1 ?_);refine kasC_bind (MA c g (ia:=ia) (n:=xs.length-ia) hk b1 (by lia) (by lia) hs' λk s2 hs2 k1 k2 k3=>?_);dsimp only;have kl:ia+k+1<=xs.length:=by
        rcases Nat.lt_or_ge (ia+k) xs.length with z | z
        ·exact z
        ·have q1:=k2 (xs.length-1-ia) (by lia);rw[show ia+(xs.length-1-ia)=xs.length-1 by lia]at q1;have q2:=hl ib b1;rw[g.o.as _ _ q1]at q2;cases q2
       have hh:=k3 k gC (by lia);apply HI (β:=List Nat) (γ:=Nat) (C:=λzs2 ja=>MI lt xs ys zs2 ja ib/\ja+1<xs.length/\x+2<=ja+ib/\lt (ys.getD ib 0) (xs.getD ja 0)=true);case h1=>
        intro key;by_cases e1:k>0
        ·have ex:kA it zs++(kA it xs).extract ia (ia+k)=kA it (zs++(xs.drop ia).take k):=by rw[zP,Nat.add_sub_cancel_left,zQ]
         have m2:=m.pushA g k b1 k2;refine kM e1 ?_;rw[ex];by_cases e2:ia+k+1=xs.length
         ·refine kM (beq_iff_eq.mpr e2) ?_;exact kasC_pure (.inl (MFin.lastA hs2 m2 e2 hl))
         refine kH (λz=>e2 (beq_iff_eq.mp z)) (kH (λz=>by have:=beq_iff_eq.mp z;lia) ?_);have cc:MI lt xs ys _ (ia+k) ib/\ia+k+1<xs.length/\x+2<=ia+k+ib/\lt (ys.getD ib 0) (xs.getD (ia+k) 0)=true:=⟨m2,by lia,by lia,hh⟩;generalize zs++(xs.drop ia).take k=zs2 at cc;generalize ia+k=ja at cc;exact key zs2 ja cc
        ·obtain rfl:k=0:=by lia
         refine kH e1 ?_;exact key zs ia ⟨m,a1,n1,hh⟩
       rintro zs2 ja ⟨m2,kk,n2,hh⟩;clear m a1 n1 k1 k2 k3 kl;try dsimp only
       refine kasC_bind (qR b1 ?_);rw[es];have m3:=m2.b1 g (by lia) b1 hh;by_cases e3:ib+1=ys.length
       ·refine kM (beq_iff_eq.mpr e3) ?_;exact kasC_pure (.inl (MFin.doneB hs2 m3 e3))
       refine kH (λz=>e3 (beq_iff_eq.mp z)) ?_;refine kasC_bind (qR (Nat.lt_of_succ_lt kk) ?_);refine kasC_bind (LZ c g (ib:=ib+1) (n:=ys.length-(ib+1)) hk (Nat.lt_of_succ_lt kk) (by lia) (by lia) hs2 λr s3 hs3 r1 r2 r3=>?_);dsimp only;apply HI (β:=List Nat) (γ:=Nat) (C:=λzs4 jb=>MI lt xs ys zs4 (ja+1) jb/\jb<ys.length/\x+2<=ja+1+jb);case h1=>
        intro key;by_cases e4:r>0
        ·have ex2:kA it (zs2++[ys.getD ib 0])++(kA it ys).extract (ib+1) (ib+1+r)=kA it (zs2++[ys.getD ib 0]++(ys.drop (ib+1)).take r):=by rw[zP,Nat.add_sub_cancel_left,zQ]
         have m4:=m3.pushB g r (Nat.lt_of_succ_lt kk) r2;refine kM e4 ?_;rw[ex2];by_cases e5:ib+1+r=ys.length
         ·refine kM (beq_iff_eq.mpr e5) ?_;exact kasC_pure (.inl (MFin.doneB hs3 m4 e5))
         refine kH (λz=>e5 (beq_iff_eq.mp z)) ?_;refine kasC_bind (qR (Nat.lt_of_succ_lt kk) ?_);rw[es];have cc:=And.intro (m4.a1 g (Nat.lt_of_succ_lt kk) (show ib+1+r<ys.length by lia) (r3 _ gC (by lia))) (And.intro (show ib+1+r<ys.length by lia) (show x+2<=ja+1+(ib+1+r) by lia));generalize zs2++[ys.getD ib 0]++(ys.drop (ib+1)).take r++[xs.getD ja 0]=zs4 at cc;generalize ib+1+r=jb at cc;exact key zs4 jb cc
        ·obtain rfl:r=0:=by lia
         refine kH e4 ?_;refine kasC_bind (qR (Nat.lt_of_succ_lt kk) ?_);rw[es];exact key _ (ib+1) ⟨m3.a1 g (Nat.lt_of_succ_lt kk) (by lia) (r3 0 gC (by lia)),by lia,by lia⟩
       rintro zs4 jb ⟨m5,bb,n5⟩;try dsimp only
       split
       ·rename_i e6;exact kasC_pure (.inl (MFin.lastA hs3 m5 (beq_iff_eq.mp e6) hl))
       ·rename_i e6;have e7:=mt beq_iff_eq.mpr e6;split
        ·exact kasC_pure (.inr (.mk hs3 m5 (by lia) bb (by lia)))
        ·exact kasC_pure (.mk hs3 m5 (by lia) bb (by lia))
end
theorem kZ{xs:List Nat}{n z:Nat}(h:z∈xs.take n):∃j,j<n/\j<xs.length/\z=xs.getD j 0:=by
 obtain⟨k,hk,e⟩:=List.mem_iff_getElem.mp h;rw[mK]at hk;refine⟨k,by lia,by lia, ?_⟩;rw[<-e,List.getElem_take];simp [gG,show k<xs.length by lia]
theorem yS{xs:List Nat}{a n z:Nat}(h:z∈(xs.drop a).take n):∃j,a<=j/\j<a+n/\j<xs.length/\z=xs.getD j 0:=by
 obtain⟨k,hk,e⟩:=List.mem_iff_getElem.mp h;rw[mK,List.length_drop]at hk;refine⟨a+k,by lia,by lia,by lia, ?_⟩;rw[<-e,List.getElem_take,List.getElem_drop];simp [gG,show a+k<xs.length by lia]
theorem wP{xs:List Nat}{a n:Nat}(h:a<=n):xs.take n=xs.take a++(xs.drop a).take (n-a):=by
 conv=>lhs;rw[show n=a+(n-a) by lia,List.take_add]
structure MJ(lt:Nat->Nat->Bool)(xs ys zs:List Nat)(na nb:Nat):Prop where
 pm:(xs.take na++ys.take nb++zs).Perm (xs++ys)
 ra:(xs.take na++zs).Pairwise (Rl lt)
 rb:(ys.take nb++zs).Pairwise (Rl lt)
section
variable{N:Nat}{lt:Nat->Nat->Bool}{xs ys:List Nat}
theorem MJ.pushA(g:MG N lt xs ys){zs:List Nat}{na nb a:Nat}(m:MJ lt xs ys zs na nb)(ha:a<=na)(nb0:0<nb)(hb:nb<=ys.length)(h:∀i,a<=i->i<na->lt (ys.getD (nb-1) 0) (xs.getD i 0)=true):MJ lt xs ys ((xs.drop a).take (na-a)++zs) a nb:=by
 have ra:=m.ra;have pm:=m.pm;rw[wP ha]at ra pm;rw[List.append_assoc]at ra;refine⟨?_,ra, ?_⟩
 ·refine List.Perm.trans ?_ pm;rw[List.append_assoc,List.append_assoc,List.append_assoc];refine List.Perm.append_left _ ?_;rw[<-List.append_assoc,<-List.append_assoc];exact List.Perm.append_right _ List.perm_append_comm
 ·have ra':=List.pairwise_append.mp (List.pairwise_append.mp ra).2.1;have rb:=List.pairwise_append.mp m.rb;refine List.pairwise_append.mpr ⟨rb.1,(List.pairwise_append.mp ra).2.1,λy hy z hz=>?_⟩;rcases mS.mp hz with hz | hz
  ·obtain⟨j,j1,j2,rfl⟩:=kZ hy;obtain⟨i,i1,i2,i3,rfl⟩:=yS hz;have h1:=h i i1 (by lia);by_cases z:j=nb-1
   ·rw[z];exact h1
   ·exact g.o.tr _ _ _ (qG g.py (by lia) (by lia)) h1
  ·exact rb.2.2 y hy z hz
theorem MJ.pushB(g:MG N lt xs ys){zs:List Nat}{na nb b:Nat}(m:MJ lt xs ys zs na nb)(hb:b<=nb)(na0:0<na)(ha:na<=xs.length)(h:∀i,b<=i->i<nb->lt (xs.getD (na-1) 0) (ys.getD i 0)=true):MJ lt xs ys ((ys.drop b).take (nb-b)++zs) na b:=by
 have rb:=m.rb;have pm:=m.pm;rw[wP hb]at rb pm;rw[List.append_assoc]at rb;refine⟨?_, ?_,rb⟩
 ·refine List.Perm.trans ?_ pm;simp only[List.append_assoc];exact List.Perm.refl _
 ·have rb':=List.pairwise_append.mp (List.pairwise_append.mp rb).2.1;have ra:=List.pairwise_append.mp m.ra;refine List.pairwise_append.mpr ⟨ra.1,(List.pairwise_append.mp rb).2.1,λy hy z hz=>?_⟩;rcases mS.mp hz with hz | hz
  ·obtain⟨j,j1,j2,rfl⟩:=kZ hy;obtain⟨i,i1,i2,i3,rfl⟩:=yS hz;have h1:=h i i1 (by lia);by_cases z:j=na-1
   ·rw[z];exact h1
   ·exact g.o.tr _ _ _ (qG g.px (by lia) (by lia)) h1
  ·exact ra.2.2 y hy z hz
theorem mid1{xs:List Nat}{n:Nat}(h0:0<n)(h:n<=xs.length):(xs.drop (n-1)).take (n-(n-1))=[xs.getD (n-1) 0]:=by
 rw[show n-(n-1)=1 by lia];exact DO (by lia)
theorem MJ.a1(g:MG N lt xs ys){zs:List Nat}{na nb:Nat}(m:MJ lt xs ys zs na nb)(na0:0<na)(ha:na<=xs.length)(nb0:0<nb)(hb:nb<=ys.length)(h:lt (ys.getD (nb-1) 0) (xs.getD (na-1) 0)=true):MJ lt xs ys (xs.getD (na-1) 0::zs) (na-1) nb:=by
 have:=m.pushA g (Nat.sub_le na 1) nb0 hb λi h1 h2=>by rw[show i=na-1 by lia];exact h
 rwa [mid1 na0 ha]at this
theorem MJ.b1(g:MG N lt xs ys){zs:List Nat}{na nb:Nat}(m:MJ lt xs ys zs na nb)(na0:0<na)(ha:na<=xs.length)(nb0:0<nb)(hb:nb<=ys.length)(h:lt (xs.getD (na-1) 0) (ys.getD (nb-1) 0)=true):MJ lt xs ys (ys.getD (nb-1) 0::zs) na (nb-1):=by
 have:=m.pushB g (Nat.sub_le nb 1) na0 ha λi h1 h2=>by rw[show i=nb-1 by lia];exact h
 rwa [mid1 nb0 hb]at this
theorem MJ.doneA{zs:List Nat}{na nb:Nat}(m:MJ lt xs ys zs na nb)(h:na=0):MF lt xs ys (xs.take na++ys.take nb++zs):=by
 refine⟨m.pm, ?_⟩;rw[h,List.take_zero,List.nil_append];exact m.rb
theorem MJ.firstB(g:MG N lt xs ys){zs:List Nat}{na nb:Nat}(m:MJ lt xs ys zs na nb)(h:nb=1)(x0:0<xs.length)(l:lt (ys.getD 0 0) (xs.getD 0 0)=true):MF lt xs ys (ys.take nb++xs.take na++zs):=by
 refine⟨?_, ?_⟩
 ·refine List.Perm.trans ?_ m.pm;exact List.Perm.append_right _ List.perm_append_comm
 ·have rb:=List.pairwise_append.mp m.rb;rw[List.append_assoc];refine List.pairwise_append.mpr ⟨rb.1,m.ra,λy hy z hz=>?_⟩;rcases mS.mp hz with hz | hz
  ·obtain⟨j,j1,j2,rfl⟩:=kZ hy;obtain⟨i,i1,i2,rfl⟩:=kZ hz;rw[show j=0 by lia];by_cases z:i=0
   ·rw[z];exact l
   ·exact g.o.tr _ _ _ l (qG g.px (by lia) i2)
  ·exact rb.2.2 y hy z hz
end
local macro_rules | `(tactic| trivial)=>do
 let n (s:String):=Lean.mkIdent (.str (.str (.str (.num (.str (.str (.str (.str (.str .anonymous "_private") "PySem") "Builtin") "List") "W1All") 0) "PySem") "Builtin") s)
 `(tactic| first | unfold $(n "gallop") | unfold $(n "mergeLo") | unfold $(n "mergeHi") | unfold $(n "mergeAt") | unfold $(n "setMinGallop"))
section
variable{prog:Program}{w:World}{A:Around}{E:Value->Shared->Prop}{κ:SortKind}{it:Array Keyed}{N:Nat}{lt:Nat->Nat->Bool}{Iv:Shared->Prop}{st:SortSt}{s:Shared}{xs ys:List Nat}
theorem JB(os:List Nat)(i j:Nat):(kA it xs).extract 0 i++(kA it ys).extract 0 j++(kA it os).reverse=kA it (xs.take i++ys.take j++os.reverse):=by rw[zP,zP,LA,zQ,zQ];rfl
theorem MFin.doneA{os:List Nat}{na nb g':Nat}{s':Shared}(hs':Iv s')(m:MJ lt xs ys os.reverse na nb)(e:na=0):MFin it lt xs ys Iv st (some ((kA it xs).extract 0 na++(kA it ys).extract 0 nb++(kA it os).reverse)) (qA st g') s':=⟨_,g',by rw[JB],rfl,hs',m.doneA e⟩
theorem MFin.firstB(g:MG N lt xs ys){os:List Nat}{na nb g':Nat}{s':Shared}(hs':Iv s')(m:MJ lt xs ys os.reverse na nb)(e:nb=1)(x0:0<xs.length)(l:lt (ys.getD 0 0) (xs.getD 0 0)=true):MFin it lt xs ys Iv st (some ((kA it ys).extract 0 nb++(kA it xs).extract 0 na++(kA it os).reverse)) (qA st g') s':=⟨_,g',by rw[JB],rfl,hs',m.firstB g e x0 l⟩
inductive HiI{τ:Type}(it:Array Keyed)(lt:Nat->Nat->Bool)(xs ys:List Nat)(Iv:Shared->Prop)(st:SortSt)(n:Nat):(Option (Array Keyed)×Nat×Nat×Array Keyed×τ)->SortSt->Shared->Prop
 | mk {os:List Nat} {na nb g':Nat} {r:τ} {s':Shared} (hs:Iv s') (m:MJ lt xs ys os.reverse na nb) (a:0<na/\na<=xs.length) (b:1<nb/\nb<=ys.length) (n1:n+na+nb<=xs.length+ys.length):HiI it lt xs ys Iv st n (none,na,nb,kA it os,r) (qA st g') s'
theorem ts_hi(c:Cmp prog w A κ it N lt Iv)(g:MG N lt xs ys){Q:Array Keyed->SortSt->Shared->Prop}(hk:kindOf st=κ)(x0:0<xs.length)(y0:0<ys.length)(h0:lt (ys.getD 0 0) (xs.getD 0 0)=true)(hl:∀j,j<ys.length->lt (ys.getD j 0) (xs.getD (xs.length-1) 0)=true)(hs:Iv s)
  (h:∀zs g' s',Iv s'->MF lt xs ys zs->Q (kA it zs) (qA st g') s'):kasC (model prog w) A E (IS (kA it xs) (kA it ys)) Q st s:=by
 have out:∀{c:Option (Array Keyed)} {st':SortSt} {s':Shared},MFin it lt xs ys Iv st c st' s'->∃r,c=some r/\Q r st' s':=λ⟨zs,g',e,e2,hs',f⟩=>⟨_,e,by rw[e2];exact h zs g' _ hs' f⟩;have m0:MJ lt xs ys [] xs.length ys.length:=by
  refine⟨?_, ?_, ?_⟩<;>simp only[mM,List.append_nil]
  ·exact List.Perm.refl _
  ·exact g.px
  ·exact g.py
 have m1:MJ lt xs ys ([xs.getD (xs.length-1) 0]:List Nat).reverse (xs.length-1) ys.length:=m0.a1 g x0 gC y0 gC (hl _ (by lia));have es:∀zs:List Nat,∀i,(kA it zs).push (kas_item it i)=kA it (zs++[i]):=OB;have er:∀(os:List Nat) (i:Nat),(os++[i]).reverse=i::os.reverse:=λos i=>by rw[List.reverse_append];rfl
 have e1:(#[kas_item it (xs.getD (xs.length-1) 0)]:Array Keyed)=kA it [xs.getD (xs.length-1) 0]:=rfl;unfold IS
 trivial
 refine kasC_bind (kasC_lift (wpAny_rule ?_));dsimp only;rw[qL,qL];generalize hb:(λ(x:Nat) (r:Option (Array Keyed)×Nat×Nat×Array Keyed×Nat)=>(_:StateT SortSt Sem (ForInStep (Option (Array Keyed)×Nat×Nat×Array Keyed×Nat))))=f;refine kasC_bind (qR (by lia) ?_);rw[e1];by_cases c1:xs.length-1=0
 ·refine kM (beq_iff_eq.mpr c1) ?_;obtain⟨r,e,q⟩:=out (MFin.doneA (g':=gallopOf st) hs m1 c1);cases e;exact kasC_pure q
 ·refine kH (λz=>c1 (beq_iff_eq.mp z)) ?_;by_cases c2:ys.length=1
  ·refine kM (beq_iff_eq.mpr c2) ?_;obtain⟨r,e,q⟩:=out (MFin.firstB g (g':=gallopOf st) hs m1 c2 x0 h0);cases e;exact kasC_pure q
  ·refine kH (λz=>c2 (beq_iff_eq.mp z)) ?_;refine kasC_bind (kasC_get ?_);refine kasC_bind (kE (kO (a:=0) (b:=xs.length+ys.length) (λx c st' s'=>HiI it lt xs ys Iv st (x+1) c st' s')
    (Q:=λc st' s'=>MFin it lt xs ys Iv st c.1 st' s') ?step ?fin (.mk hs m1 ⟨by lia,by lia⟩ ⟨by lia,by lia⟩ (by lia))) ?post)
   case fin=>
    rintro c st' s' ⟨hs',m,a1,b1,n1⟩
    lia
   case post=>
    rintro c st' s' f;obtain⟨c1,c2⟩:=c;obtain⟨r,e,q⟩:=out f;have e:c1=some r:=e;subst e;exact kasC_pure q
   case step=>
    rintro x c st' s' _ hx ⟨hs',m,a1,b1,n1⟩;rename_i os na nb g' mg;subst hb;dsimp only;generalize hb2:(λ(x:Nat) (r:Option (Array Keyed)×Nat×Nat×Array Keyed×Nat×Nat)=>(_:StateT SortSt Sem (ForInStep (Option (Array Keyed)×Nat×Nat×Array Keyed×Nat×Nat))))=f2;generalize hb3:(λ(x:Nat) (r:Option (Array Keyed)×Nat×Nat×Array Keyed×Nat×Nat×Nat)=>(_:StateT SortSt Sem (ForInStep (Option (Array Keyed)×Nat×Nat×Array Keyed×Nat×Nat×Nat))))=f3;refine kasC_bind (kE (kO (λx' c st' s'=>HiI it lt xs ys Iv st (x+1+x') c st' s')
     (Q:=λc st' s'=>MFin it lt xs ys Iv st c.1 st' s'∨HiI it lt xs ys Iv st (x+2) c st' s') ?istep ?ifin (.mk hs' m a1 b1 n1)) ?ipost)
    case ifin=>
     rintro c st' s' ⟨hs',m,a1,b1,n1⟩
     lia
    case istep=>
     clear hs' m a1 b1 n1;rintro x' c st' s' _ hx' ⟨hs',m,a1,b1,n1⟩;rename_i os na nb g' r;obtain⟨ac,bc⟩:=r;subst hb2;dsimp only;refine kasC_bind (qR (by lia) (kasC_bind (qR (by lia) ?_)));refine kasC_bind (HJ c (g.yN (by lia)) (g.xN (by lia)) hk hs' λs2 hs2=>?_);dsimp only;cases q:lt (ys.getD (nb-1) 0) (xs.getD (na-1) 0)with
     | true=>
      have m2:=m.a1 g a1.1 a1.2 (by lia) b1.2 q;rw[<-er]at m2;refine kM rfl ?_;refine kasC_bind (qR (by lia) ?_);rw[es];by_cases e:na-1=0
      ·refine kM (beq_iff_eq.mpr e) ?_;exact kasC_pure (.inl (MFin.doneA hs2 m2 e))
      ·refine kH (λz=>e (beq_iff_eq.mp z)) ?_;split
       ·exact kasC_pure (.inr (.mk hs2 m2 ⟨by lia,by lia⟩ b1 (by lia)))
       ·exact kasC_pure (.mk hs2 m2 ⟨by lia,by lia⟩ b1 (by lia))
     | false=>
      have m2:=m.b1 g a1.1 a1.2 (by lia) b1.2 (g.ab (by lia) (by lia) q);rw[<-er]at m2;refine kH hW ?_;refine kasC_bind (qR (by lia) ?_);rw[es];by_cases e:nb-1=1
      ·refine kM (beq_iff_eq.mpr e) ?_;exact kasC_pure (.inl (MFin.firstB g hs2 m2 e x0 h0))
      ·refine kH (λz=>e (beq_iff_eq.mp z)) ?_;split
       ·exact kasC_pure (.inr (.mk hs2 m2 a1 ⟨by lia,by lia⟩ (by lia)))
       ·exact kasC_pure (.mk hs2 m2 a1 ⟨by lia,by lia⟩ (by lia))
    case ipost=>
     clear hs' m a1 b1 n1;rintro c st' s' (f | ⟨hs',m,a1,b1,n1⟩)
     ·obtain⟨c1,c2⟩:=c;obtain⟨zs,g',e,e2,hs',f⟩:=f;have e:c1=some (kA it zs):=e;subst e e2;exact kasC_pure ⟨zs,g',rfl,rfl,hs',f⟩
     ·dsimp only;refine kasC_bind (kasC_lift (wpAny_rule ?_));refine kasC_bind (kE (kO (λ_ c st' s'=>HiI it lt xs ys Iv st (x+2) c st' s')
       (Q:=λc st' s'=>MFin it lt xs ys Iv st c.1 st' s'∨HiI it lt xs ys Iv st (x+2) c st' s') ?gstep (λ_ _ _ z=>.inr z) (.mk hs' m a1 b1 n1)) ?gpost)
      case gpost=>
       clear hs' m a1 b1 n1;rintro c st' s' (f | ⟨hs',m,a1,b1,n1⟩)
       ·obtain⟨c1,c2⟩:=c;obtain⟨zs,g',e,e2,hs',f⟩:=f;have e:c1=some (kA it zs):=e;subst e e2;exact kasC_pure ⟨zs,g',rfl,rfl,hs',f⟩
       ·rename_i os na nb g' r;obtain⟨mg,ac,bc⟩:=r;dsimp only;exact kasC_bind (AI (kasC_pure (.mk hs' m a1 b1 (by lia))))
      case gstep=>
       clear hs' m a1 b1 n1;rintro x' c st' s' _ _ ⟨hs',m,a1,b1,n1⟩;rename_i os na nb g' r;obtain⟨mg,ac,bc⟩:=r;subst hb3;dsimp only;apply NO (β:=Nat);case h1=>
        intro key;by_cases e0:mg>1
        ·refine kM e0 ?_;generalize mg-1=mg2;exact key mg2
        ·refine kH e0 ?_;exact key mg
       intro mg2;refine kasC_bind (AI ?_);refine kasC_bind (qR (by lia) ?_);refine kasC_bind (MA c g (ia:=0) (n:=na) hk (show nb-1<ys.length by lia) (by lia) (by lia) hs' λk s2 hs2 k1 k2 k3=>?_);dsimp only;simp only[Nat.zero_add]at k2 k3;apply II (β:=List Nat) (C:=λos2=>MJ lt xs ys os2.reverse k nb/\(0<k/\k<=xs.length)/\x+2+k+nb<=xs.length+ys.length);case h1=>
        intro key;by_cases e1:na-k>0
        ·have m2:=m.pushA g k1 (by lia) b1.2 k3;have ex:kA it os++((kA it xs).extract k na).reverse=kA it (os++((xs.drop k).take (na-k)).reverse):=by rw[zP,LA,zQ]
         have eo:(xs.drop k).take (na-k)++os.reverse=(os++((xs.drop k).take (na-k)).reverse).reverse:=by rw[List.reverse_append,List.reverse_reverse]
         rw[eo]at m2;refine kM e1 ?_;rw[ex];by_cases e2:k=0
         ·refine kM (beq_iff_eq.mpr e2) ?_;exact kasC_pure (.inl (MFin.doneA hs2 m2 e2))
         refine kH (λz=>e2 (beq_iff_eq.mp z)) ?_;generalize os++((xs.drop k).take (na-k)).reverse=os2 at m2;exact key os2 ⟨m2,by lia,by lia⟩
        ·obtain rfl:k=na:=by lia
         refine kH e1 ?_;exact key os ⟨m,a1,n1⟩
       rintro os2 ⟨m2,aa,n2⟩;have h5:=k2 (k-1) (by lia);clear m a1 n1 k1 k2 k3;try dsimp only
       have m3:=m2.b1 g aa.1 aa.2 (by lia) b1.2 h5;rw[<-er]at m3;refine kasC_bind (qR (by lia) ?_);rw[es];by_cases e3:nb-1=1
       ·refine kM (beq_iff_eq.mpr e3) ?_;exact kasC_pure (.inl (MFin.firstB g hs2 m3 e3 x0 h0))
       refine kH (λz=>e3 (beq_iff_eq.mp z)) ?_;refine kasC_bind (qR (by lia) ?_);refine kasC_bind (LZ c g (ib:=0) (n:=nb-1) hk (show _-1<xs.length by lia) (by lia) (by lia) hs2 λr s3 hs3 r1 r2 r3=>?_);dsimp only;simp only[Nat.zero_add]at r2 r3;have rp:0<r:=by
        rcases Nat.eq_zero_or_pos r with z | z
        ·have q1:=r3 0 (by lia) (by lia);have q2:lt (ys.getD 0 0) (xs.getD (k-1) 0)=true:=by
          by_cases w:k-1=0
          ·rw[w];exact h0
          ·exact g.o.tr _ _ _ h0 (qG g.px (by lia) (by lia))
         rw[g.o.as _ _ q1]at q2;cases q2
        ·exact z
       generalize os2++[ys.getD (nb-1) 0]=os3 at m3;apply II (β:=List Nat) (C:=λos4=>MJ lt xs ys os4.reverse k r/\(1<r/\r<=ys.length));case h1=>
        intro key;by_cases e4:nb-1-r>0
        ·have m4:=m3.pushB g r1 aa.1 aa.2 r3;have ex2:kA it os3++((kA it ys).extract r (nb-1)).reverse=kA it (os3++((ys.drop r).take (nb-1-r)).reverse):=by rw[zP,LA,zQ]
         have eo2:(ys.drop r).take (nb-1-r)++os3.reverse=(os3++((ys.drop r).take (nb-1-r)).reverse).reverse:=by rw[List.reverse_append,List.reverse_reverse]
         rw[eo2]at m4;refine kM e4 ?_;rw[ex2];by_cases e5:r=1
         ·refine kM (beq_iff_eq.mpr e5) ?_;exact kasC_pure (.inl (MFin.firstB g hs3 m4 e5 x0 h0))
         refine kH (λz=>e5 (beq_iff_eq.mp z)) (kH (λz=>by have:=beq_iff_eq.mp z;lia) ?_);generalize os3++((ys.drop r).take (nb-1-r)).reverse=os4 at m4;exact key os4 ⟨m4,by lia⟩
        ·obtain rfl:r=nb-1:=by lia
         refine kH e4 ?_;exact key os3 ⟨m3,by lia⟩
       rintro os4 ⟨m4,bb⟩;have h6:=r2 (r-1) (by lia);have n3:x+3+k+r<=xs.length+ys.length:=by lia
       clear m2 m3 n2 r1 r2 r3;try dsimp only
       have m5:=m4.a1 g aa.1 aa.2 (by lia) bb.2 h6;rw[<-er]at m5;refine kasC_bind (qR (by lia) ?_);rw[es];split
       ·rename_i e6;exact kasC_pure (.inl (MFin.doneA hs3 m5 (beq_iff_eq.mp e6)))
       ·rename_i e6;have e7:=mt beq_iff_eq.mpr e6;split
        ·exact kasC_pure (.inr (.mk hs3 m5 ⟨by lia,by lia⟩ bb (by lia)))
        ·exact kasC_pure (.mk hs3 m5 ⟨by lia,by lia⟩ bb (by lia))
end
theorem ZS(i d a:Nat)(h:a<d):i+(d-1-a)=i+(i+d)-1-(i+a):=by lia
theorem ZR(i d a:Nat)(h:¬a<d):i+d+(a-d)=i+a:=by lia
theorem NW{α:Type}{ps:List α}{i d:Nat}(hj:i+d<=ps.length):(ps.take i).length=i/\((ps.drop i).take d).length=d:=⟨List.length_take_of_le (nG (Nat.le_add_right ..) hj),List.length_take_of_le (by rw[List.length_drop];exact Nat.le_sub_of_add_le (by rw[Nat.add_comm];exact hj))⟩
theorem UC{α:Type}(ps:List α){i j:Nat}(hij:i<=j)(hj:j<=ps.length)(k:Nat):(ps.take i++(((ps.drop i).take (j-i)).reverse++ps.drop j))[k]? = if i<=k/\k<j then ps[i+j-1-k]? else ps[k]? :=by
 obtain⟨d,rfl⟩:=Nat.exists_eq_add_of_le hij;rw[Nat.add_sub_cancel_left];obtain⟨l1,l3⟩:=NW hj;by_cases h1:k<i
 ·rw[gJ (by rw[l1];exact h1),gM h1,nU (λz=>Nat.not_le.mpr h1 z.1)]
 ·obtain⟨a,rfl⟩:=Nat.exists_eq_add_of_le (Nat.le_of_not_lt h1);rw[gH (by rw[l1];exact Nat.le_add_right ..),l1,Nat.add_sub_cancel_left];by_cases h2:a<d
  ·rw[gJ (by rw[List.length_reverse,l3];exact h2),nV ⟨Nat.le_add_right ..,Nat.add_lt_add_left h2 i⟩,List.getElem?_reverse (by rw[l3];exact h2),l3,gM (hV (Nat.sub_le ..) (Nat.sub_lt (Nat.zero_lt_of_lt h2) Nat.one_pos)),List.getElem?_drop,ZS i d a h2]
  ·rw[gH (by rw[List.length_reverse,l3];exact Nat.le_of_not_lt h2),List.length_reverse,l3,nU (λz=>h2 (Nat.lt_of_add_lt_add_left z.2)),List.getElem?_drop,ZR i d a h2]
theorem ZQ(l d b:Nat)(h:¬b<d):l+d+1+(b-d)=l+(b+1):=by lia
theorem UF{α:Type}(ps:List α){l k:Nat}(h:l<=k)(hk:k<ps.length)(q:Nat):(ps.take l++(ps[k]::((ps.drop l).take (k-l)++ps.drop (k+1))))[q]? = if q=l then ps[k]? else if l<q/\q<=k then ps[q-1]? else ps[q]? :=by
 obtain⟨d,rfl⟩:=Nat.exists_eq_add_of_le h;rw[Nat.add_sub_cancel_left];obtain⟨l1,l3⟩:=NW (nJ hk);by_cases h1:q<l
 ·rw[gJ (by rw[l1];exact h1),gM h1,nU (nH h1),nU (λz=>Nat.lt_asymm h1 z.1)]
 ·obtain⟨b,rfl⟩:=Nat.exists_eq_add_of_le (Nat.le_of_not_lt h1);rw[gH (by rw[l1];exact Nat.le_add_right ..),l1,Nat.add_sub_cancel_left];cases b with
  | zero=>rw[nV (nK l),List.getElem?_cons_zero,gK hk]
  | succ b=>
   have lt:l<l+(b+1):=Nat.lt_add_of_pos_right (Nat.succ_pos b);rw[nU (Nat.ne_of_gt lt),gO];by_cases h3:b<d
   ·rw[gJ (by rw[l3];exact h3),nV ⟨lt,Nat.add_le_add_left h3 l⟩,gM h3,List.getElem?_drop]
    rfl
   ·rw[gH (by rw[l3];exact Nat.le_of_not_lt h3),l3,nU (λz=>h3 (Nat.le_of_add_le_add_left z.2)),List.getElem?_drop,ZQ l d b h3]
section
variable{it:Array Keyed}
theorem wM(ps:List Nat)(k:Nat):(kA it ps)[k]? = (ps[k]?).map (kas_item it):=by simp [kA]
theorem QM(ps:List Nat){i j:Nat}(hij:i<=j)(hj:j<=ps.length):mirror (kA it ps) i j ((j-i)/2)=kA it (ps.take i++(((ps.drop i).take (j-i)).reverse++ps.drop j)):=by
 apply Array.ext_getElem?;intro k;rw[getElem?_mirror_all (by rw[qL];exact hj),wM,wM,wM,UC ps hij hj];split<;>rfl
theorem QN(ps:List Nat){l k:Nat}(h:l<=k)(hk:k<ps.length):bubble (kA it ps) k (k-l)=kA it (ps.take l++(ps[k]::((ps.drop l).take (k-l)++ps.drop (k+1)))):=by
 apply Array.ext_getElem?;intro q;rw[getElem?_bubble (by rw[qL];exact hk) _ (by lia),wM,wM,wM,wM,UF ps h hk,show k-(k-l)=l by lia];split
 ·rfl
 ·split<;>rfl
end
section
variable{prog:Program}{w:World}{A:Around}{E:Value->Shared->Prop}{κ:SortKind}{it:Array Keyed}{N:Nat}{lt:Nat->Nat->Bool}{Iv:Shared->Prop}{st:SortSt}{s:Shared}{ps F rs:List Nat}
theorem VY(c:Cmp prog w A κ it N lt Iv){i j:Nat}{Q:Option Bool->SortSt->Shared->Prop}(ha:arrOf st=kA it ps)(hk:kindOf st=κ)(hb:∀z∈ps,z<N)(hi:i<ps.length)(hj:j<ps.length)(hs:Iv s)(h:∀s',Iv s'->Q (some (lt (ps.getD i 0) (ps.getD j 0))) st s'):kasC (model prog w) A E (ltAt' i j) Q st s:=by
 rw[ltAt'_eq];refine kasC_bind (kasC_get ?_);dsimp only;rw[ha];refine kasC_bind (qR hi (kasC_bind (qR hj ?_)));exact HJ c (hb _ (vD hi)) (hb _ (vD hj)) hk hs h
theorem ZF{i j:Nat}{Q:Unit->SortSt->Shared->Prop}(ha:arrOf st=kA it ps)(hij:i<=j)(hj:j<=ps.length)(h:Q () (setArr st (kA it (ps.take i++(((ps.drop i).take (j-i)).reverse++ps.drop j)))) s):kasC (model prog w) A E (reverseSlice' i j) Q st s:=by
 rw[reverseSlice'_eq];refine kasC_modify ?_;rw[ha,QM ps hij hj];exact h
theorem ZH{l k:Nat}{Q:Unit->SortSt->Shared->Prop}(ha:arrOf st=kA it ps)(h:l<=k)(hk:k<ps.length)(q:Q () (setArr st (kA it (ps.take l++(ps[k]::((ps.drop l).take (k-l)++ps.drop (k+1)))))) s):kasC (model prog w) A E (moveDown' k l) Q st s:=by
 rw[moveDown'_eq];refine kasC_modify ?_;rw[ha,QN ps h hk];exact q
theorem CM(F rs:List Nat)(i:Nat):(F++rs).getD (F.length+i) 0=rs.getD i 0:=by
 rw[gG,gG,gH (by lia)]
 congr 2
 lia
theorem AG(o:LwD.Strict lt N){n:Nat}(h1:1<=n)(hn:n<rs.length)(p:(rs.take n).Pairwise (Rl lt))(h:lt (rs.getD (n-1) 0) (rs.getD n 0)=true):(rs.take (n+1)).Pairwise (Rl lt):=by
 have e:rs.take (n+1)=rs.take n++[rs.getD n 0]:=by
  rw[wP (Nat.le_succ n),show n+1-n=1 by lia,DO hn]
 rw[e];refine List.pairwise_append.mpr ⟨p,List.pairwise_singleton ..,λa ha b hb=>?_⟩;rw[mB.mp hb];obtain⟨j,j1,j2,rfl⟩:=kZ ha;by_cases z:j=n-1
 ·rw[z];exact h
 ·refine o.tr _ _ _ ?_ h;have q:=qG p (i:=j) (j:=n-1) (by lia) (by rw[mK];lia);have e2:∀k,k<n->(rs.take n).getD k 0=rs.getD k 0:=λk hk=>by rw[gG,gG,List.getElem?_take,nV hk]
  rwa [e2 j j1,e2 (n-1) (by lia)]at q
end
theorem BG{lt:Nat->Nat->Bool}{N:Nat}(o:LwD.Strict lt N):LwD.Strict (λa b=>lt b a) N:=⟨λa b c h1 h2=>o.tr _ _ _ h2 h1,λa b h=>o.as _ _ h,λa b ha hb hn h=>o.tot _ _ hb ha (λz=>hn z.symm) h⟩
theorem AU{rs:List Nat}(nd:rs.Nodup){i j:Nat}(hi:i<rs.length)(hj:j<rs.length)(h:i≠j):rs.getD i 0≠rs.getD j 0:=by
 have e1:rs.getD i 0=rs[i]:=by simp [gG,hi]
 have e2:rs.getD j 0=rs[j]:=by simp [gG,hj]
 rw[e1,e2];exact λz=>h ((List.getElem_inj nd).mp z)
section
variable{prog:Program}{w:World}{A:Around}{E:Value->Shared->Prop}{κ:SortKind}{it:Array Keyed}{N:Nat}{lt:Nat->Nat->Bool}{Iv:Shared->Prop}{st:SortSt}{s:Shared}{ps F rs:List Nat}
theorem uN(c:Cmp prog w A κ it N lt Iv){i j:Nat}{Q:Option Bool->SortSt->Shared->Prop}(ha:arrOf st=kA it (F++rs))(hk:kindOf st=κ)(hb:∀z∈F++rs,z<N)(hi:i<rs.length)(hj:j<rs.length)(hs:Iv s)(h:∀s',Iv s'->Q (some (lt (rs.getD i 0) (rs.getD j 0))) st s'):kasC (model prog w) A E (ltAt' (F.length+i) (F.length+j)) Q st s:=by
 refine VY c ha hk hb (by rw[List.length_append];lia) (by rw[List.length_append];lia) hs λs' hs'=>?_;rw[CM,CM];exact h s' hs'
theorem RV(c:Cmp prog w A κ it N lt Iv){Q:Option Nat->SortSt->Shared->Prop}(ha:arrOf st=kA it (F++rs))(hk:kindOf st=κ)(hb:∀z∈F++rs,z<N)(nd:rs.Nodup)(r0:0<rs.length)(hs:Iv s)
  (h:∀n rs' s',Iv s'->1<=n->n<=rs.length->rs'.Perm rs->(rs'.take n).Pairwise (Rl lt)->Q (some n) (setArr st (kA it (F++rs'))) s'):kasC (model prog w) A E (countRun' F.length rs.length) Q st s:=by
 have same:setArr st (kA it (F++rs))=st:=by rw[<-ha]
 have rN:∀{i},i<rs.length->rs.getD i 0<N:=λhi=>hb _ (gS _ (vD hi));have p1:(rs.take 1).Pairwise (Rl lt):=by
  have:=DO (xs:=rs) (i:=0) r0;rw[List.drop_zero]at this;rw[this];exact List.pairwise_singleton ..
 rw[countRun'_eq];dsimp only;refine kasC_bind (kE (kO (λk c st' s'=>st'=st/\Iv s'/\c=(none,k)/\1<=k/\(rs.take k).Pairwise (Rl lt))
  (Q:=λc st' s'=>st'=st/\Iv s'/\∃n,c=(none,n)/\1<=n/\n<=rs.length/\(rs.take n).Pairwise (Rl lt)/\(n<rs.length->lt (rs.getD n 0) (rs.getD (n-1) 0)=true)) ?a ?b ⟨rfl,hs,rfl,nN _,p1⟩) ?d)
 case a=>
  rintro k c st' s' _ hkn ⟨rfl,hs',rfl,k1,pk⟩;dsimp only;rw[show F.length+k-1=F.length+(k-1) by lia];refine kasC_bind (uN c ha hk hb hkn (by lia) hs' λs2 hs2=>?_);dsimp only;cases q:lt (rs.getD k 0) (rs.getD (k-1) 0)with
  | true=>exact kasC_pure ⟨rfl,hs2,k,rfl,k1,by lia,pk,λ_=>q⟩
  | false=>exact kasC_pure ⟨rfl,hs2,rfl,by lia,AG c.o k1 hkn pk (c.o.tot _ _ (rN hkn) (rN (by lia)) (AU nd hkn (by lia) (by lia)) q)⟩
 case b=>
  rintro c st' s' ⟨rfl,hs',rfl,k1,pk⟩;exact⟨rfl,hs',_,rfl,k1,by lia,pk,λz=>by lia⟩
 case d=>
  rintro c st' s' ⟨rfl,hs',n,rfl,n1,n2,pn,low⟩;dsimp only;by_cases e1:n=rs.length
  ·rw[nV (beq_iff_eq.mpr e1)];have:=h n rs s' hs' n1 n2 (List.Perm.refl _) pn;rw[same]at this;exact kasC_pure this
  rw[nU (λz=>e1 (beq_iff_eq.mp z))];by_cases e2:n>1
  ·rw[nV e2,show F.length+n-1=F.length+(n-1) by lia];refine kasC_bind (uN (F:=F) (i:=0) c ha hk hb (by lia) (by lia) hs' λs2 hs2=>?_);dsimp only;have q:lt (rs.getD 0 0) (rs.getD (n-1) 0)=true:=by
    have q:=qG pn (i:=0) (j:=n-1) (by lia) (by rw[mK];lia);have e2:∀k,k<n->(rs.take n).getD k 0=rs.getD k 0:=λk hk=>by rw[gG,gG,List.getElem?_take,nV hk]
    rwa [e2 0 (by lia),e2 (n-1) (by lia)]at q
   rw[q,nV rfl];have:=h n rs s2 hs2 n1 n2 (List.Perm.refl _) pn;rw[same]at this;exact kasC_pure this
  rw[nU e2];obtain rfl:n=1:=by lia
  have p2:(rs.take (1+1)).Pairwise (Rl λa b=>lt b a):=AG (BG c.o) (nN 1) (by lia) (by
   have:=DO (xs:=rs) (i:=0) r0;rw[List.drop_zero]at this;rw[this];exact List.pairwise_singleton ..) (low (by lia))
  refine kasC_bind (kasC_lift (wpAny_rule ?_));refine kasC_bind (kE (kO (λk c st2 s2=>st2=st'/\Iv s2/\c=(none,k,0)/\2<=k/\(rs.take k).Pairwise (Rl λa b=>lt b a))
   (Q:=λc st2 s2=>st2=st'/\Iv s2/\∃n,c=(none,n,0)/\2<=n/\n<=rs.length/\(rs.take n).Pairwise (Rl λa b=>lt b a)) ?a2 ?b2 ⟨rfl,hs',rfl,nN _,p2⟩) ?d2)
  case a2=>
   rintro k c st2 s2 _ hkn ⟨rfl,hs2,rfl,k1,pk⟩;dsimp only;rw[show F.length+k-1=F.length+(k-1) by lia];refine kasC_bind (uN c ha hk hb hkn (by lia) hs2 λs3 hs3=>?_);dsimp only;cases q:lt (rs.getD k 0) (rs.getD (k-1) 0)with
   | true=>
    rw[nV rfl,nU (mZ 0)];exact kasC_pure ⟨rfl,hs3,rfl,by lia,AG (BG c.o) (by lia) hkn pk q⟩
   | false=>
    rw[nU hW];refine kasC_bind (uN c ha hk hb (by lia) hkn hs3 λs4 hs4=>?_);dsimp only;rw[c.o.tot _ _ (rN hkn) (rN (by lia)) (AU nd hkn (by lia) (by lia)) q,nV rfl];exact kasC_pure ⟨rfl,hs4,k,rfl,k1,by lia,pk⟩
  case b2=>
   rintro c st2 s2 ⟨rfl,hs2,rfl,k1,pk⟩;exact⟨rfl,hs2,_,rfl,k1,by lia,pk⟩
  case d2=>
   rintro c st2 s2 ⟨rfl,hs2,m,rfl,m1,m2,pm⟩;dsimp only;rw[nU (mZ 0)];refine kasC_bind (ZF ha (Nat.le_add_right _ _) (by rw[List.length_append];lia) ?_);have e:(F++rs).take F.length++((((F++rs).drop F.length).take (F.length+m-F.length)).reverse++(F++rs).drop (F.length+m))=F++((rs.take m).reverse++rs.drop m):=by
    rw[List.take_left',List.drop_left',Nat.add_sub_cancel_left,<-List.drop_drop,List.drop_left']<;>rfl
   rw[e];have pr:((rs.take m).reverse++rs.drop m).Perm rs:=by
    refine List.Perm.trans (List.Perm.append_right _ (List.reverse_perm _)) ?_;rw[List.take_append_drop]
   have lr:((rs.take m).reverse++rs.drop m).length=rs.length:=pr.length_eq;have pu:(((rs.take m).reverse++rs.drop m).take m).Pairwise (Rl lt):=by
    rw[List.take_left' (by rw[List.length_reverse,mK];lia)];exact List.pairwise_reverse.mpr pm
   generalize (rs.take m).reverse++rs.drop m=r2 at pr lr pu;have hb2:∀z∈F++r2,z<N:=λz hz=>hb z (by
    rcases mS.mp hz with hz | hz
    ·exact List.mem_append_left _ hz
    ·exact gS _ (pr.mem_iff.mp hz))
   have nd2:r2.Nodup:=pr.nodup_iff.mpr nd;have ha2:arrOf (setArr st2 (kA it (F++r2)))=kA it (F++r2):=rfl;have hk2:kindOf (setArr st2 (kA it (F++r2)))=κ:=hk;have h2:∀n s',Iv s'->1<=n->n<=r2.length->(r2.take n).Pairwise (Rl lt)->Q (some n) (setArr st2 (kA it (F++r2))) s':=λn s' a b c d=>h n r2 s' a b (lr▸c) pr d;generalize setArr st2 (kA it (F++r2))=st3 at ha2 hk2 h2;rw[<-lr];have rN2:∀{i},i<r2.length->r2.getD i 0<N:=λhi=>hb2 _ (gS _ (vD hi));refine kasC_bind (kE (kO (λk c st' s'=>st'=st3/\Iv s'/\c=(none,k)/\2<=k/\(r2.take k).Pairwise (Rl lt))
    (Q:=λc st' s'=>st'=st3/\Iv s'/\∃n,c=(none,n)/\1<=n/\n<=r2.length/\(r2.take n).Pairwise (Rl lt)) ?a3 ?b3 ⟨rfl,hs2,rfl,m1,pu⟩) ?d3)
   case a3=>
    rintro k c st' s' _ hkn ⟨rfl,hs',rfl,k1,pk⟩;dsimp only;rw[show F.length+k-1=F.length+(k-1) by lia];refine kasC_bind (uN c ha2 hk2 hb2 hkn (by lia) hs' λs3 hs3=>?_);dsimp only;cases q:lt (r2.getD k 0) (r2.getD (k-1) 0)with
    | true=>exact kasC_pure ⟨rfl,hs3,k,rfl,by lia,by lia,pk⟩
    | false=>exact kasC_pure ⟨rfl,hs3,rfl,by lia,AG c.o (by lia) hkn pk (c.o.tot _ _ (rN2 hkn) (rN2 (by lia)) (AU nd2 hkn (by lia) (by lia)) q)⟩
   case b3=>
    rintro c st' s' ⟨rfl,hs',rfl,k1,pk⟩;exact⟨rfl,hs',_,rfl,by lia,by lia,pk⟩
   case d3=>
    rintro c st' s' ⟨rfl,hs',n,rfl,n1,n2,pn⟩;exact kasC_pure (h2 n s' hs' n1 n2 pn)
theorem ZI(c:Cmp prog w A κ it N lt Iv){Q:Bool->SortSt->Shared->Prop}{n ok:Nat}(ha:arrOf st=kA it (F++rs))(hk:kindOf st=κ)(hb:∀z∈F++rs,z<N)(nd:rs.Nodup)(o1:1<=ok)(on:ok<=n)(hn:n<=rs.length)(po:(rs.take ok).Pairwise (Rl lt))(hs:Iv s)
  (h:∀rs' s',Iv s'->rs'.Perm rs->(rs'.take n).Pairwise (Rl lt)->Q true (setArr st (kA it (F++rs'))) s'):kasC (model prog w) A E (binarySort' F.length n ok) Q st s:=by
 rw[binarySort'_eq];dsimp only;refine kasC_bind (kE (kO (λk c st' s'=>Iv s'/\c=(none,())/\∃r2,st'=setArr st (kA it (F++r2))/\r2.Perm rs/\(r2.take k).Pairwise (Rl lt))
  (Q:=λc st' s'=>Iv s'/\c=(none,())/\∃r2,st'=setArr st (kA it (F++r2))/\r2.Perm rs/\(r2.take n).Pairwise (Rl lt)) ?a ?b ⟨hs,rfl,rs,by rw[<-ha],List.Perm.refl _,by rw[show max ok 1=ok by lia];exact po⟩) ?d)
 case b=>
  rintro c st' s' ⟨hs',rfl,r2,rfl,pr,pk⟩;rw[show max (max ok 1) n=n by lia]at pk;exact⟨hs',rfl,r2,rfl,pr,pk⟩
 case d=>
  rintro c st' s' ⟨hs',rfl,r2,rfl,pr,pk⟩;exact kasC_pure (h r2 s' hs' pr pk)
 case a=>
  rintro k c st' s' hk1 hkn ⟨hs',rfl,r2,rfl,pr,pk⟩;have lr:r2.length=rs.length:=pr.length_eq;have hb2:∀z∈F++r2,z<N:=λz hz=>hb z (by
   rcases mS.mp hz with hz | hz
   ·exact List.mem_append_left _ hz
   ·exact gS _ (pr.mem_iff.mp hz))
  have nd2:r2.Nodup:=pr.nodup_iff.mpr nd;have rN2:∀{i},i<r2.length->r2.getD i 0<N:=λhi=>hb2 _ (gS _ (vD hi));have up:∀i j,i<j->j<k->lt (r2.getD i 0) (r2.getD j 0)=true:=λi j h1 h2=>by
   have q:=qG pk (i:=i) (j:=j) h1 (by rw[mK];lia);have e2:∀i,i<k->(r2.take k).getD i 0=r2.getD i 0:=λi hi=>by rw[gG,gG,List.getElem?_take,nV hi]
   rwa [e2 i (by lia),e2 j h2]at q
  have ha2:arrOf (setArr st (kA it (F++r2)))=kA it (F++r2):=rfl;have hk2:kindOf (setArr st (kA it (F++r2)))=κ:=hk;refine kasC_bind (kE (kO (λx c st'' s'=>st''=setArr st (kA it (F++r2))/\Iv s'/\∃l r,c=(none,l,r)/\l<=r/\r<=k/\r-l<=k-x/\(∀i,i<l->lt (r2.getD i 0) (r2.getD k 0)=true)/\∀i,r<=i->i<k->lt (r2.getD k 0) (r2.getD i 0)=true)
   (Q:=λc st'' s'=>st''=setArr st (kA it (F++r2))/\Iv s'/\∃l r,c=(none,l,r)/\l<=k/\(∀i,i<l->lt (r2.getD i 0) (r2.getD k 0)=true)/\∀i,l<=i->i<k->lt (r2.getD k 0) (r2.getD i 0)=true) ?a2 ?b2 ⟨rfl,hs',0,k,rfl,nO _,nN _,by lia,λi hi=>by lia,λi h1 h2=>by lia⟩) ?d2)
  case a2=>
   rintro x c st'' s2 _ hxk ⟨rfl,hs2,l,r,rfl,a1,a2,a3,a4,a5⟩;dsimp only;by_cases e:l ≥ r
   ·rw[nV e];exact kasC_pure ⟨rfl,hs2,l,r,rfl,by lia,a4,λi h1 h2=>a5 i (by lia) h2⟩
   ·rw[nU e];refine kasC_bind (uN c ha2 hk2 hb2 (by lia) (by lia) hs2 λs3 hs3=>?_);dsimp only;cases q:lt (r2.getD k 0) (r2.getD ((l+r)/2) 0)with
    | true=>
     rw[nV rfl];refine kasC_pure ⟨rfl,hs3,l,(l+r)/2,rfl,by lia,by lia,by lia,a4,λi h1 h2=>?_⟩;by_cases z:i=(l+r)/2
     ·rw[z];exact q
     ·exact c.o.tr _ _ _ q (up _ _ (by lia) h2)
    | false=>
     rw[nU hW];have q':=c.o.tot _ _ (rN2 (by lia)) (rN2 (by lia)) (AU nd2 (show k<r2.length by lia) (show(l+r)/2<r2.length by lia) (by lia)) q;refine kasC_pure ⟨rfl,hs3,(l+r)/2+1,r,rfl,by lia,by lia,by lia,λi h1=>?_,a5⟩;by_cases z:i=(l+r)/2
     ·rw[z];exact q'
     ·exact c.o.tr _ _ _ (up _ _ (by lia) (by lia)) q'
  case b2=>
   rintro c st'' s2 ⟨rfl,hs2,l,r,rfl,a1,a2,a3,a4,a5⟩;exact⟨rfl,hs2,l,r,rfl,by lia,a4,λi h1 h2=>a5 i (by lia) h2⟩
  case d2=>
   rintro c st'' s2 ⟨rfl,hs2,l,r,rfl,lk,a4,a5⟩;dsimp only;have hkl:F.length+k<(F++r2).length:=by rw[List.length_append];lia
   refine kasC_bind (ZH ha2 (Nat.add_le_add_left lk _) hkl ?_);have hk3:k<r2.length:=by lia
   have e:(F++r2).take (F.length+l)++((F++r2)[F.length+k]::(((F++r2).drop (F.length+l)).take (F.length+k-(F.length+l))++(F++r2).drop (F.length+k+1)))=F++(r2.take l++(r2[k]::((r2.drop l).take (k-l)++r2.drop (k+1)))):=by
    have e1:(F++r2).take (F.length+l)=F++r2.take l:=by rw[List.take_append,gQ (by lia),Nat.add_sub_cancel_left]
    have e2:∀j,(F++r2).drop (F.length+j)=r2.drop j:=λj=>by rw[<-List.drop_drop,List.drop_left'];rfl
    have e3:(F++r2)[F.length+k]=r2[k]:=by rw[List.getElem_append_right (by lia)];congr 1;lia
    rw[e1,e2 l,Nat.add_assoc,e2 (k+1),e3,show F.length+k-(F.length+l)=k-l by lia,List.append_assoc]
   rw[e];have sp:r2=r2.take l++((r2.drop l).take (k-l)++(r2[k]::r2.drop (k+1))):=by
    conv=>lhs;rw[<-List.take_append_drop l r2]
    congr 1
    have e1:r2.drop l=(r2.drop l).take (k-l)++(r2.drop l).drop (k-l):=(List.take_append_drop _ _).symm;rw[List.drop_drop,show l+(k-l)=k by lia,List.drop_eq_getElem_cons hk3]at e1;exact e1
   have pn:(r2.take l++(r2[k]::((r2.drop l).take (k-l)++r2.drop (k+1)))).Perm r2:=by
    conv=>rhs;rw[sp]
    exact List.Perm.append_left _ List.perm_middle.symm
   refine kasC_pure ⟨hs2,rfl,_,rfl,pn.trans pr, ?_⟩;have e5:(r2.take l++(r2[k]::((r2.drop l).take (k-l)++r2.drop (k+1)))).take (k+1)=r2.take l++(r2[k]::(r2.drop l).take (k-l)):=by
    have l1:(r2.take l++(r2[k]::(r2.drop l).take (k-l))).length=k+1:=by rw[List.length_append,mN,mK,mK,List.length_drop];lia
    rw[show r2.take l++(r2[k]::((r2.drop l).take (k-l)++r2.drop (k+1)))=(r2.take l++(r2[k]::(r2.drop l).take (k-l)))++r2.drop (k+1) by rw[List.append_assoc,List.cons_append]];exact List.take_left' l1
   rw[e5];have ek:r2[k]=r2.getD k 0:=by simp [gG,hk3]
   have pk':(r2.take l++(r2.drop l).take (k-l)).Pairwise (Rl lt):=by rw[<-wP lk];exact pk
   have pp:=List.pairwise_append.mp pk';refine List.pairwise_append.mpr ⟨pp.1,List.pairwise_cons.mpr ⟨λb hb'=>?_,pp.2.1⟩,λa ha' b hb'=>?_⟩
   ·obtain⟨j,j1,j2,j3,rfl⟩:=yS hb';rw[ek];exact a5 j j1 (by lia)
   ·obtain⟨i,i1,i2,rfl⟩:=kZ ha';rcases mY.mp hb' with rfl | hb'
    ·rw[ek];exact a4 i i1
    ·exact pp.2.2 _ ha' _ hb'
end
inductive PR:Nat->List (Nat×Nat×Nat)->List (List Nat)->Prop
 | nil {o:Nat} :PR o [] []
 | cons {o:Nat} {b:List Nat} {q:Nat} {p:List (Nat×Nat×Nat)} {bs:List (List Nat)} (h:PR (o+b.length) p bs):PR o ((o,b.length,q)::p) (b::bs)
theorem PR.len:∀{o:Nat} {p:List (Nat×Nat×Nat)} {bs:List (List Nat)},PR o p bs->p.length=bs.length
 | _,_,_,.nil=>rfl
 | _,_,_,.cons h=>by rw[mN,mN,h.len]
theorem PR.two{a b c:List Nat}{B2:List (List Nat)}(hc:c.length=a.length+b.length):∀{B1:List (List Nat)} {o:Nat} {p:List (Nat×Nat×Nat)},PR o p (B1++a::b::B2)->∃q1 q2,p[B1.length]? = some (o+B1.flatten.length,a.length,q1)/\p[B1.length+1]? = some (o+B1.flatten.length+a.length,b.length,q2)/\
  PR o ((p.set B1.length (o+B1.flatten.length,a.length+b.length,q1)).eraseIdx (B1.length+1)) (B1++c::B2)
 | [],o,_,.cons (q:=q1) (.cons (q:=q2) h)=>by
  refine⟨q1,q2,rfl,rfl, ?_⟩;show PR o ((o+0,a.length+b.length,q1)::_) (c::B2);rw[<-hc];refine .cons ?_;rw[hc,<-Nat.add_assoc];exact h
 | d::B1,o,_,.cons (q:=q) h=>by
  obtain⟨q1,q2,h1,h2,h3⟩:=PR.two hc (B1:=B1) h;have e:o+(d::B1).flatten.length=o+d.length+B1.flatten.length:=by rw[List.flatten_cons,List.length_append,Nat.add_assoc]
  rw[e];exact⟨q1,q2,h1,h2,.cons h3⟩
theorem PR.snoc{b:List Nat}{q:Nat} :∀{bs:List (List Nat)} {o:Nat} {p:List (Nat×Nat×Nat)},PR o p bs->PR o (p++[(o+bs.flatten.length,b.length,q)]) (bs++[b])
 | [],_,_,.nil=>.cons .nil
 | d::bs,o,_,.cons h=>by
  have:=h.snoc (b:=b) (q:=q);rw[List.flatten_cons,List.length_append,<-Nat.add_assoc];exact .cons this
theorem PR.mod{f:Nat×Nat×Nat->Nat×Nat×Nat}(hf:∀x,(f x).1=x.1/\(f x).2.1=x.2.1):∀{bs:List (List Nat)} {o:Nat} {p:List (Nat×Nat×Nat)} (i:Nat),PR o p bs->PR o (p.modify i f) bs
 | _,_,_,i,.nil=>by rw[List.modify_nil];exact .nil
 | _,_,_,0,.cons (o:=o) (b:=b) (q:=q) h=>by
  rw[List.modify_zero_cons];have:=hf (o,b.length,q);rw[show f (o,b.length,q)=(o,b.length,(f (o,b.length,q)).2.2)from Prod.ext this.1 (Prod.ext this.2 rfl)];exact .cons h
 | _,_,_,i+1,.cons h=>by
  rw[List.modify_succ_cons];exact .cons (PR.mod hf i h)
section
variable{it:Array Keyed}
theorem kA_set(A X:List Nat)(x z n:Nat)(h:n=A.length):(kA it (A++x::X)).setIfInBounds n (kas_item it z)=kA it (A++z::X):=by
 apply Array.toList_inj.mp;subst h;simp [kA,List.set_append_right]
theorem OC:∀(zs X A C:List Nat) (n off:Nat),X.length=zs.length->off+n=A.length->((zs.map (kas_item it)).zipIdx n).foldl (λa (p:Keyed×Nat)=>a.setIfInBounds (off+p.2) p.1) (kA it (A++(X++C)))=kA it (A++(zs++C))
 | [],X,A,C,n,off,hx,ho=>by
  rw[List.length_eq_zero_iff.mp hx]
  rfl
 | z::zs,x::X,A,C,n,off,hx,ho=>by
  rw[mX,List.zipIdx_cons,List.foldl_cons];show List.foldl _ ((kA it (A++(x::(X++C)))).setIfInBounds (off+n) (kas_item it z)) _=_;rw[kA_set A (X++C) x z (off+n) ho];have:=OC zs X (A++[z]) C (n+1) off (by simpa using hx) (by rw[List.length_append];show _=_+1;lia);rw[List.append_assoc,List.append_assoc]at this;exact this
end
theorem UJ{M:Model}{A:Around}{E:Value->Shared->Prop}{σ:Type}{st st':σ}{s:Shared}{Q:PUnit->σ->Shared->Prop}(h:Q ⟨⟩ st' s):kasC M A E (set st':StateT σ Sem PUnit) Q st s:=by
 unfold kasC;rw[StateT.run_set];exact nS h
local macro_rules | `(tactic| trivial)=>do
 let n (s:String):=Lean.mkIdent (.str (.str (.str (.num (.str (.str (.str (.str (.str .anonymous "_private") "PySem") "Builtin") "List") "W1All") 0) "PySem") "Builtin") s)
 `(tactic| first | unfold $(n "gallop") | unfold $(n "mergeLo") | unfold $(n "mergeHi") | unfold $(n "mergeAt") | unfold $(n "setMinGallop"))
section
variable{prog:Program}{w:World}{A:Around}{E:Value->Shared->Prop}{κ:SortKind}{it:Array Keyed}{N:Nat}{lt:Nat->Nat->Bool}{Iv:Shared->Prop}{st:SortSt}{s:Shared}
theorem JD(P a S:List Nat)(i:Nat)(h:i<a.length):(P++(a++S)).getD (P.length+i) 0=a.getD i 0:=by
 rw[CM,gG,gG,gJ h]
theorem BE(ps:List Nat)(k:Nat):ps.toArray.getD k 0=ps.getD k 0:=by simp [Array.getD_eq_getD_getElem?,gG]
theorem OH(P a S:List Nat)(i j:Nat)(hi:i<=j)(hj:j<=a.length):(kA it (P++(a++S))).extract (P.length+i) (P.length+j)=kA it ((a.drop i).take (j-i)):=by
 rw[zP,<-List.drop_drop,List.drop_left' rfl,List.drop_append_of_le_length (by lia),List.take_append_of_le_length (by rw[List.length_drop];lia),show P.length+j-(P.length+i)=j-i by lia]
theorem ts_at(c:Cmp prog w A κ it N lt Iv){Q:Bool->SortSt->Shared->Prop}{B1 B2:List (List Nat)}{a b rest:List Nat}(hA:arrOf st=kA it ((B1++a::b::B2).flatten++rest))(hk:kindOf st=κ)(hf:failedOf st=none)(hP:PR 0 (pendingOf st).toList (B1++a::b::B2))
  (nd:((B1++a::b::B2).flatten++rest).Nodup) (bd:∀z∈(B1++a::b::B2).flatten++rest,z<N) (pa:a.Pairwise (Rl lt)) (pb:b.Pairwise (Rl lt)) (a0:0<a.length) (b0:0<b.length) (hs:Iv s)
  (h:∀cc st' s',Iv s'->cc.Perm (a++b)->cc.Pairwise (Rl lt)->arrOf st'=kA it ((B1++cc::B2).flatten++rest)->kindOf st'=κ->failedOf st'=none->PR 0 (pendingOf st').toList (B1++cc::B2)->Q true st' s'):kasC (model prog w) A E (mergeAt' B1.length) Q st s:=by
 have fl:∀cc:List Nat,(B1++cc::B2).flatten++rest=B1.flatten++(cc++(B2.flatten++rest)):=λcc=>by simp
 have e0:(B1++a::b::B2).flatten++rest=B1.flatten++(a++(b++(B2.flatten++rest))):=by simp
 rw[e0]at hA nd bd;have hc2:∀cc:List Nat,cc.Perm (a++b)->cc.length=a.length+b.length:=λcc p=>by rw[p.length_eq,List.length_append]
 have g:MG N lt a b:=⟨c.o,by
  have:=(mI.mp nd).2.1;rw[<-List.append_assoc]at this;exact(mI.mp this).1,λz hz=>bd z (gS _ (by rw[<-List.append_assoc];exact List.mem_append_left _ hz)),pa,pb⟩
 generalize hPe:B1.flatten=P at hA nd bd fl;generalize B2.flatten++rest=S at hA nd bd fl;obtain⟨q1,q2,h1,h2,-⟩:=PR.two (c:=a++b) (List.length_append) hP;rw[hPe,Nat.zero_add]at h1 h2;rw[Array.getElem?_toList]at h1 h2;have done:∀(cc:List Nat) (arr:Array Keyed) (g':Nat) (s':Shared),Iv s'->cc.Perm (a++b)->cc.Pairwise (Rl lt)->arr=kA it (P++(cc++S))->Q true (SortSt.mk' (kindOf st) arr (((pendingOf st).setIfInBounds B1.length (P.length,a.length+b.length,q1)).eraseIdxIfInBounds (B1.length+1)) g' (failedOf st)) s':=λcc arr g' s' hs' pc pw ea=>by
  obtain⟨q1',q2',h1',h2',h3⟩:=PR.two (c:=cc) (hc2 cc pc) hP;rw[hPe,Nat.zero_add]at h1' h3;rw[Array.getElem?_toList,h1]at h1';injection h1' with h1'
  injection h1' with _ h1'
  injection h1' with _ h1'
  subst h1';refine h cc _ s' hs' pc pw (ea.trans (by rw[fl])) hk hf ?_;have ep:(((pendingOf st).setIfInBounds B1.length (P.length,a.length+b.length,q1)).eraseIdxIfInBounds (B1.length+1)).toList=((pendingOf st).toList.set B1.length (P.length,a.length+b.length,q1)).eraseIdx (B1.length+1):=by simp
  show PR 0 (((pendingOf st).setIfInBounds B1.length (P.length,a.length+b.length,q1)).eraseIdxIfInBounds (B1.length+1)).toList _;rw[ep];exact h3
 unfold mergeAt'
 trivial
 refine kasC_bind (kasC_get ?_);dsimp only;rw[h1,h2];dsimp only;refine kasC_bind (UJ ?_);have hk1:∀{arr:Array Keyed} {pn:Array (Nat×Nat×Nat)} {g':Nat},kindOf (SortSt.mk' (kindOf st) arr pn g' (failedOf st))=κ:=fun {_ _ _} =>hk;have ea:∀i,i<a.length->(P++(a++(b++S))).getD (P.length+i) 0=a.getD i 0:=λi hi=>JD P a (b++S) i hi;have eb:∀i,i<b.length->(P++(a++(b++S))).getD (P.length+a.length+i) 0=b.getD i 0:=λi hi=>by
  have:=JD (P++a) b S i hi
  rwa [List.append_assoc,List.length_append]at this
 have lenE:(P++(a++(b++S))).length=P.length+a.length+b.length+S.length:=by simp only[List.length_append];lia
 have extA:∀k,k<=a.length->(kA it (P++(a++(b++S)))).extract (P.length+k) (P.length+a.length)=kA it (a.drop k):=λk hk=>by
  rw[OH P a (b++S) k a.length hk gC,gQ (by rw[List.length_drop];lia)]
 have extB:∀r,r<=b.length->(kA it (P++(a++(b++S)))).extract (P.length+a.length) (P.length+a.length+r)=kA it (b.take r):=λr hr=>by
  have:=OH (it:=it) (P++a) b S 0 r (nO _) hr
  rwa [List.append_assoc,List.length_append,nK,List.drop_zero,Nat.sub_zero]at this
 have back:∀(k r:Nat) (zs:List Nat),k<=a.length->r<=b.length->zs.length=(a.drop k++b.take r).length->(kA it zs).toList.zipIdx.foldl (λ(x:Array Keyed) (p:Keyed×Nat)=>x.setIfInBounds (P.length+k+p.2) p.1) (kA it (P++(a++(b++S))))=kA it (P++((a.take k++(zs++b.drop r))++S)):=λk r zs hk hr hz=>by
  have q:=OC (it:=it) zs (a.drop k++b.take r) (P++a.take k) (b.drop r++S) 0 (P.length+k) hz.symm (by rw[List.length_append,mK];lia);have e1:P++a.take k++(a.drop k++b.take r++(b.drop r++S))=P++(a++(b++S)):=by
   conv=>rhs;rw[<-List.take_append_drop k a,<-List.take_append_drop r b]
   simp only[List.append_assoc]
  have e2:P++a.take k++(zs++(b.drop r++S))=P++((a.take k++(zs++b.drop r))++S):=by simp only[List.append_assoc]
  rw[e1,e2]at q;rw[<-q];have e3:(kA it zs).toList=zs.map (kas_item it):=by simp [kA]
  rw[e3]
 generalize hps:P++(a++(b++S))=ps at hA bd ea eb lenE extA extB back;have bN:∀i,i<ps.toArray.size->ps.toArray.getD i 0<N:=λi hi=>by rw[BE];exact bd _ (vD (by simpa using hi))
 have aN:∀{i},i<a.length->a.getD i 0<N:=λhi=>g.xN hi;have hA':(sortPriv% PySem.Builtin.SortState.a) st=kA it ps:=hA;rw[hA'];refine kasC_bind (qR (by lia) ?_);have eb0:=eb 0 b0;rw[nK]at eb0;rw[eb0];have bA:∀i,i<a.length->bey lt false (b.getD 0 0) ps.toArray P.length i = !lt (b.getD 0 0) (a.getD i 0):=λi hi=>by
  show(!lt (b.getD 0 0) (ps.toArray.getD (P.length+i) 0))=_;rw[BE,ea i hi]
 have bB:∀i,i<b.length->bey lt true (a.getD (a.length-1) 0) ps.toArray (P.length+a.length) i=lt (b.getD i 0) (a.getD (a.length-1) 0):=λi hi=>by
  show lt (ps.toArray.getD (P.length+a.length+i) 0) (a.getD (a.length-1) 0)=_;rw[BE,eb i hi]
 have szE:ps.toArray.size=P.length+a.length+b.length+S.length:=by rw[mF];exact lenE
 refine kasC_bind ?_;rw[wL];refine zV c hk1 (g.yN b0) bN (by rw[szE];lia) a0 hs (λi j hij hj hq=>?_) λk s2 hs2 k1 k2 k3=>?_
 ·rw[bA j hj]at hq;rw[bA i (by lia)];cases q:lt (b.getD 0 0) (a.getD i 0)with
  | false=>rfl
  | true=>
   by_cases z:i=j
   ·rw[<-z,q]at hq;exact hq
   ·rw[c.o.tr _ _ _ q (qG pa (by lia) hj)]at hq;exact hq
 rw[<-wL];dsimp only;have k2:∀i,i<k->∀j,j<b.length->lt (a.getD i 0) (b.getD j 0)=true:=λi hi j hj=>by
  have q:=k2 i hi;rw[bA i (by lia)]at q;have q:=g.ab (i:=i) (j:=0) (by lia) b0 (by simpa using q);by_cases z:j=0
  ·rw[z];exact q
  ·exact c.o.tr _ _ _ q (qG pb (by lia) hj)
 have k3:∀i,k<=i->i<a.length->lt (b.getD 0 0) (a.getD i 0)=true:=λi h1 h2=>by
  have q:=k3 i h1 h2;rw[bA i h2]at q;simpa using q
 by_cases c1:a.length-k=0
 ·rw[nV (beq_iff_eq.mpr c1)];refine kasC_pure (done (a++b) _ (gallopOf st) s2 hs2 (List.Perm.refl _) (List.pairwise_append.mpr ⟨pa,pb,λx hx y hy=>?_⟩) (by rw[<-hps,List.append_assoc]));obtain⟨i,i1,i2,rfl⟩:=kJ (xs:=a) (i:=0) (z:=x) (by rwa [List.drop_zero]);obtain⟨j,j1,j2,rfl⟩:=kJ (xs:=b) (i:=0) (z:=y) (by rwa [List.drop_zero]);exact k2 i (by lia) j j2
 rw[nU (λz=>c1 (beq_iff_eq.mp z)),show P.length+k+(a.length-k)-1=P.length+(a.length-1) by lia];refine kasC_bind (qR (by lia) ?_);rw[ea _ (by lia)];refine kasC_bind ?_;rw[wL];refine zV c hk1 (aN (by lia)) bN (by rw[szE];lia) (by lia) hs2 (λi j hij hj hq=>?_) λr s3 hs3 r1 r2 r3=>?_
 ·rw[bB j hj]at hq;rw[bB i (by lia)];by_cases z:i=j
  ·rw[z];exact hq
  ·exact c.o.tr _ _ _ (qG pb (by lia) hj) hq
 rw[<-wL];dsimp only;have r2:∀i,i<r->lt (b.getD i 0) (a.getD (a.length-1) 0)=true:=λi hi=>by
  have q:=r2 i hi
  rwa [bB i (by lia)]at q
 have r3:∀i,r<=i->i<b.length->lt (a.getD (a.length-1) 0) (b.getD i 0)=true:=λi h1 h2=>by
  have q:=r3 i h1 h2;rw[bB i h2]at q;exact g.ab (by lia) h2 q
 have rp:r≠0:=λz=>by
  have q1:=k3 (a.length-1) (by lia) (by lia);have q2:=r3 0 (by lia) b0;rw[c.o.as _ _ q1]at q2;cases q2
 rw[nU (λz=>rp (beq_iff_eq.mp z)),extA k k1,extB r r1];have gd:∀i,(a.drop k).getD i 0=a.getD (k+i) 0:=λi=>by rw[gG,gG,List.getElem?_drop]
 have gt:∀i,i<r->(b.take r).getD i 0=b.getD i 0:=λi hi=>by rw[gG,gG,List.getElem?_take,nV hi]
 have ld:(a.drop k).length=a.length-k:=List.length_drop;have lt':(b.take r).length=r:=by rw[mK];lia
 have g2:MG N lt (a.drop k) (b.take r):=⟨c.o,g.nd.sublist ((List.drop_sublist k a).append (List.take_sublist r b)),λz hz=>g.bd z (by
  rcases mS.mp hz with hz | hz
  ·exact List.mem_append_left _ (List.mem_of_mem_drop hz)
  ·exact gS _ (List.mem_of_mem_take hz)),pa.sublist (List.drop_sublist k a),pb.sublist (List.take_sublist r b)⟩
 have h0:lt ((b.take r).getD 0 0) ((a.drop k).getD 0 0)=true:=by
  rw[gt 0 (by lia),gd,nK];exact k3 k gC (by lia)
 have hl:∀j,j<(b.take r).length->lt ((b.take r).getD j 0) ((a.drop k).getD ((a.drop k).length-1) 0)=true:=λj hj=>by
  rw[gt j (by lia),gd,ld,show k+(a.length-k-1)=a.length-1 by lia];exact r2 j (by lia)
 have fin:∀zs g' s4,Iv s4->MF lt (a.drop k) (b.take r) zs->kasC (model prog w) A E (do
   modify λs=>setArr s (List.foldl (λa x=>a.setIfInBounds (P.length+k+x.snd) x.fst) (arrOf s) (kA it zs).toList.zipIdx)
   let __do_lift<-get
   pure (failedOf __do_lift).isNone) Q (qA (SortSt.mk' (kindOf st) (kA it ps) (((pendingOf st).setIfInBounds B1.length (P.length,a.length+b.length,q1)).eraseIdxIfInBounds (B1.length+1)) (gallopOf st) (failedOf st)) g') s4:=λzs g' s4 hs4 mf=>by
  refine kasC_bind (kasC_modify (kasC_bind (kasC_get ?_)));have ef:(failedOf st).isNone=true:=by rw[hf];rfl
  refine kasC_pure ?_;show Q (failedOf st).isNone (SortSt.mk' (kindOf st) (List.foldl (λa x=>a.setIfInBounds (P.length+k+x.snd) x.fst) (kA it ps) (kA it zs).toList.zipIdx) _ g' (failedOf st)) s4;rw[ef,back k r zs k1 r1 mf.pm.length_eq];have inb:∀x,x∈b.take r->∃j,j<r/\x=b.getD j 0:=λx hx=>by
   obtain⟨j,j1,j2,e⟩:=kZ hx;exact⟨j,j1,e⟩
  refine done _ _ g' s4 hs4 ?_ ?_ rfl
  ·refine List.Perm.trans (List.Perm.append_left _ (List.Perm.append_right _ mf.pm)) ?_
   conv=>rhs;rw[<-List.take_append_drop k a,<-List.take_append_drop r b]
   simp only[List.append_assoc];exact List.Perm.refl _
  ·refine List.pairwise_append.mpr ⟨pa.sublist (List.take_sublist k a),List.pairwise_append.mpr ⟨mf.pw,pb.sublist (List.drop_sublist r b),λx hx y hy=>?_⟩,λx hx y hy=>?_⟩
   ·obtain⟨j,j1,j2,rfl⟩:=kJ hy;rcases mS.mp (mf.pm.mem_iff.mp hx)with hx | hx
    ·obtain⟨i,i1,i2,rfl⟩:=kJ hx;by_cases z:i=a.length-1
     ·rw[z];exact r3 j j1 j2
     ·exact c.o.tr _ _ _ (qG pa (i:=i) (j:=a.length-1) (by lia) (by lia)) (r3 j j1 j2)
    ·obtain⟨i,i1,rfl⟩:=inb x hx;exact qG pb (by lia) j2
   ·obtain⟨i,i1,i2,rfl⟩:=kZ hx;rcases mS.mp hy with hy | hy
    ·rcases mS.mp (mf.pm.mem_iff.mp hy)with hy | hy
     ·obtain⟨j,j1,j2,rfl⟩:=kJ hy;exact qG pa (by lia) j2
     ·obtain⟨j,j1,rfl⟩:=inb y hy;exact k2 i i1 j (by lia)
    ·obtain⟨j,j1,j2,rfl⟩:=kJ hy;exact k2 i i1 j j2
 split
 ·exact kasC_bind (ts_lo c g2 hk1 (by lia) (by lia) h0 hl hs3 fin)
 ·exact kasC_bind (ts_hi c g2 hk1 (by lia) (by lia) h0 hl hs3 fin)
end
structure RI(it:Array Keyed)(κ:SortKind)(lt:Nat->Nat->Bool)(ps:List Nat)(bs:List (List Nat))(rest:List Nat)(st:SortSt):Prop where
 ar:arrOf st=kA it (bs.flatten++rest)
 kd:kindOf st=κ
 fl:failedOf st=none
 pr:PR 0 (pendingOf st).toList bs
 pm:(bs.flatten++rest).Perm ps
 pw:∀b∈bs,b.Pairwise (Rl lt)
 ne:∀b∈bs,0<b.length
section
variable{prog:Program}{w:World}{A:Around}{E:Value->Shared->Prop}{κ:SortKind}{it:Array Keyed}{N:Nat}{lt:Nat->Nat->Bool}{Iv:Shared->Prop}{st:SortSt}{s:Shared}{ps rest:List Nat}{bs:List (List Nat)}
theorem RI.size(h:RI it κ lt ps bs rest st):(pendingOf st).size=bs.length:=by rw[<-Array.length_toList];exact h.pr.len
theorem RI.merge(h:RI it κ lt ps bs rest st)(c:Cmp prog w A κ it N lt Iv)(nd:ps.Nodup)(bd:∀z∈ps,z<N){i:Nat}(hi:i+1<bs.length){Q:Bool->SortSt->Shared->Prop}(hs:Iv s)
  (go:∀bs' st' s',Iv s'->RI it κ lt ps bs' rest st'->bs'.length+1=bs.length->bs'.flatten.length=bs.flatten.length->Q true st' s'):kasC (model prog w) A E (mergeAt' i) Q st s:=by
 obtain⟨B1,a,b,B2,rfl,rfl⟩:∃B1 a b B2,bs=B1++a::b::B2/\B1.length=i:=by
  refine⟨bs.take i,bs[i],bs[i+1],bs.drop (i+2), ?_,by rw[mK];lia⟩
  conv=>lhs;rw[<-List.take_append_drop i bs]
  congr 1
  rw[List.drop_eq_getElem_cons (by lia),List.drop_eq_getElem_cons hi]
 refine ts_at c h.ar h.kd h.fl h.pr (h.pm.nodup_iff.mpr nd) (λz hz=>bd z (h.pm.mem_iff.mp hz)) (h.pw a (by simp)) (h.pw b (by simp)) (h.ne a (by simp)) (h.ne b (by simp)) hs λcc st' s' hs' pc pw' ar kd fl pr=>?_;have lc:cc.length=a.length+b.length:=by rw[pc.length_eq,List.length_append]
 have pf:(B1++cc::B2).flatten.Perm (B1++a::b::B2).flatten:=by
  simp only[List.flatten_append,List.flatten_cons];refine List.Perm.append_left _ ?_;rw[<-List.append_assoc];exact List.Perm.append_right _ pc
 refine go (B1++cc::B2) st' s' hs' ⟨ar,kd,fl,pr,(List.Perm.append_right _ pf).trans h.pm,λx hx=>?_,λx hx=>?_⟩ (by simp only[List.length_append,mN];lia) pf.length_eq
 ·rcases mS.mp hx with hx | hx
  ·exact h.pw x (List.mem_append_left _ hx)
  ·rcases mY.mp hx with rfl | hx
   ·exact pw'
   ·exact h.pw x (by simp [hx])
 ·rcases mS.mp hx with hx | hx
  ·exact h.ne x (List.mem_append_left _ hx)
  ·rcases mY.mp hx with rfl | hx
   ·have:=h.ne a (by simp)
    lia
   ·exact h.ne x (by simp [hx])
theorem RI.push(h:RI it κ lt ps bs rest st){n:Nat}(n1:1<=n)(n2:n<=rest.length)(p:(rest.take n).Pairwise (Rl lt)):RI it κ lt ps (bs++[rest.take n]) (rest.drop n) (setPending st ((pendingOf st).push (bs.flatten.length,n,0))):=by
 have e:(bs++[rest.take n]).flatten++rest.drop n=bs.flatten++rest:=by simp [List.flatten_append]
 have ln:(rest.take n).length=n:=by rw[mK];lia
 refine⟨?_,h.kd,h.fl, ?_, ?_,λb hb=>?_,λb hb=>?_⟩
 ·rw[e];exact h.ar
 ·have:=h.pr.snoc (b:=rest.take n) (q:=0);rw[Nat.zero_add,ln]at this;show PR 0 ((pendingOf st).push (bs.flatten.length,n,0)).toList _;rw[Array.toList_push];exact this
 ·rw[e];exact h.pm
 ·rcases mS.mp hb with hb | hb
  ·exact h.pw b hb
  ·rw[mB.mp hb];exact p
 ·rcases mS.mp hb with hb | hb
  ·exact h.ne b hb
  ·rw[mB.mp hb,ln];exact n1
theorem RI.mod(h:RI it κ lt ps bs rest st)(i pw:Nat):RI it κ lt ps bs rest (setPending st ((pendingOf st).modify i λx=>(x.fst,x.2.fst,pw))):=by
 refine⟨h.ar,h.kd,h.fl, ?_,h.pm,h.pw,h.ne⟩;show PR 0 ((pendingOf st).modify i λx=>(x.fst,x.2.fst,pw)).toList _;rw[Array.toList_modify];exact PR.mod (f:=λx=>(x.fst,x.2.fst,pw)) (λx=>⟨rfl,rfl⟩) i h.pr
theorem RI.arr(h:RI it κ lt ps bs rest st){r2:List Nat}(p:r2.Perm rest):RI it κ lt ps bs r2 (setArr st (kA it (bs.flatten++r2))):=⟨rfl,h.kd,h.fl,h.pr,(List.Perm.append_left _ p).trans h.pm,h.pw,h.ne⟩
theorem RI.len(h:RI it κ lt ps bs rest st):bs.flatten.length+rest.length=ps.length:=by rw[<-List.length_append];exact h.pm.length_eq
theorem RI.few(h:RI it κ lt ps bs rest st):bs.length<=ps.length:=by
 have key:∀bs:List (List Nat),(∀b∈bs,0<b.length)->bs.length<=bs.flatten.length:=λbs=>by
  induction bs with
  | nil=>intro _;exact nN 0
  | cons b bs ih=>
   intro hb;have:=ih λx hx=>hb x (gY _ hx);have:=hb b (mC ..);rw[mN,List.flatten_cons,List.length_append]
   lia
 have:=key bs h.ne;have:=h.len
 lia
theorem VX(c:Cmp prog w A κ it N lt Iv){Q:Unit->SortSt->Shared->Prop}(hA:arrOf st=kA it ps)(hk:kindOf st=κ)(hf:failedOf st=none)(hp:pendingOf st = #[])(nd:ps.Nodup)(bd:∀z∈ps,z<N)(hs:Iv s)
  (h:∀qs st' s',Iv s'->qs.Perm ps->qs.Pairwise (Rl lt)->arrOf st'=kA it qs->failedOf st'=none->Q () st' s'):kasC (model prog w) A E sortRuns' Q st s:=by
 rw[sortRuns'_eq];refine kasC_bind (kasC_get ?_);dsimp only;rw[hA,qL];generalize minRun' ps.length ps.length 0=mr;refine kasC_bind (kE (kO (λx c st' s'=>∃bs rest,c=(none,bs.flatten.length)/\Iv s'/\RI it κ lt ps bs rest st'/\x<=bs.flatten.length)
  (Q:=λc st' s'=>∃bs lo,c=(none,lo)/\Iv s'/\RI it κ lt ps bs [] st') ?a ?b ⟨[],ps,rfl,hs,⟨hA,hk,hf,by rw[hp];exact .nil,List.Perm.refl _,λ_ h=>(nomatch h),λ_ h=>(nomatch h)⟩,nN _⟩) ?d)
 case b=>
  rintro c st' s' ⟨bs,rest,rfl,hs',r,hx⟩;have:=r.len;have e:rest=[]:=List.length_eq_zero_iff.mp (by lia);subst e;exact⟨bs,_,rfl,hs',r⟩
 case a=>
  rintro x c st' s' _ _ ⟨bs,rest,rfl,hs',r,hx⟩;have rl:=r.len;dsimp only;by_cases e0:bs.flatten.length ≥ ps.length
  ·rw[nV e0];have e:rest=[]:=List.length_eq_zero_iff.mp (by lia);subst e;exact kasC_pure ⟨bs,_,rfl,hs',r⟩
  rw[nU e0,show ps.length-bs.flatten.length=rest.length by lia];have ndr:(bs.flatten++rest).Nodup:=r.pm.nodup_iff.mpr nd;have bdr:∀z∈bs.flatten++rest,z<N:=λz hz=>bd z (r.pm.mem_iff.mp hz);refine kasC_bind (RV c r.ar r.kd bdr (mI.mp ndr).2.1 (by lia) hs' λn r2 s2 hs2 n1 n2 p2 w2=>?_);have q2:=r.arr p2;have l2:=p2.length_eq;have bd2:∀z∈bs.flatten++r2,z<N:=λz hz=>bd z (q2.pm.mem_iff.mp hz);dsimp only;by_cases e1:n<mr
  case' pos=>
   rw[nV e1];refine kasC_bind (kasC_lift (wpAny_rule ?_));refine kasC_bind (ZI c q2.ar q2.kd bd2 (p2.nodup_iff.mpr (mI.mp ndr).2.1) n1 (by lia) (by lia) w2 hs2 λr3 s3 hs3 p3 w3=>?_);have q3:=q2.arr p3;have l3:=p3.length_eq;have n31:1<=min rest.length mr:=by lia
   have n32:min rest.length mr<=r3.length:=by lia
   rw[nU (by decide)]
  case' neg=>
   have q3:=q2;have n31:=n1;have n32:n<=r2.length:=by lia
   have w3:=w2;have hs3:=hs2;rw[nU e1]
  all_goals
   refine kasC_bind (kasC_get ?_);split
   ·refine kasC_bind (kE (kO (λ_ c st'' s''=>c=(none,())/\Iv s''/\∃bs',RI it κ lt ps bs' _ st''/\bs'.flatten.length=bs.flatten.length)
     (Q:=λc st'' s''=>c=(none,())/\Iv s''/\∃bs',RI it κ lt ps bs' _ st''/\bs'.flatten.length=bs.flatten.length) ?a2 (λ_ _ _ z=>z) ⟨rfl,hs3,bs,q3,rfl⟩) ?d2)
    case a2=>
     rintro y c st'' s'' _ _ ⟨rfl,hs4,bs',q4,f4⟩;refine kasC_bind (kasC_get ?_);split
     ·split
      ·exact kasC_pure ⟨rfl,hs4,bs',q4,f4⟩
      ·rename_i hz _;have s4:=q4.size;have gt:1<bs'.length:=by
        rw[<-s4];by_cases g1:(pendingOf st'').size>1
        ·exact g1
        ·rw[nU g1]at hz;cases hz
       refine kasC_bind (q4.merge c nd bd (by lia) hs4 λbs5 st5 s5 hs5 q5 l5 f5=>?_);rw[nU (by decide)];exact kasC_pure ⟨rfl,hs5,bs5,q5,f5.trans f4⟩
     ·exact kasC_pure ⟨rfl,hs4,bs',q4,f4⟩
    case d2=>
     rintro c st'' s'' ⟨rfl,hs4,bs',q4,f4⟩;dsimp only;refine kasC_bind (kasC_modify (kasC_bind (kasC_modify (kasC_pure ?_))));refine⟨_,_, ?_,hs4,f4▸(q4.mod ((pendingOf st'').size-1) _).push n31 n32 w3, ?_⟩
     ·rw[List.flatten_append,List.length_append,f4]
      congr 2
      simp only[List.flatten_cons,List.flatten_nil,List.append_nil,mK]
      lia
     ·rw[List.flatten_append,List.length_append,f4];simp only[List.flatten_cons,List.flatten_nil,List.append_nil,mK]
      lia
   ·refine kasC_bind (kasC_modify (kasC_pure ?_));refine⟨_,_, ?_,hs3,q3.push n31 n32 w3, ?_⟩
    ·rw[List.flatten_append,List.length_append]
     congr 2
     simp only[List.flatten_cons,List.flatten_nil,List.append_nil,mK]
     lia
    ·rw[List.flatten_append,List.length_append];simp only[List.flatten_cons,List.flatten_nil,List.append_nil,mK]
     lia
 case d=>
  rintro c st' s' ⟨bs,lo,rfl,hs',r⟩;dsimp only;refine kasC_bind (kE (kO (λx c st'' s''=>c=(none,())/\Iv s''/\∃bs',RI it κ lt ps bs' [] st''/\bs'.length+x<=ps.length)
   (Q:=λc st'' s''=>c=(none,())/\Iv s''/\∃bs',RI it κ lt ps bs' [] st''/\bs'.length<=1) ?a3 ?b3 ⟨rfl,hs',bs,r,r.few⟩) ?d3)
  case a3=>
   rintro y c st'' s'' _ _ ⟨rfl,hs4,bs',q4,f4⟩;refine kasC_bind (kasC_get ?_);have s4:=q4.size;split
   ·exact kasC_pure ⟨rfl,hs4,bs',q4,by lia⟩
   ·have ix:∀(p:Prop) [Decidable p],(if p then(pendingOf st'').size-2-1 else(pendingOf st'').size-2)+1<bs'.length:=λp _=>by split<;>lia
    refine kasC_bind (q4.merge c nd bd (ix _) hs4 λbs5 st5 s5 hs5 q5 l5 f5=>?_);rw[nU (by decide)];exact kasC_pure ⟨rfl,hs5,bs5,q5,by lia⟩
  case b3=>
   rintro c st'' s'' ⟨rfl,hs4,bs',q4,f4⟩;exact⟨rfl,hs4,bs',q4,by lia⟩
  case d3=>
   rintro c st'' s'' ⟨rfl,hs4,bs',q4,f4⟩;refine kasC_pure (h _ st'' s'' hs4 q4.pm ?_ q4.ar q4.fl);rw[List.append_nil]
   match bs',f4,q4 with
   | [],_,_=>exact .nil
   | [b],_,q4=>
    rw[show [b].flatten=b by simp];exact q4.pw b (mC ..)
end
def SortsBy(prog:Program)(w:World)(A:Around)(κ:SortKind)(vs:List Value)(R:List Nat->Shared->Prop)(s:Shared):Prop:=
 ∃(lt:Nat->Nat->Bool) (Iv:Shared->Prop),Cmp prog w A κ (pairsOf vs) vs.length lt Iv/\Iv s/\∀p s',Iv s'->p.Perm (List.range vs.length)->p.Pairwise (Rl lt)->R p s'
section
variable{prog:Program}{w:World}{A:Around}{E:Value->Shared->Prop}{κ:SortKind}{s:Shared}{vs:List Value}
theorem UK(it:Array Keyed):kA it (List.range it.size)=it:=by
 unfold kA;refine Array.ext (by simp) λi h1 h2=>?_;simp [kas_item,Array.getD,h2]
theorem RU{R:List Nat->Shared->Prop}{Q:Unit->SortSt->Shared->Prop}(h:SortsBy prog w A κ vs R s)(q:∀p st' s',R p s'->p.length=vs.length->arrOf st'=kA (pairsOf vs) p->failedOf st'=none->Q () st' s'):kasC (model prog w) A E sortRuns' Q (SortSt.mk' κ (pairsOf vs) #[] 7 none) s:=by
 obtain⟨lt,Iv,c,hs,go⟩:=h;have e:kA (pairsOf vs) (List.range vs.length)=pairsOf vs:=by
  have:=UK (pairsOf vs)
  rwa [pairsOf_size]at this
 exact VX c (ps:=List.range vs.length) e.symm rfl rfl rfl List.nodup_range (λz hz=>mV.mp hz) hs λqs st' s' hs' pm pw ar fl=>q qs st' s' (go qs s' hs' pm pw) (by rw[pm.length_eq,List.length_range]) ar fl
theorem snds(p:List Nat):(kA (pairsOf vs) p).map (·.2)=(p.map λi=>vs.getD i Value.none).toArray:=by
 apply Array.toList_inj.mp;rw[Array.toList_map];unfold kA;rw[List.map_map];exact List.map_congr_left λi _=>by show(kas_item (pairsOf vs) i).2=_;rw[kas_item_eq]
variable{h₀:Heap}{L a D:Addr}{m:Str->Option Value}{news:List (Addr×Obj)}
theorem ts_lsort{its:Array Value}{n:Nat}{g:Obj->List (Addr×Obj)}{Q:Value->Shared->Prop}(F:Fr h₀ L s.heap m)(N:News h₀ L s.heap news)(U:UpdF D (listOf its n) news g)(he:its.toList=vs)(h2:2<=vs.length)(hz:vs.length<=sizeLine)
  (h:∀e1 h',Fr h₀ L h' m->News h₀ L h' (g (seqObj "list" #[] e1))->
   wpAny (model prog w) A.in1 (keyKind' vs.toArray) (fun κ s'=>SortsBy prog w A.in1 κ vs (λp s''=>KasFin h₀ L m D e1 (p.map λi=>vs.getD i Value.none) (λs3=>Q .none s3) s'') s') (λ_ _=>False) { s with heap:=h' }) :
  wpAny (model prog w) A (call (.builtin "list.sort") [.ref D]) Q E s:=by
 subst he;obtain⟨pre,post,en,eg,x1,x2⟩:=U.split;have at0:=N (D,listOf its n) (by rw[en];exact gS _ (.head _));have ho:s.heap.get? D=some (seqObj "list" its.toList.toArray n):=by rw[Array.toArray_toList];exact at0.1
 obtain⟨e1,ho1⟩:∃e1,(s.heap.update D (Obj.mapSeq λ_=>#[])).get? D=some (seqObj "list" #[] e1):=⟨_,get?_update_seq ho λ_=>#[]⟩;have up:=Heap.SameBut.update s.heap D (Obj.mapSeq λ_=>(#[]:Array Value));have F1:=((kas_fr F up at0.2.1 at0.2.2).push (seqObj "tuple" its.toList.toArray 0)).push (seqObj "list" #[] 0);have N1:News h₀ L (((s.heap.update D (Obj.mapSeq λ_=>#[])).push (seqObj "tuple" its.toList.toArray 0)).push (seqObj "list" #[] 0)) (g (seqObj "list" #[] e1)):=λq hq=>by
  rw[eg]at hq;have old:∀b u,(s.heap.update D (Obj.mapSeq λ_=>#[])).get? b=some u->(((s.heap.update D (Obj.mapSeq λ_=>#[])).push (seqObj "tuple" its.toList.toArray 0)).push (seqObj "list" #[] 0)).get? b=some u:=λb u e=>gP _ (gP _ e);have keep:∀q,q∈pre∨q∈post->q.1≠D->(((s.heap.update D (Obj.mapSeq λ_=>#[])).push (seqObj "tuple" its.toList.toArray 0)).push (seqObj "list" #[] 0)).get? q.1=some q.2/\q.1≠L/\h₀.get? q.1=none:=λq hq nd=>by
   have y:=N q (by
    rw[en];rcases hq with hq | hq
    ·exact List.mem_append_left _ hq
    ·exact gS _ (.tail _ hq))
   exact⟨old _ _ ((up.2 q.1 nd).trans y.1),y.2⟩
  rcases mS.mp hq with hq | hq
  ·exact keep q (.inl hq) (x1 q hq)
  ·rcases mY.mp hq with rfl | hq
   ·exact⟨old _ _ ho1,at0.2⟩
   ·exact keep q (.inr hq) (x2 q hq)
 have ask:=h e1 _ F1 N1;refine wpAny_call_entry slot_list_sort ⟨_,at0.1,rfl⟩ entry_list_sort ?_ (args_list_sort _);rw[list_sort_plain];refine nQ (listItems_at ho rfl (nQ (listUpdate_at ho rfl (nQ (seqEpoch_at ho1 rfl (nQ (wpAny_newTuple (nQ (wpAny_newList (wpAny_holding ?_) (nO _))) hz)))) (by rw[mF];exact hz) (nO _))));have big:¬its.toList.toArray.size<2:=by rw[mF];lia
 dsimp only;rw[nU big,nU big];refine nQ (nT ask (fun κ s1 hk=>?_) λ_ _ x=>x.elim);refine nQ (nT (RU (E:=E) (Q:=λ_ st' s'=>∃p:List Nat,p.length=its.toList.length/\arrOf st'=kA (pairsOf its.toList) p/\failedOf st'=none/\KasFin h₀ L m D e1 (p.map λi=>its.toList.getD i Value.none) (λs3=>Q .none s3) s') hk λp st' s' a b c d=>⟨p,b,c,d,a⟩) ?_ λ_ _ x=>x);rintro⟨⟨⟩,st'⟩ s2 ⟨p,hp,har,hf,news2,g2,F2,N2,U2,k⟩;dsimp only;obtain⟨pre2,post2,en2,eg2,y1,y2⟩:=U2.split;rw[en2]at N2;have at2:=N2 (D,seqObj "list" #[] e1) (gS _ (.head _));have out:(arrOf st').map (·.2)=List.toArray (p.map λi=>its.toList.getD i Value.none):=by rw[har,snds]
 have osz:(List.toArray (p.map λi=>its.toList.getD i Value.none)).size<=sizeLine:=by rw[mF,mQ,hp];exact hz
 rw[out];have up2:=Heap.SameBut.update s2.heap D (Obj.mapSeq λ_=>List.toArray (p.map λi=>its.toList.getD i Value.none));obtain⟨c2,hc2⟩:∃c2,(s2.heap.update D (Obj.mapSeq λ_=>List.toArray (p.map λi=>its.toList.getD i Value.none))).get? D=some (seqObj "list" (List.toArray (p.map λi=>its.toList.getD i Value.none)) c2):=⟨_,get?_update_seq at2.1 λ_=>_⟩;refine nQ (seqEpoch_at at2.1 rfl (nQ (listUpdate_at at2.1 rfl ?_ (nO _) (Nat.le_succ_of_le osz))));rw[hf];simp only[bne_self_eq_false,Bool.false_eq_true,if_false];refine nS ⟨_,rfl,k _ c2 (kas_fr F2 up2 at2.2.1 at2.2.2) ?_⟩;rw[eg2];exact news_set N2 y1 y2 up2 hc2
end
end LwR
namespace LwD
open PySem PySem.Spec PyProof.Rows L2 Lw
section
variable{X:Cx}
def rSortSn:List V->Hp->VK->Prop:=λxs H Q=>∃(a:Addr) (ai:List (List Key×V)),xs=[.ref a]/\Rd H a (.dT ai)/\(∀p∈ai,∃ns:List Int,p.1=ik ns/\ns≠[])/\
 ∀(ys:List V) (zs:List (List Key×V)),zs.Perm ai->Keyed H ys zs->zs.Pairwise (λp q=>kC (qJ p.1) (qJ q.1)=true)->New H (.lst ys) Q
theorem JS(hc:X.calm=true):CallR X (.builtin "sorted") rSortSn:=by
 intro af s σ H xs us Q I r h;obtain⟨a,ai,rfl,ha,hk,q⟩:=h;obtain⟨u,rfl,ru⟩:=vI r;cases ru;obtain⟨z,lo,ks,rel,dd⟩:=AA I.hok ha;obtain⟨o,es,ep,hd1,hd2,hd3,he,his,hn⟩:=id dd;have raw:Raw s.heap a es ep:=⟨o,hd1,hd2,hd3⟩;have esz:es.size=ai.length:=by rw[size_of_entries he,<-Paired.length rel]
 obtain⟨m,F⟩:=I.fr;have kn:(ai.map (·.1)).Nodup:=by rw[KTkeys rel];exact hn
 have itup:∀(j:Nat) (h:j<es.size),∃(b:Addr) (ns:List Int) (v:V),es[j].key=.ref b/\H b=some (.tup (ns.map V.int))/\ai[j]? = some (ik ns,v)/\ns≠[]:=λj hj=>by
  have e1:=entry_at he j;rw[Array.getElem?_eq_getElem hj]at e1;cases e2:ks[j]? with
  | none=>rw[e2]at e1;cases e1
  | some x=>
   rw[e2]at e1;have e3:es[j]=entryOfKey _ x:=Option.some.inj e1;obtain⟨v,m1,m2⟩:=KTgetI rel e2;obtain⟨ns,n1,n2⟩:=hk _ (gX m1);dsimp only at n1;rw[n1]at m1 m2;rw[zR]at m2;exact⟨x.2.1,ns,v,by rw[e3];rfl,m2,m1,n2⟩
 refine PySem.W.kdu_sorted (NA lo) (I.ok.hd hc) F IN raw (by rw[esz];exact z) λD h' tk vs F' N' lt hlen hP=>?_;have vtup:∀(j:Nat) (hj:j<vs.length),∃(b:Addr) (ns:List Int) (v:V),vs[j]=.ref b/\H b=some (.tup (ns.map V.int))/\ai[j]? = some (ik ns,v)/\ns≠[]:=λj hj=>by
  obtain⟨h1,h2⟩:=hP j vs[j] (by simp [hj]);rw[h2];exact itup j h1
 have vl:vs.length=ai.length:=by rw[hlen,esz]
 have kvI:∀(j:Nat) (ns:List Int) (v:V),ai[j]? = some (ik ns,v)->qJ (ai.getD j ([],.non)).1=ns:=λj ns v e=>by rw[gG,e];exact yH ns
 have O:Strict (λi j=>kC (qJ (ai.getD i ([],.non)).1) (qJ (ai.getD j ([],.non)).1)) vs.length:=by
  refine⟨λa b c=>wA _ _ _,λa b=>uB _ _,λa b ha hb hab hf=>?_⟩;obtain⟨_,ns,v,_,_,e3,_⟩:=vtup a ha;obtain⟨_,ms,v',_,_,e3',_⟩:=vtup b hb;rw[kvI _ _ _ e3,kvI _ _ _ e3']at hf;show kC (qJ (ai.getD b ([],.non)).1) (qJ (ai.getD a ([],.non)).1)=true;rw[kvI _ _ _ e3,kvI _ _ _ e3'];refine CB _ _ (λz=>hab ?_) hf;have i1:(ai.map (·.1))[a]? = some (ik ns):=by rw[mE,e3];rfl
  have i2:(ai.map (·.1))[b]? = some (ik ns):=by rw[mE,e3',z];rfl
  exact(List.getElem?_inj (by rw[mQ];lia) kn).mp (i1.trans i2.symm)
 have fin:∀(idx:List Nat) (h3:Heap) (c tk3:Nat),idx.Perm (List.range ai.length)->idx.Pairwise (λi j=>kC (qJ (ai.getD i ([],.non)).1) (qJ (ai.getD j ([],.non)).1)=true)->Fr X.base X.env.locals h3 m->News X.base X.env.locals h3 ((D,PySem.W.listOf (idx.map λi=>vs.getD i Value.none).toArray c)::xL X.base s.heap X.env.locals)->
   EP X af σ Q (.ref D) { s with heap:=h3,toks:=tk3 } :=λidx h3 c tk3 pm pw F3 N3=>by
  have il:idx.length=ai.length:=by rw[pm.length_eq,List.length_range]
  have im:∀i∈idx,i<ai.length:=λi hi=>mV.mp (pm.mem_iff.mp hi);have tr:∀js:List Nat,(∀i∈js,i<ai.length)->∃ys:List V,Vals ys (js.map λi=>vs.getD i Value.none)/\Keyed H ys (js.map λi=>ai.getD i ([],.non)):=by
   intro js;induction js with
   | nil=>exact λ_=>⟨[],.nil,rfl,λi y p e=>by simp at e⟩
   | cons j js ih=>
    intro hj;obtain⟨ys,r1,r2,r3⟩:=ih λi hi=>hj i (gY _ hi);have hj1:=hj j (mC ..);obtain⟨b,ns,x,e1,e2,e3,_⟩:=vtup j (by rw[vl];exact hj1);refine⟨.ref b::ys, ?_,by simp [r2],λi y p ey ep=>?_⟩
    ·rw[mX];refine .cons ?_ r1;rw[gG,gK (by rw[vl];exact hj1),e1]
     rfl
    ·cases i with
     | zero=>
      simp only[mX,List.getElem?_cons_zero,Option.some.injEq]at ey ep;rw[gG,e3]at ep;subst ey;subst ep;exact⟨b,ns,rfl,e2,rfl⟩
     | succ i=>
      simp only[mX,gO]at ey ep;exact r3 i y p ey ep
  obtain⟨ys,rv,hy⟩:=tr idx im;have yl:ys.length=ai.length:=by rw[hy.1,mQ];exact il
  have nb:=gA (ho:=.lst ys) (tk:=tk3) I F F3 N3 lt λe=>⟨by rw[yl];exact z,_,c,rv,e⟩;have pz:(idx.map λi=>ai.getD i ([],.non)).Perm ai:=by
   have:=pm.map λi=>ai.getD i ([],V.non);rw[yU]at this;exact this
  exact⟨.ref D,_,nb.2,rfl,(q ys _ pz hy (List.pairwise_map.mpr pw)).at nb.1⟩
 have nD:=N' (D,PySem.W.listOf vs.toArray 0) (mC ..);by_cases h2:vs.length<2
 ·refine KD (n:=0) nD.1 h2 ?_;obtain⟨c,hat⟩:=sortedHeap_at (vs:=vs) (n:=0) (out:=vs.toArray) nD.1;have old:∀b u,b≠D->h'.get? b=some u->(sortedHeap h' D vs vs.toArray).get? b=some u:=λb u hb e=>by
   rw[sortedHeap_old hb (nF e)];exact e
  have er:(List.range ai.length).map (λi=>vs.getD i Value.none)=vs:=by rw[<-vl];exact yU vs _
  refine fin (List.range ai.length) _ c tk (List.Perm.refl _) (by
   rw[<-vl];have:vs.length=0∨vs.length=1:=by lia
   rcases this with z | z<;>rw[z]<;>simp) ⟨?_,λb u e=>old b u (λy=>by rw[y,nD.2.2]at e;cases e) (F'.keep b u e),F'.above⟩ (λp hp=>?_)
  ·obtain⟨ob,es',ep',e1,e2⟩:=F'.ns;exact⟨ob,es',ep',old _ _ (Ne.symm nD.2.1) e1,e2⟩
  ·rw[er]at hp;rcases mY.mp hp with rfl | hp
   ·exact⟨hat,nD.2⟩
   ·have y:=N' p (gY _ hp);exact⟨old _ _ (nH (lt p hp)) y.1,y.2⟩
 ·have hd:∀q∈xL X.base s.heap X.env.locals,q.1≠D:=λq hq=>nH (lt q hq);refine LwR.ts_lsort (vs:=vs) (its:=vs.toArray) F' N' (.head hd) rfl (by lia) (by rw[vl];exact z) λe1 h4 F4 N4=>?_;have in4:∀b xs,H b=some (.tup xs)->∃its:List Value,Vals xs its/\IsTup h4 b its.toArray:=λb xs e=>by
   obtain⟨_,its,rv,⟨ob,ho,hc2⟩,_⟩:=(show ObjOk X.prog X.w H s.heap b (.tup xs)from I.hok b _ e);refine⟨its,rv,ob, ?_,hc2⟩;cases y:X.base.get? b with
   | some u=>
    have y2:=I.bk b u y;rw[ho]at y2;cases y2;exact F4.keep b _ y
   | none=>exact(N4 (b,ob) (gY _ (xY (λy2=>by rw[y2,I.free]at e;cases e) y ho))).1
  have tups:∀l:List Value,(∀v∈l,v∈vs)->∃fs:List Value,PySem.W.KatTups h4 l fs/\fs.length=l.length/\∀f∈fs,∃n t,f=Value.int n t:=by
   intro l;induction l with
   | nil=>exact λ_=>⟨[],.nil,rfl,λ_ y=>nomatch y⟩
   | cons v r ih=>
    intro hm;obtain⟨fs,t1,t2,t3⟩:=ih λv' hv'=>hm v' (gY _ hv');obtain⟨j,hj,ev⟩:=List.getElem_of_mem (hm v (mC ..));obtain⟨b,ns,x,g1,g2,g3,g4⟩:=vtup j hj;obtain⟨its,rv,ob,ho,hc2,nn,hdt⟩:=in4 b _ g2
    match ns,g4,rv with
    | n::nr,_,.cons (b:=iv) (l₂:=ir) rr rt=>
     obtain⟨tt,rfl⟩:=rr;rw[<-ev,g1];exact⟨.int n tt::fs,.cons ho hc2 hdt (by simp) t1,by simp [t2],λf hf=>(mY.mp hf).elim (λy=>⟨n,tt,y⟩) (t3 f)⟩
  obtain⟨fs,t1,t2,t3⟩:=tups vs λ_ y=>y;refine PySem.W.kat_kind (T:=.type "int") t1 (by lia) (λf hf=>?_) (by decide) ?_
  ·obtain⟨n,t,rfl⟩:=t3 f hf;exact PySem.W.Looks.of_pure rfl
  ·refine⟨λi j=>kC (qJ (ai.getD i ([],.non)).1) (qJ (ai.getD j ([],.non)).1),λs'=>s' = { s with heap:=h4,toks:=tk },⟨λi j s' C hi hj hs' hC=>?_,O⟩,rfl,λp s' hs' pm pw=>?_⟩
   ·subst hs';obtain⟨b,ns,x,g1,g2,g3,_⟩:=vtup i hi;obtain⟨b',ns',x',g1',g2',g3',_⟩:=vtup j hj;obtain⟨its,rv,ob,ho,hc2,nn,hdt⟩:=in4 b _ g2;obtain⟨its',rv',ob',ho',hc2',nn',hdt'⟩:=in4 b' _ g2';have hC:=hC _ rfl;unfold PySem.W.kas_cmp;rw[PySem.W.kas_item_eq,PySem.W.kas_item_eq];dsimp only;rw[show vs.getD i Value.none=.ref b by rw[gG,gK hi,g1];rfl,show vs.getD j Value.none=.ref b' by rw[gG,gK hj,g1'];rfl];rw[kvI _ _ _ g3,kvI _ _ _ g3']at hC;have i1:=kK rv;have i2:=kK rv';refine PySem.W.kat_lt ho hdt ho' hdt' (CA i1 i2 ?_ 0);rw[mF,mF,qO i1,qO i2,FV];exact hC
   ·subst hs';exact PySem.W.KasFin.intro F4 N4 (.head hd) λh5 c F5 N5=>fin p h5 c tk (by rw[<-vl];exact pm) pw F5 N5
end
end LwD
namespace Lw
open PySem PySem.Spec PyProof.Rows L2
def Sm:V->Prop
 | .int i=>i.natAbs<2^1900
 | _=>True
inductive Thing(H:Hp):V->Prop where
 | sc {v:V} {k:Kd} (h:KdOf H v k) (n:k≠.tup):Thing H v
 | tup {a:Addr} {xs:List V} (e:H a=some (.tup xs)) (h:∀x∈xs,Sm x/\∃k,KdOf H x k):Thing H (.ref a)
def zK:List V->Bool
 | [.int t,.int b]=>decide (1<=b)&&decide (Int.gcd t b=1)
 | _=>false
def CN(H:Hp):V->Bool
 | .ref a=>match H a with
  | some (.tup xs)=>zK xs
  | _=>false
 | _=>false
theorem YE{H:Hp}{v:V}{k:Kd}(h:KdOf H v k)(n:k≠.tup):CN H v=false:=by
 cases h with
 | tup e=>exact absurd rfl n
 | lst e=>simp only[CN,e]
 | _=>rfl
theorem JG{H:Hp}{a:Addr}{xs:List V}(e:H a=some (.tup xs)):CN H (.ref a)=zK xs:=by simp only[CN,e]
theorem BR{xs:List V}(h:xs.length≠2):zK xs=false:=by
 match xs,h with
 | [],_=>rfl
 | [_],_=>unfold zK;split<;>simp_all
 | [_,_],h=>exact absurd rfl h
 | _::_::_::_,_=>unfold zK;split<;>simp_all
theorem TK{x y:V}(h:∀n,x≠.int n):zK [x,y]=false:=by
 unfold zK;split
 ·rename_i t b e;injection e with e1 _
  exact absurd e1 (h t)
 ·rfl
theorem TJ{x y:V}(h:∀n,y≠.int n):zK [x,y]=false:=by
 unfold zK;split
 ·rename_i t b e;injection e with _ e2
  injection e2 with e2 _
  exact absurd e2 (h b)
 ·rfl
def Tape(cl:Addr)(H:Hp)(tp:Addr)(B:Int):Prop:=∃(ns:List Int) (spot rest left:Int),H tp=some (.lst [.ref cl,.int spot,.int rest,.int left])/\H cl=some (.lst (ns.map V.int))/\ns.length<=63/\0<=spot/\spot<=B
theorem Tape.mono{cl:Addr}{H H':Hp}{tp:Addr}{B B':Int}(e:Same H H')(hB:B<=B')(h:Tape cl H tp B):Tape cl H' tp B':=by
 obtain⟨ns,spot,rest,left,h1,h2,h3,h4,h5⟩:=h;exact⟨ns,spot,rest,left,e _ _ h1,e _ _ h2,h3,h4,by lia⟩
def spWhole:Sp:=λvs H Q _=>∃v k,vs=[v]/\KdOf H v k/\Q (.bl (decide (k=.int))) H
def spIsf:Sp:=λvs H Q _=>∃v,vs=[v]/\Thing H v/\Q (.bl (CN H v)) H
def spGcd:Sp:=λvs H Q _=>∃a b:Int,vs=[.int a,.int b]/\0<b/\b.natAbs<2^8000/\Q (.int (Int.gcd a b)) H
def spDraw:Sp:=λvs H Q _=>∃(tp:Addr) (ae B:Int),vs=[.ref tp,.int ae]/\∃cl,Tape cl H tp B/\B<2^40/\0<ae/\ae<2^100/\
 ∀(r:Int) (H':Hp),0<=r->r<ae->Tape cl H' tp (B+1)->But tp H H'->Q (.int r) H'
def IT(t b:Int):Int:=(if b<0 then 0-t else t)/(Int.gcd t b:Int)
def IU(t b:Int):Int:=(if b<0 then 0-b else b)/(Int.gcd t b:Int)
def LowFit(t b:Int):Prop:=b.natAbs<2^8000∨(t.natAbs<2^13400/\b.natAbs<2^13400)
def spLow:Sp:=λvs H Q _=>∃t b:Int,vs=[.int t,.int b]/\b≠0/\LowFit t b/\
 ∀(p:Addr) (H':Hp),H p=none->Same H H'->H' p=some (.tup [.int (IT t b),.int (IU t b)])->Q (.ref p) H'
def MO(K:nW):Sp:=λvs H Q _=>∃(a:Addr) (ns:List Int),vs=[.ref a]/\SqL K H a (ns.map V.int)/\ns.length<=63/\∀H',Q (.bl true) H'
structure Txt(mg:Str->Option Value):Prop where
 isi:mg "isinstance" = none
 len:mg "len" = none
 int:mg "int" = none
 bool:mg "bool" = none
 tup:mg "tuple" = none
 lst:mg "list" = none
 str:mg "str" = none
 abs:mg "abs" = none
 rng:mg "range" = none
 lbits:∃t,mg "LONG_BITS" = some (.int 8000 t)
 all:mg "all" = none
 sum:mg "sum" = none
 zip:mg "zip" = none
 sorted:mg "sorted" = none
 min:mg "min" = none
 letters:∃t,mg "MOST_LETTERS" = some (.int 4 t)
 degree:∃t,mg "MOST_DEGREE" = some (.int 16 t)
 terms:∃t,mg "MOST_TERMS" = some (.int 500 t)
 verr:mg "ValueError" = none
 signs:∃t,mg "MOST_SIGNS" = some (.int 4000 t)
structure Df(K:nW)(mg:Str->Option Value)(x:Str)(st:Stmt)(ps:List Str)(f:Addr)(fd:FuncData):Prop where
 F:Fun K x x st f fd
 b:Binds K fd ps []
 m:mg x=some (.ref f)
structure DG(P:Program)(w:World)(K:nW)(mg:Str->Option Value)(base:Heap)(n:Nat)(x:Str)(st:Stmt)(ps:List Str)(sp:Sp):Prop where
 ex:∃f fd,Df K mg x st ps f fd/\FnOk P w K mg base CX0 n f fd ps sp
theorem mkD{P:Program}{w:World}{K:nW}{mg:Str->Option Value}{base:Heap}{n:Nat}{x:Str}{st:Stmt}{ps:List Str}{sp:Sp}{f:Addr}{fd:FuncData}(D:Df K mg x st ps f fd)(G:FnOk P w K mg base CX0 n f fd ps sp):DG P w K mg base n x st ps sp:=⟨_,_,D,G⟩
theorem cal{X:Cx}{n:Nat}{x:Str}{st:Stmt}{ps:List Str}{sp:Sp}{e:Expr}{es:List Expr}{t:TA}{p pos:Pos}(G:DG X.prog X.w X.K X.mg X.base n x st ps sp)(hr:Room n X.A)(ha:PA X (e::es) t)(hg:Gl X x:=by exact rfl)(hdb:(x==("__debug__" :Str))=false:=by decide)(he:starEach (e::es) X.env=(false,eval e X.env)::starEach es X.env:=by rfl)(hpl:(backTo pos (starEach es X.env)).any (·.1)=false:=by rfl) :
  PE X (.Call (.Name x p) (e::es) [] pos) (MD sp [] E0 t):=by
 obtain⟨f,fd,D,F⟩:=G.ex;exact jT F hr hg D.m D.F.kp D.b .nil kU ha hdb he hpl
theorem scK{N P:List Str}{sc:Scope}(h:sc.kind=.function/\sc.isCoroutine=false/\sc.isGenerator=false/\N.Nodup/\N.take P.length=P/\(∀x∈P,sc.names.lookup x=some .local∨sc.names.lookup x=some .cell)/\∀y∈sc.names,y.2≠.free):FnScope N P sc:=⟨h.1,h.2.1,h.2.2.1,h.2.2.2.1,h.2.2.2.2.1,h.2.2.2.2.2.1,h.2.2.2.2.2.2⟩
variable{P:Program}{w:World}{K:nW}{mg:Str->Option Value}{base:Heap}{f fd:_}
theorem WI:FnScope ["thing"] ["thing"] (jJ uR):=scK (by decide +kernel)
theorem TL(F:Fun K "is_whole" "is_whole" uR f fd)(T:Txt mg):FnOk P w K mg base CX0 1 f fd ["thing"] spWhole:=by
 refine F.ok WI (λvs H Q E h=>?_) (λcdv A outer s H vs Q E hr h=>?_)
 ·obtain⟨v,k,rfl,_⟩:=h
  rfl
 ·obtain⟨v,k,rfl,hk,q⟩:=h;refine⟨_,jE (jK (zJ (xD GA T.isi T.int boot_int (pv 0)) (BO (KL (xD uG T.isi T.bool boot_bool (pv 0)))))), ?_⟩;refine⟨_,rfl,rfl,k,hk,_,rfl, ?_⟩;refine uE (λe=>?_) (λe=>?_)
  ·refine⟨_,rfl,rfl,k,hk,_,rfl, ?_⟩;cases k<;>first | exact q | exact absurd e (by decide)
  ·cases k<;>first | exact q | exact absurd rfl e
theorem scGcd:FnScope ["one","other"] ["one","other"] (jJ PP):=scK (by decide +kernel)
theorem XT{X:Cx} :MtR X "int.bit_length" (λx xs H Q=>∃i:Int,x=.int i/\xs=[]/\Q (.int (Builtin.Int.intBits i:Nat)) H):=by
 intro af s σ H x xs v us Q I rx rs q;obtain⟨i,rfl,rfl,q⟩:=q;obtain⟨t,rfl⟩:=rx;cases rs;exact call_int_bit_length ⟨.int (Builtin.Int.intBits i:Nat),H,I.tok _,⟨_,rfl⟩,q⟩
theorem ok_gcd(F:Fun K "greatest_divisor" "greatest_divisor" PP f fd)(T:Txt mg):FnOk P w K mg base CX0 1 f fd ["one","other"] spGcd:=by
 obtain⟨tl,hl⟩:=T.lbits;refine F.ok scGcd (λvs H Q E h=>?_) (λcdv A outer s H vs Q E hr h=>?_)
 ·obtain⟨a,b,rfl,_⟩:=h
  rfl
 ·obtain⟨a,b,rfl,hb,hs,k⟩:=h;refine⟨_,jB (IC PassesOwn.never (jI wZ (pv 1) jC (jR _))
    (jE (jX (jI yE (pe_bm0 PySem.F.plainAttrs_int slot_int_bit_length type_int_bit_length XT (pv 1)) (qF (v:=.int 8000) (by rfl) hl ⟨_,rfl⟩) (jR _)) PU
     (jE (KJ (i:=0) (j:=1) rfl scGcd.nd rfl rfl (by decide) rfl rfl (jA (pv 1) (jA (jH vT (pv 0) (pv 1)) jD)) rfl)))))
   (jE (jK (pv 0))), ?_⟩
  refine HD (fun σ H1=>H1=H/\∃p q:Int,σ=[some (.int p),some (.int q)]/\0<=q/\(0<q∨0<=p)/\q.natAbs<2^8000/\Int.gcd p q=Int.gcd a b)
   (fun σ _=>match σ with | [_,some (.int q)]=>q.toNat | _=>0) ⟨rfl,a,b,rfl,by lia,.inl hb,hs,rfl⟩ ?_ ?_
  ·rintro σ H1 ⟨rfl,p,q,rfl,h0,h1,hq8,h2⟩;refine⟨_,rfl,rfl,_,rfl, ?_⟩;refine uE (λe=>?_) (λe=>?_)
   ·have hq:0<q:=by
     have:q≠0:=λz=>by simp [z]at e
     lia
    have hbits:(Builtin.Int.intBits q)<=8000:=PySem.intBits_le_iff.mpr hq8;refine⟨_,rfl,rfl,_,rfl,rfl,_,_,rfl,rfl,_,rfl,kW (mR (by lia)) ?_⟩;refine⟨_,rfl,_,rfl,_,rfl,_,_,rfl,rfl,hq,_,_,rfl, ?_⟩;have m1:=Int.emod_nonneg p (b:=q) (by lia);have m2:=Int.emod_lt_of_pos p hq;have m3:(p%q).natAbs<=q.natAbs:=by lia
    refine⟨⟨rfl,q,p%q,rfl,m1,.inr h0,hV m3 hq8,(LwM.JE p q).trans h2⟩, ?_⟩;show(p%q).toNat<q.toNat
    lia
   ·have hq:q=0:=by
     by_cases z:q=0
     ·exact z
     ·exact absurd (by simp [z]) e
    subst hq;refine⟨_,rfl, ?_⟩;have:p=((Int.gcd a b:Nat):Int):=by
     rw[<-h2,Int.gcd_zero_right]
     lia
    rw[this];exact k
  ·rintro σ H1 Q1 Q2 hQ ⟨v,e,hs,k',ek,q⟩;exact⟨v,e,hs,k',ek,hQ _ _ q⟩
theorem scIsf:FnScope ["thing","top","bottom"] ["thing"] (jJ SL):=scK (by decide +kernel)
theorem ok_isf{fW fG:Addr}{fdW fdG:FuncData}(F:Fun K "is_fraction" "is_fraction" SL f fd)(T:Txt mg)(DW:Df K mg "is_whole" uR ["thing"] fW fdW)(DG:Df K mg "greatest_divisor" PP ["one","other"] fG fdG) :
 FnOk P w K mg base CX0 2 f fd ["thing"] spIsf:=by
 have GW:FnOk P w K mg base CX0 1 fW fdW ["thing"] spWhole:=TL DW.F T;have GG:FnOk P w K mg base CX0 1 fG fdG ["one","other"] spGcd:=ok_gcd DG.F T;refine F.ok scIsf (λvs H Q E h=>?_) (λcdv A outer s H vs Q E hr h=>?_)
 ·obtain⟨v,rfl,_⟩:=h
  rfl
 ·obtain⟨v,rfl,hv,q⟩:=h;refine⟨_,jB (jX (PW.pt (vB (qZ (qM (xD uF T.isi T.tup boot_tuple (pv 0)))) (qT (jI wZ (jU kL (by rfl) T.len PySem.boot_len (jA (pv 0) jD)) jC (jR _))))) (jE (jK xS)) jM)
   (jB (vK (pv 0) (vS rfl (jZ (jS (i:=1) scIsf.nd rfl (Or.inl rfl)) (jZ (jS (i:=2) scIsf.nd rfl (Or.inl rfl)) qW))))
   (jB (jX (PW.pt (vB (qZ (qM (jT GW hr rfl DW.m DW.F.kp DW.b .nil kU (jA (pv 1) jD)))) (vB (qZ (qM (jT GW hr rfl DW.m DW.F.kp DW.b .nil kU (jA (pv 2) jD)))) (qT (jI zL (pv 2) jC (jR _)))))) (jE (jK xS)) jM)
   (jE (jK (xW vC (jT GG hr rfl DG.m DG.F.kp DG.b .nil kU (jA (pv 1) (jA (pv 2) jD))) jC (jR _)))))), ?_⟩
  cases hv with
  | @sc _ k hk n=>
   refine⟨_,rfl,rfl,k,hk,_,rfl, ?_⟩;refine kQ (by cases k<;>first | rfl | exact absurd rfl n) (kD ?_);show Q (.bl false) H;rw[YE hk n]at q;exact q
  | @tup a xs e hx=>
   rw[JG e]at q;refine⟨_,rfl,rfl,.tup,.tup e,_,rfl,qV ?_⟩;refine⟨_,rfl,a,xs,rfl,.inr (SqT.of e),rfl,_,rfl, ?_⟩;by_cases hl:xs.length=2
   ·match xs,hl,hx,e,q with
    | [x,y],_,hx,e,q=>
     refine qV ?_;obtain⟨_,k1,h1⟩:=hx x (by simp);obtain⟨_,k2,h2⟩:=hx y (by simp);refine⟨_,rfl,a,[x,y],rfl,SqT.of e,rfl,x,[y],rfl,y,[],rfl,rfl, ?_⟩;refine⟨_,rfl,x,k1,rfl,h1,_,rfl, ?_⟩;by_cases e1:k1=.int
     ·subst e1;cases h1 with
      | int t=>
      refine qV ?_;refine⟨_,rfl,y,k2,rfl,h2,_,rfl, ?_⟩;by_cases e2:k2=.int
      ·subst e2;cases h2 with
       | int b=>
       refine qV ?_;refine⟨_,rfl,_,_,rfl,rfl,_,rfl, ?_⟩;by_cases hb:b<1
       ·refine kQ (mT hb) ?_;have z:zK [.int t,.int b]=false:=by
         show(decide (1<=b)&&_)=false;rw[mR (by lia)]
         rfl
        rw[z]at q;exact q
       ·refine kW (mR hb) ?_;refine⟨_,rfl,_,rfl,t,b,rfl,by lia,hX (hx (.int b) (by simp)).1 (gZ (by decide) (by decide)),rfl, ?_⟩;have z:zK [.int t,.int b]=decide (V.int (Int.gcd t b:Int)=V.int 1):=by
         show(decide (1<=b)&&decide (Int.gcd t b=1))=_;rw[mT (by lia:1<=b),GU];by_cases g:Int.gcd t b=1
         ·simp [g]
         ·have:¬((Int.gcd t b:Int)=1):=by lia
          simp [g,this]
        rw[z]at q;exact q
      ·refine kQ (by simp [e2]) ?_;refine kD ?_;rw[TJ (by cases h2<;>first | exact absurd rfl e2 | (intro n z;cases z))]at q;exact q
     ·refine kQ (by simp [e1]) ?_;refine kD ?_;rw[TK (by cases h1<;>first | exact absurd rfl e1 | (intro n z;cases z))]at q;exact q
   ·refine kQ ?_ ?_
    ·rw[mR]
     ·rfl
     ·intro z;injection z with z
      lia
    ·rw[BR hl]at q;exact q
theorem scLow:FnScope ["top","bottom","one","other"] ["top","bottom"] (jJ FF):=scK (by decide +kernel)
theorem FO(F:Fun K "_law_low" "_law_low" FF f fd)(T:Txt mg):FnOk P w K mg base CX0 1 f fd ["top","bottom"] spLow:=by
 refine F.ok scLow (λvs H Q E h=>?_) (λcdv A outer s H vs Q E hr h=>?_)
 ·obtain⟨t,b,rfl,_⟩:=h
  rfl
 ·obtain⟨t,b,rfl,hb,hs,k⟩:=h;refine⟨_,jB (jX (jI zL (pv 1) jC (jR _)) (jE (KJ (i:=0) (j:=1) rfl scLow.nd rfl rfl (by decide) rfl rfl (jA (jH yQ jC (pv 0)) (jA (jH yQ jC (pv 1)) jD)) rfl)) jM)
   (jB (jL (i:=2) scLow.nd rfl (Or.inl rfl) (jU VP (by rfl) T.abs boot_abs (jA (pv 0) jD)))
   (jB (jL (i:=3) scLow.nd rfl (Or.inl rfl) (pv 1))
   (jB (IC PassesOwn.never (jI yE (pv 2) jC (jR _)) (jE (KJ (i:=2) (j:=3) rfl scLow.nd rfl rfl (by decide) rfl rfl (jA (jH vT (pv 3) (pv 2)) (jA (pv 2) jD)) rfl)))
   (jE (jK (pe_tup (jA (jH LwD.IH (pv 0) (pv 3)) (jA (jH LwD.IH (pv 1) (pv 3)) jD)))))))), ?_⟩
  refine⟨_,rfl,_,_,rfl,rfl,_,rfl, ?_⟩;have fin:∀t' b':Int,0<b'->(∀q:Int,0<q->q<=b'->LwD.CDivP t' q/\LwD.CDivP b' q)->t'=(if b<0 then 0-t else t)->b'=(if b<0 then 0-b else b)->Int.gcd t' b'=Int.gcd t b->
    (yA (yO (tCB (λxs H Q=>∃i,xs=[V.int i]/\Q (.int (if i<0 then -i else i)) H) (xG (kG 0) tNil)) (qY 2)) (yA (yO (kG 1) (qY 3)) (yA (JZ (DQ (tOp (rI0 λi j=>V.bl (decide (j<i))) (kG 2) (tC (.int 0)))) (tPar 2 3 (xG (tOp (rI (λ_ j=>0<j) λi j=>.int (i%j)) (kG 3) (kG 2)) (xG (kG 2) tNil)))) (EX (tTup (xG (tOp (rI LwD.CDivP λi j=>.int (i/j)) (kG 0) (kG 3)) (xG (tOp (rI LwD.CDivP λi j=>.int (i/j)) (kG 1) (kG 3)) tNil))))))) { nx:=λ_ H'=>Q .non H',rt:=Q } [some (.int t'),some (.int b'),none,none] H:=by
   intro t' b' hb' hs' et eb hg;refine⟨_,rfl,_,rfl,_,rfl, ?_⟩;refine HD (fun σ H1=>H1=H/\∃p q:Int,σ=[some (.int t'),some (.int b'),some (.int p),some (.int q)]/\0<=p/\0<q/\Int.gcd q p=Int.gcd t b)
    (fun σ _=>match σ with | [_,_,some (.int p),_]=>p.toNat | _=>0) ⟨rfl,_,b',rfl,by split<;>lia,hb', ?_⟩ ?_ ?_
   ·rw[<-hg,Int.gcd_comm t'];split
    ·exact Int.gcd_neg
    ·rfl
   ·rintro σ H1 ⟨rfl,p,q,rfl,h0,h1,h2⟩;refine⟨_,rfl,_,_,rfl,rfl,_,rfl, ?_⟩;refine uE (λe=>?_) (λe=>?_)
    ·have hp:0<p:=mH e;refine⟨_,rfl,_,rfl,_,_,rfl,rfl,hp,_,rfl,_,_,rfl, ?_⟩;have m1:=Int.emod_nonneg q (b:=p) (by lia);have m2:=Int.emod_lt_of_pos q hp;refine⟨⟨rfl,q%p,p,rfl,m1,hp,(LwM.JE q p).trans h2⟩, ?_⟩;show(q%p).toNat<p.toNat
     lia
    ·have hp:p=0:=by
      have:¬0<p:=λz=>e (mT z)
      lia
     subst hp;have hq:q=((Int.gcd t b:Nat):Int):=by
      rw[<-h2,Int.gcd_zero_right]
      lia
     have gb:q<=b':=by
      rw[hq,<-hg];exact LwM.gcd_le t' b' hb'
     obtain⟨c1,c2⟩:=hs' q h1 gb;refine⟨_,rfl,_,rfl,_,_,rfl,rfl,c1,_,rfl,_,rfl,_,_,rfl,rfl,c2,gF, ?_⟩;refine fresh λp H' n s1 e1=>k p H' n s1 ?_;rw[e1,hq,et,eb]
     rfl
   ·rintro σ H1 Q1 Q2 hQ ⟨v,e,i,j,e1,e2,k',ek,q⟩;exact⟨v,e,i,j,e1,e2,k',ek,hQ _ _ q⟩
  have hs2:∀t' b':Int,t'.natAbs=t.natAbs->b'.natAbs=b.natAbs->0<b'->∀q:Int,0<q->q<=b'->LwD.CDivP t' q/\LwD.CDivP b' q:=λt' b' e1 e2 h0 q h1 h2=>by
   rcases hs with hs | ⟨ha,hb2⟩
   ·have hq:q.natAbs<2^8000:=hV (by lia) hs;exact⟨LwD.JR ⟨h1,hq⟩,LwD.JR ⟨h1,hq⟩⟩
   ·exact⟨LwD.CV h1 gC (by rw[e1];exact ha),LwD.CV h1 gC (by rw[e2];exact hb2)⟩
  by_cases n:b<0
  ·refine kQ (mT n) ?_;refine⟨_,rfl,_,_,rfl,rfl,_,rfl,_,_,rfl,rfl,_,_,rfl, ?_⟩;refine fin (0-t) (0-b) (by lia) (hs2 _ _ (by lia) (by lia) (by lia)) (by rw[nV n]) (by rw[nV n]) ?_;rw[Int.zero_sub,Int.zero_sub,Int.neg_gcd,Int.gcd_neg]
  ·refine kW (mR n) ?_;exact fin t b (by lia) (hs2 _ _ rfl rfl (by lia)) (by rw[nU n]) (by rw[nU n]) rfl
theorem AW{t b:Int}(h:0<b):IT t b=t/(Int.gcd t b:Int)/\IU t b=b/(Int.gcd t b:Int):=by
 unfold IT IU;rw[nU (by lia),nU (by lia)];exact⟨rfl,rfl⟩
theorem YR{ns:List Int}{i:Int}(h0:0<=i)(h1:i<ns.length):∃c:Int,atI (ns.map V.int) i=some (.int c):=by
 obtain⟨j,rfl⟩:=gN h0;have hj:j<ns.length:=by lia
 exact⟨ns[j],kY (by simp [hj])⟩
theorem scDraw:FnScope ["tape","many","spot","cell","some","rest"] ["tape","many"] (jJ uY):=scK (by decide +kernel)
theorem AS(F:Fun K "_law_draw" "_law_draw" uY f fd)(T:Txt mg):FnOk P w K mg base CX0 1 f fd ["tape","many"] spDraw:=by
 refine F.ok scDraw (λvs H Q E h=>?_) (λcdv A outer s H vs Q E hr h=>?_)
 ·obtain⟨tp,ae,B,rfl,_⟩:=h
  rfl
 ·obtain⟨tp,ae,B,rfl,cl,⟨ns,spot,rest,left,h1,h2,h3,h4,h5⟩,hB,hm,hm2,k⟩:=h;have hne:cl≠tp:=by
   rintro rfl;rw[h1]at h2;injection h2 with h2
   injection h2 with h2
   cases ns with
   | nil=>cases h2
   | cons n r=>injection h2 with z;cases z
  refine⟨_,jB (jX (jI vC (kB kX (pv 0) jC (λ_ _=>rfl)) jC (jR _))
    (jB (jL (i:=2) scDraw.nd rfl (Or.inl rfl) (kB kX (pv 0) jC (λ_ _=>rfl)))
    (jB (vK (jH qB (pv 2) jC) (wI (pv 0) jC vZ))
    (jB (jL (i:=3) scDraw.nd rfl (Or.inl rfl) jC)
    (jB (jX (jI yE (jU kL (by rfl) T.len PySem.boot_len (jA (kB kX (pv 0) jC (λ_ _=>rfl)) jD)) jC (jR _))
     (jE (jL (i:=3) scDraw.nd rfl (Or.inl rfl) (kB kX (kB kX (pv 0) jC (λ_ _=>rfl)) (jH vT (pv 2) (jU kL (by rfl) T.len PySem.boot_len (jA (kB kX (pv 0) jC (λ_ _=>rfl)) jD))) (λ_ _=>rfl)))) jM)
    (jB (jX (PW.pt (vB (jI YY (pv 2) (jU kL (by rfl) T.len PySem.boot_len (jA (kB kX (pv 0) jC (λ_ _=>rfl)) jD)) (jR _)) (qT (jI zL (pv 3) (jH xZ jC jC) (jR _)))))
     (jB (jL (i:=4) scDraw.nd rfl (Or.inl rfl) (jH qB (jH qB (jH vT (jH xE (pv 2) (pv 2)) jC) (jH xE jC (pv 2))) jC))
     (jB (jL (i:=4) scDraw.nd rfl (Or.inl rfl) (jH vT (jH xE (jH qB (jH vT (pv 3) jC) jC) (pv 4)) jC))
     (jE (jK (jH vT (jH vT (jH qB (jH NN (jH vT (jH xE (pv 4) (pv 4)) jC) jC) (jH xE jC (pv 2))) jC) (pv 1)))))) jM)
    (jB (vK (jH yQ (pv 3) (jH xZ jC jC)) (wI (pv 0) jC vZ))
    (jE (vK jC (wI (pv 0) jC vZ))))))))) jM)
   (jB (vK (jH yQ (kB kX (pv 0) jC (λ_ _=>rfl)) jC) (wI (pv 0) jC vZ))
   (jB (jL (i:=5) scDraw.nd rfl (Or.inl rfl) (kB kX (pv 0) jC (λ_ _=>rfl)))
   (jB (vK (jH BU (pv 5) (pv 1)) (wI (pv 0) jC vZ))
   (jE (jK (jH vT (pv 5) (pv 1))))))), ?_⟩
  have hmd:ae.natAbs<2^8000:=by
   have:ae.natAbs<2^100:=by
    have h:((2^100:Nat):Int)=2^100:=by decide
    lia
   exact hX this (gZ (by decide) (by decide))
  have tail:∀(spot' rest' left':Int) (a b c d:Option V) (H1:Hp),H1 tp=some (.lst [.ref cl,.int spot',.int rest',.int left'])->But tp H H1->0<=spot'->spot'<=B+1->
    (yA (yO (tOp (rI0 λi j=>V.int (i-j)) (tOp (KG K) (kG 0) (tC (.int 3))) (tC (.int 1))) (LF (kG 0) (tC (.int 3)) rSetL))
     (yA (yO (tOp (KG K) (kG 0) (tC (.int 2))) (qY 5))
     (yA (yO (tOp (rI CDivL λi j=>.int (i/j)) (kG 5) (kG 1)) (LF (kG 0) (tC (.int 2)) rSetL))
     (EX (tOp (rI (λ_ j=>0<j) λi j=>.int (i%j)) (kG 5) (kG 1)))))) { nx:=λ_ H'=>Q .non H',rt:=Q } [some (.ref tp),some (.int ae),a,b,c,d] H1:=by
   intro spot' rest' left' a b c d H1 g1 g2 g3 g4;refine⟨_,rfl,tp,_,_,_,rfl,rfl,SqL.of g1,rfl,_,_,rfl,rfl, ?_⟩;refine⟨_,rfl,tp,_,_,_,rfl,rfl,g1,rfl, ?_⟩;refine⟨_,rfl,tp,_,_,_,rfl,rfl,SqL.of jF,rfl, ?_⟩;refine⟨_,rfl,_,rfl,_,_,rfl,rfl,⟨hm,hmd⟩,_,rfl,tp,_,_,_,rfl,rfl,jF,rfl, ?_⟩;refine⟨_,rfl,_,rfl,_,_,rfl,rfl,hm, ?_⟩;refine k _ _ (Int.emod_nonneg _ (by lia)) (Int.emod_lt_of_pos _ hm) ⟨ns,spot',_,_,jF, ?_,h3,g3,g4⟩ ?_
   ·rw[jN hne,jN hne];exact g2 _ _ h2 hne
   ·exact(g2.trans (But.upd _ _ _)).trans (But.upd _ _ _)
  refine⟨_,rfl,tp,_,_,_,rfl,rfl,SqL.of h1,rfl,rfl,_,rfl, ?_⟩;by_cases hl:left=0
  ·subst hl;refine kQ (by decide) ?_;refine⟨_,rfl,tp,_,_,_,rfl,rfl,SqL.of h1,rfl, ?_⟩;refine⟨_,rfl,_,_,rfl,rfl,_,rfl,tp,_,_,_,rfl,rfl,h1,rfl, ?_⟩;have T1:∀o,(upd H tp o) cl=some (.lst (ns.map V.int)):=λo=>by
    rw[jN hne];exact h2
   have mid:∀(cell:Int) (b c:Option V),(yA (HP (tOr (DQ (tOp (rI0 λi j=>V.bl (decide (j<=i))) (kG 2) (tCB (λxs H Q=>∃p ys,xs=[V.ref p]/\(SqL K H p ys∨SqT K H p ys)/\Q (.int ys.length) H) (xG (tOp (KG K) (kG 0) (tC (.int 0))) tNil))))
      (DQ (tOp (rI0 λi j=>V.bl (decide (i<j))) (kG 3) (tOp (rI CPow λi j=>.int (i^j.toNat)) (tC (.int 10)) (tC (.int 18))))))
     (yA (yO (tOp (rI0 λi j=>V.int (i+j)) (tOp (rI0 λi j=>V.int (i+j)) (tOp (rI (λ_ j=>0<j) λi j=>.int (i%j)) (tOp (rI CMul λi j=>.int (i*j)) (kG 2) (kG 2)) (tC (.int 10007))) (tOp (rI CMul λi j=>.int (i*j)) (tC (.int 61)) (kG 2))) (tC (.int 7))) (qY 4))
     (yA (yO (tOp (rI (λ_ j=>0<j) λi j=>.int (i%j)) (tOp (rI CMul λi j=>.int (i*j)) (tOp (rI0 λi j=>V.int (i+j)) (tOp (rI (λ_ j=>0<j) λi j=>.int (i%j)) (kG 3) (tC (.int 999983))) (tC (.int 3))) (kG 4)) (tC (.int 1000003))) (qY 4))
     (EX (tOp (rI (λ_ j=>0<j) λi j=>.int (i%j)) (tOp (rI (λ_ j=>0<j) λi j=>.int (i%j)) (tOp (rI0 λi j=>V.int (i+j)) (tOp (rI CDiv λi j=>.int (i/j)) (tOp (rI (λ_ j=>0<j) λi j=>.int (i%j)) (tOp (rI CMul λi j=>.int (i*j)) (kG 4) (kG 4)) (tC (.int 999979))) (tC (.int 3))) (tOp (rI CMul λi j=>.int (i*j)) (tC (.int 131)) (kG 2))) (tC (.int 99991))) (kG 1)))))
     tNext)
     (yA (yO (tOp (rI0 λi j=>V.int (i-j)) (kG 3) (tOp (rI CPow λi j=>.int (i^j.toNat)) (tC (.int 10)) (tC (.int 18)))) (LF (kG 0) (tC (.int 2)) rSetL))
     (yO (tC (.int 40)) (LF (kG 0) (tC (.int 3)) rSetL))))
     { nx:=(yA (yO (tOp (rI0 λi j=>V.int (i-j)) (tOp (KG K) (kG 0) (tC (.int 3))) (tC (.int 1))) (LF (kG 0) (tC (.int 3)) rSetL))
     (yA (yO (tOp (KG K) (kG 0) (tC (.int 2))) (qY 5))
     (yA (yO (tOp (rI CDivL λi j=>.int (i/j)) (kG 5) (kG 1)) (LF (kG 0) (tC (.int 2)) rSetL))
     (EX (tOp (rI (λ_ j=>0<j) λi j=>.int (i%j)) (kG 5) (kG 1)))))) { nx:=λ_ H'=>Q .non H',rt:=Q },rt:=Q } [some (.ref tp),some (.int ae),some (.int spot),some (.int cell),b,c] (upd H tp (.lst [.ref cl,.int (spot+1),.int rest,.int 0])):=by
    intro cell b c;have pw:CPow 10 18:=⟨by decide,by decide,by decide⟩;have drawn:(yA (yO (tOp (rI0 λi j=>V.int (i+j)) (tOp (rI0 λi j=>V.int (i+j)) (tOp (rI (λ_ j=>0<j) λi j=>.int (i%j)) (tOp (rI CMul λi j=>.int (i*j)) (kG 2) (kG 2)) (tC (.int 10007))) (tOp (rI CMul λi j=>.int (i*j)) (tC (.int 61)) (kG 2))) (tC (.int 7))) (qY 4))
     (yA (yO (tOp (rI (λ_ j=>0<j) λi j=>.int (i%j)) (tOp (rI CMul λi j=>.int (i*j)) (tOp (rI0 λi j=>V.int (i+j)) (tOp (rI (λ_ j=>0<j) λi j=>.int (i%j)) (kG 3) (tC (.int 999983))) (tC (.int 3))) (kG 4)) (tC (.int 1000003))) (qY 4))
     (EX (tOp (rI (λ_ j=>0<j) λi j=>.int (i%j)) (tOp (rI (λ_ j=>0<j) λi j=>.int (i%j)) (tOp (rI0 λi j=>V.int (i+j)) (tOp (rI CDiv λi j=>.int (i/j)) (tOp (rI (λ_ j=>0<j) λi j=>.int (i%j)) (tOp (rI CMul λi j=>.int (i*j)) (kG 4) (kG 4)) (tC (.int 999979))) (tC (.int 3))) (tOp (rI CMul λi j=>.int (i*j)) (tC (.int 131)) (kG 2))) (tC (.int 99991))) (kG 1))))) { nx:=λ_ _=>False,rt:=Q } [some (.ref tp),some (.int ae),some (.int spot),some (.int cell),b,c] (upd H tp (.lst [.ref cl,.int (spot+1),.int rest,.int 0])):=by
     refine⟨_,rfl,_,rfl,_,_,rfl,rfl,.inl ⟨by lia,by lia⟩,_,_,rfl,rfl,(by show(0:Int)<_;decide), ?_⟩;refine⟨_,rfl,_,_,rfl,rfl,.inl ⟨by lia,by lia⟩,_,_,rfl,rfl,_,_,rfl,rfl, ?_⟩;have c1:=Int.emod_nonneg cell (b:=999983) (by decide);have c2:=Int.emod_lt_of_pos cell (b:=999983) (by decide);refine⟨_,rfl,_,_,rfl,rfl,(by show(0:Int)<_;decide),_,_,rfl,rfl,_,rfl,_,_,rfl,rfl,.inl ⟨by lia,by lia⟩,_,_,rfl,rfl,(by show(0:Int)<_;decide), ?_⟩;generalize hx:((cell%999983+3)*(spot*spot%10007+61*spot+7))=x;have d1:=Int.emod_nonneg x (b:=1000003) (by decide);have d2:=Int.emod_lt_of_pos x (b:=1000003) (by decide);refine⟨_,rfl,_,rfl,_,_,rfl,rfl,.inl ⟨by lia,by lia⟩,_,_,rfl,rfl,(by show(0:Int)<_;decide),_,_,rfl,rfl,⟨by decide,by decide⟩, ?_⟩;refine⟨_,rfl,_,_,rfl,rfl,.inl ⟨by decide,by decide⟩,_,_,rfl,rfl,_,_,rfl,rfl,(by show(0:Int)<_;decide),_,rfl,_,_,rfl,rfl,hm, ?_⟩;exact k _ _ (Int.emod_nonneg _ (by lia)) (Int.emod_lt_of_pos _ hm) ⟨ns,spot+1,_,_,jF,T1 _,h3,by lia,by lia⟩ (But.upd _ _ _)
    refine⟨_,rfl,_,rfl,tp,_,_,_,rfl,rfl,SqL.of jF,rfl,cl,_,rfl,.inl (SqL.of (T1 _)),_,_,rfl,rfl,_,rfl, ?_⟩;by_cases z1:((ns.map V.int).length:Int)<=spot
    ·refine kQ (mT z1) (kD ?_);exact drawn
    ·refine kW (mR z1) ?_;refine⟨_,rfl,_,_,rfl,rfl,pw,_,_,rfl,rfl,_,rfl, ?_⟩;by_cases z2:cell<(10:Int)^(18:Int).toNat
     ·refine kQ (mT z2) ?_;exact drawn
     ·refine kW (mR z2) ?_;refine⟨_,rfl,_,_,rfl,rfl,pw,_,_,rfl,rfl,_,rfl,tp,_,_,_,rfl,rfl,jF,rfl, ?_⟩;refine⟨_,rfl,tp,_,_,_,rfl,rfl,jF,rfl, ?_⟩;exact tail (spot+1) _ 40 _ _ _ _ _ jF (((But.upd _ _ _).trans (But.upd _ _ _)).trans (But.upd _ _ _)) (by lia) (by lia)
   refine⟨_,rfl,tp,_,_,_,rfl,rfl,SqL.of jF,rfl,cl,_,rfl,.inl (SqL.of (T1 _)),_,_,rfl,rfl,_,rfl, ?_⟩;by_cases hn:(0:Int)<((ns.map V.int).length:Int)
   ·refine kQ (mT hn) ?_;obtain⟨c,hc⟩:=YR (ns:=ns) (i:=spot%((ns.map V.int).length:Int)) (Int.emod_nonneg _ (by lia)) (by have:=Int.emod_lt_of_pos spot hn;rw[mQ]at this ⊢;exact this);refine⟨_,rfl,tp,_,_,_,rfl,rfl,SqL.of jF,rfl,_,rfl,_,rfl,tp,_,_,_,rfl,rfl,SqL.of jF,rfl,cl,_,rfl,.inl (SqL.of (T1 _)),_,_,rfl,rfl,hn,cl,_,_,_,rfl,rfl,SqL.of (T1 _),hc, ?_⟩;exact mid c _ _
   ·refine kW (mR hn) ?_;exact mid 0 _ _
  ·refine kW (mR (by intro z;injection z with z;exact hl z)) ?_;exact tail spot rest left _ _ _ _ H h1 (But.refl _ _) h4 (by lia)
structure FrOk(n:Nat)(t b:Int):Prop where
 pos:0<b
 low:Int.gcd t b=1
 st:t.natAbs<2^n
 sb:b.natAbs<2^n
def At2(H:Hp)(p:Addr)(t b:Int):Prop:=H p=some (.tup [.int t,.int b])
theorem vO{a:Int}{m n:Nat}(ha:a.natAbs<2^m)(h:m<=n):a.natAbs<2^n:=hX ha (gZ (by decide) h)
theorem wC{a g:Int}{n:Nat}(ha:a.natAbs<2^n)(hg:1<=g):(a/g).natAbs<2^n:=hV (LwM.CP a g hg) ha
theorem BY{t b:Int}(h:0<b):IT t b=t/(Int.gcd t b:Int):=(AW h).1
theorem BZ{t b:Int}(h:0<b):IU t b=b/(Int.gcd t b:Int):=(AW h).2
end Lw
namespace LwQ
theorem HL{t b o u t' b':Int}(hb:0<b)(hu:0<u)(h:t'*(b*u)=(t*u+o*b)*b')(lb:b'.natAbs<=b.natAbs*u.natAbs):t'.natAbs<=t.natAbs*u.natAbs+o.natAbs*b.natAbs:=by
 have e:=congrArg Int.natAbs h;rw[mU,mU,mU]at e;have p:0<b.natAbs*u.natAbs:=Nat.mul_pos (by lia) (by lia);have k:t'.natAbs<=(t*u+o*b).natAbs:=by
  refine Nat.le_of_mul_le_mul_right ?_ p;rw[e];exact Nat.mul_le_mul_left _ lb
 refine nG k (nG (Int.natAbs_add_le _ _) ?_);rw[mU,mU];exact nN _
theorem AH{a:Int}{m n:Nat}(ha:a.natAbs<=2^m)(h:m<=n):a.natAbs<=2^n:=nG ha (gZ (by decide) h)
end LwQ
namespace Lw
open PySem PySem.Spec PyProof.Rows L2
structure FrS(t b:Int):Prop where
 pos:0<b
 low:Int.gcd t b=1
 st:t.natAbs<2^100
 sb:b.natAbs<2^97
variable{P:Program}{w:World}{K:nW}{mg:Str->Option Value}{base:Heap}{f fd:_}
def AJ(c M:Int):Sp:=λvs H Q _=>∃(tp:Addr) (B:Int),vs=[.ref tp]/\∃cl,Tape cl H tp B/\B<M/\
 ∀(r:Addr) (t b:Int) (H':Hp),FrS t b->At2 H' r t b->r≠tp->Tape cl H' tp (B+c)->But tp H H'->(∀c o,H c=some o->c≠r)->Q (.ref r) H'
theorem UE{t b:Int}(hb:0<b)(ht:t.natAbs<2^100)(hs:b.natAbs<2^97):FrS (IT t b) (IU t b):=by
 have g1:=LwM.AZ t b hb;have gp:0<Int.gcd t b:=by lia
 rw[BY hb,BZ hb];refine⟨?_,Int.gcd_ediv_gcd_ediv_gcd gp,wC ht g1,wC hs g1⟩;exact Int.ediv_pos_of_pos_of_dvd hb (by lia) (Int.gcd_dvd_right ..)
theorem zW{cl:Addr}{H:Hp}{tp r:Addr}{B:Int}(T:Tape cl H tp B)(n:H r=none):r≠tp:=by
 obtain⟨ns,spot,rest,left,z,_⟩:=T;rintro rfl;rw[n]at z;cases z
theorem xX{p:Addr}{H H':Hp}{r:Addr}(b:But p H H')(n:H' r=none)(hr:r≠p):H r=none:=by
 cases q:H r with
 | none=>rfl
 | some o=>rw[b r o q hr]at n;cases n
theorem scNumber:FnScope ["tape","way","top","great"] ["tape"] (jJ wS):=scK (by decide +kernel)
theorem QC{fD fL:Addr}{fdD fdL:FuncData}(F:Fun K "_law_number" "_law_number" wS f fd)(T:Txt mg)(DD:Df K mg "_law_draw" uY ["tape","many"] fD fdD)(DL:Df K mg "_law_low" FF ["top","bottom"] fL fdL):FnOk P w K mg base CX0 2 f fd ["tape"] (AJ 6 (2^38)):=by
 have GD:FnOk P w K mg base CX0 1 fD fdD ["tape","many"] spDraw:=AS DD.F T;have GL:FnOk P w K mg base CX0 1 fL fdL ["top","bottom"] spLow:=FO DL.F T;refine F.ok scNumber (λvs H Q E h=>?_) (λcdv A outer s H vs Q E hr h=>?_)
 ·obtain⟨tp,B,rfl,_⟩:=h
  rfl
 ·obtain⟨tp,B,rfl,cl,hT,hB,k⟩:=h;refine⟨_,jB (jL (i:=1) scNumber.nd rfl (Or.inl rfl) (jT GD hr rfl DD.m DD.F.kp DD.b .nil kU (jA (pv 0) (jA jC jD))))
   (jB (jL (i:=2) scNumber.nd rfl (Or.inl rfl) (jH yQ (jT GD hr rfl DD.m DD.F.kp DD.b .nil kU (jA (pv 0) (jA jC jD))) jC))
   (jB (jX (jI zL (pv 1) jC (jR _)) (jE (jK (qD (jA (pv 2) (jA jC jD))))) jM)
   (jB (jX (jI zL (pv 1) jC (jR _)) (jE (jK (jT GL hr rfl DL.m DL.F.kp DL.b .nil kU (jA (pv 2) (jA (jH qB jC (jT GD hr rfl DD.m DD.F.kp DD.b .nil kU (jA (pv 0) (jA jC jD)))) jD))))) jM)
   (jB (jL (i:=3) scNumber.nd rfl (Or.inl rfl) (jH xE (jT GD hr rfl DD.m DD.F.kp DD.b .nil kU (jA (pv 0) (jA (jH xZ jC jC) jD))) (jH yQ jC (jH xE jC (jT GD hr rfl DD.m DD.F.kp DD.b .nil kU (jA (pv 0) (jA jC jD)))))))
   (jE (jK (jT GL hr rfl DL.m DL.F.kp DL.b .nil kU (jA (pv 3) (jA (jH qB jC (jT GD hr rfl DD.m DD.F.kp DD.b .nil kU (jA (pv 0) (jA (jH xZ jC jC) jD)))) jD)))))))))
   , ?_⟩
  refine⟨_,rfl,tp,24,B,rfl,_,hT,by lia,by decide,by decide,λway H1 w0 w1 T1 b1=>?_⟩;refine⟨_,rfl,tp,13,_,rfl,_,T1,by lia,by decide,by decide,λtop H2 t0 t1 T2 b2=>⟨_,_,rfl,rfl, ?_⟩⟩;have p10:∀n:Int,0<=n->n<=1000000->CPow 10 n:=λn h0 h1=>⟨h0,h1,by decide⟩;have tell:∀(t b B':Int) (H3:Hp),0<b->t.natAbs<2^100->b.natAbs<2^97->Tape cl H3 tp B'->B'<=B+6->But tp H H3->spLow [.int t,.int b] H3 Q E0:=by
   intro t b B' H3 hb ht hs T3 hB' b3;refine⟨t,b,rfl,by lia,.inl (vO hs (by decide)),λp H4 n4 s4 e4=>?_⟩;refine k p _ _ H4 (UE hb ht hs) e4 (zW T3 n4) (T3.mono s4 (by lia)) (b3.trans (But.of s4)) (λc o hc hp=>?_);subst hp;have:=xX b3 n4 (zW T3 n4);rw[hc]at this;cases this
  refine⟨_,rfl,_,_,rfl,rfl,_,rfl, ?_⟩;refine uE (λ_=>?_) (λ_=>?_)
  ·refine⟨_,rfl,gF,λp H3 n3 s3 e3=>?_⟩;refine k p (top-6) 1 H3 ⟨by decide,by simp,by lia,by decide⟩ e3 (zW T2 n3) (T2.mono s3 (by lia)) ((b1.trans b2).trans (But.of s3)) (λc o hc hp=>?_);subst hp;have:=xX (b1.trans b2) n3 (zW T2 n3);rw[hc]at this;cases this
  ·refine⟨_,rfl,_,_,rfl,rfl,_,rfl, ?_⟩;refine uE (λ_=>?_) (λ_=>?_)
   ·refine⟨_,rfl,_,rfl,tp,7,_,rfl,_,T2,by lia,by decide,by decide,λc H3 c0 c1 T3 b3=>⟨_,_,rfl,rfl, ?_⟩⟩;exact tell _ _ _ H3 (by lia) (by lia) (by lia) T3 (by lia) ((b1.trans b2).trans b3)
   ·refine⟨_,rfl,_,_,rfl,rfl,p10 12 (by decide) (by decide),tp,_,_,rfl,_,T2,by lia,by decide,by decide,λg H3 g0 g1 T3 b3=>?_⟩;refine⟨_,rfl,tp,2,_,rfl,_,T3,by lia,by decide,by decide,λr H4 r0 r1 T4 b4=>?_⟩;refine⟨_,_,rfl,rfl,.inl ⟨by decide,by decide⟩,_,_,rfl,rfl,_,_,rfl,rfl,.inr ⟨by lia,by lia⟩, ?_⟩;refine⟨_,rfl,_,rfl,_,_,rfl,rfl,p10 4 (by decide) (by decide),tp,_,_,rfl,_,T4,by lia,by decide,by decide,λc H5 c0 c1 T5 b5=>⟨_,_,rfl,rfl, ?_⟩⟩;have e12:(10:Int)^(12:Int).toNat=1000000000000:=by decide +kernel
    have e4:(10:Int)^(4:Int).toNat=10000:=by decide +kernel
    rw[e12]at g1;rw[e4]at c1;have hr2:r=0∨r=1:=by lia
    refine tell _ _ _ H5 (by lia) ?_ (by lia) T5 (by lia) ((((b1.trans b2).trans b3).trans b4).trans b5);rcases hr2 with rfl | rfl
    ·simp only[Int.mul_zero,Int.sub_zero,Int.mul_one]
     lia
    ·rw[show(1:Int)-2*1 = -1 by decide,Int.mul_neg,Int.mul_one,Int.natAbs_neg]
     lia
theorem scFraction:FnScope ["tape","top","bottom"] ["tape"] (jJ zY):=scK (by decide +kernel)
theorem IJ{fD fL fN:Addr}{fdD fdL fdN:FuncData}(F:Fun K "_law_fraction" "_law_fraction" zY f fd)(T:Txt mg)(DD:Df K mg "_law_draw" uY ["tape","many"] fD fdD)(DL:Df K mg "_law_low" FF ["top","bottom"] fL fdL)
 (DN:Df K mg "_law_number" wS ["tape"] fN fdN):FnOk P w K mg base CX0 3 f fd ["tape"] (AJ 7 (2^37)):=by
 have GD:FnOk P w K mg base CX0 1 fD fdD ["tape","many"] spDraw:=AS DD.F T;have GL:FnOk P w K mg base CX0 1 fL fdL ["top","bottom"] spLow:=FO DL.F T;have GN:FnOk P w K mg base CX0 2 fN fdN ["tape"] (AJ 6 (2^38)):=QC DN.F T DD DL;refine F.ok scFraction (λvs H Q E h=>?_) (λcdv A outer s H vs Q E hr h=>?_)
 ·obtain⟨tp,B,rfl,_⟩:=h
  rfl
 ·obtain⟨tp,B,rfl,cl,hT,hB,k⟩:=h;have hr1:Room 1 _:=hr.mono (by decide);refine⟨_,jB (jX (jI yE (jT GD hr1 rfl DD.m DD.F.kp DD.b .nil kU (jA (pv 0) (jA jC jD))) jC (jR _)) (jE (jK (jT GN hr rfl DN.m DN.F.kp DN.b .nil kU (jA (pv 0) jD)))) jM)
   (jB (jL (i:=1) scFraction.nd rfl (Or.inl rfl) (jH qB (jH xE (jT GD hr1 rfl DD.m DD.F.kp DD.b .nil kU (jA (pv 0) (jA (jH xZ jC jC) jD))) (jH xZ jC jC)) (jT GD hr1 rfl DD.m DD.F.kp DD.b .nil kU (jA (pv 0) (jA (jH xZ jC jC) jD)))))
   (jB (jL (i:=2) scFraction.nd rfl (Or.inl rfl) (jH qB (jH qB jC (jH xE (jT GD hr1 rfl DD.m DD.F.kp DD.b .nil kU (jA (pv 0) (jA (jH xZ jC jC) jD))) (jH xZ jC jC))) (jT GD hr1 rfl DD.m DD.F.kp DD.b .nil kU (jA (pv 0) (jA (jH xZ jC jC) jD)))))
   (jE (jK (jT GL hr1 rfl DL.m DL.F.kp DL.b .nil kU (jA (jH xE (pv 1) (jH yQ jC (jH xE jC (jT GD hr1 rfl DD.m DD.F.kp DD.b .nil kU (jA (pv 0) (jA jC jD)))))) (jA (pv 2) jD))))))), ?_⟩
  have p10:∀n:Int,0<=n->n<=1000000->CPow 10 n:=λn h0 h1=>⟨h0,h1,by decide⟩;have e15:(10:Int)^(15:Int).toNat=1000000000000000:=by decide +kernel
  have e14:(10:Int)^(14:Int).toNat=100000000000000:=by decide +kernel
  refine⟨_,rfl,tp,4,B,rfl,_,hT,by lia,by decide,by decide,λc H1 c0 c1 T1 b1=>⟨_,_,rfl,rfl,_,rfl, ?_⟩⟩;refine uE (λ_=>?_) (λ_=>?_)
  ·refine⟨_,rfl,tp,_,rfl,_,T1,by lia,λr t b H2 fr e2 hn T2 b2 nw=>?_⟩;refine k r t b H2 fr e2 hn (T2.mono (Same.refl _) (by lia)) (b1.trans b2) (λc o hc hp=>?_);by_cases hcp:c=tp
   ·exact hn (hp▸hcp)
   ·exact nw c o (b1 _ _ hc hcp) hp
  ·refine⟨_,rfl,_,_,rfl,rfl,p10 15 (by decide) (by decide),tp,_,_,rfl,_,T1,by lia,by decide,by decide,λx1 H2 x10 x11 T2 b2=>?_⟩;rw[e15]at x11;refine⟨_,_,rfl,rfl,p10 15 (by decide) (by decide),_,_,rfl,rfl,.inl ⟨by lia,by lia⟩, ?_⟩;refine⟨_,rfl,_,_,rfl,rfl,p10 15 (by decide) (by decide),tp,_,_,rfl,_,T2,by lia,by decide,by decide,λx2 H3 x20 x21 T3 b3=>⟨_,_,rfl,rfl, ?_⟩⟩;rw[e15]at x21;refine⟨_,rfl,_,_,rfl,rfl,p10 15 (by decide) (by decide),tp,_,_,rfl,_,T3,by lia,by decide,by decide,λy1 H4 y10 y11 T4 b4=>?_⟩;rw[e15]at y11;refine⟨_,_,rfl,rfl,p10 14 (by decide) (by decide),_,_,rfl,rfl,.inl ⟨by lia,by lia⟩,_,_,rfl,rfl, ?_⟩;refine⟨_,rfl,_,_,rfl,rfl,p10 14 (by decide) (by decide),tp,_,_,rfl,_,T4,by lia,by decide,by decide,λy2 H5 y20 y21 T5 b5=>⟨_,_,rfl,rfl, ?_⟩⟩;rw[e14]at y21;rw[e15,e14];refine⟨_,rfl,_,rfl,tp,2,_,rfl,_,T5,by lia,by decide,by decide,λr H6 r0 r1 T6 b6=>?_⟩;refine⟨_,_,rfl,rfl,.inl ⟨by decide,by decide⟩,_,_,rfl,rfl,_,_,rfl,rfl,.inr ⟨by lia,by lia⟩, ?_⟩;have hr2:r=0∨r=1:=by lia
   have bb:=((((b1.trans b2).trans b3).trans b4).trans b5).trans b6;have ht:((x1*1000000000000000+x2)*(1-2*r)).natAbs<2^100:=by
    rcases hr2 with rfl | rfl
    ·simp only[Int.mul_zero,Int.sub_zero,Int.mul_one]
     lia
    ·rw[show(1:Int)-2*1 = -1 by decide,Int.mul_neg,Int.mul_one,Int.natAbs_neg]
     lia
   refine⟨_,rfl,_,_,rfl,by lia, ?_,λp H7 n7 s7 e7=>?_⟩
   ·exact .inl (vO (m:=97) (by lia) (by decide))
   ·refine k p _ _ H7 (UE (by lia) ht (by lia)) e7 (zW T6 n7) (T6.mono s7 (by lia)) (bb.trans (But.of s7)) (λc o hc hp=>?_);subst hp;have:=xX bb n7 (zW T6 n7);rw[hc]at this;cases this
open LwQ
def spPlus:Sp:=λvs H Q _=>∃(p q:Addr) (t b o u:Int),vs=[.ref p,.ref q]/\At2 H p t b/\At2 H q o u/\0<b/\0<u/\t.natAbs<2^50000/\b.natAbs<2^50000/\o.natAbs<2^50000/\u.natAbs<2^8000/\
 ∀(r:Addr) (t' b':Int) (H':Hp),H r=none->Same H H'->At2 H' r t' b'->0<b'->b'.natAbs<=b.natAbs*u.natAbs->t'*(b*u)=(t*u+o*b)*b'->Q (.ref r) H'
theorem NR{b u:Int}(h:decide (V.int (b%u)=V.int 0)=true):b=u*(b/u):=by
 have e:b%u=0:=by
  have:=mH h;injection this
 have:=Int.mul_ediv_add_emod b u
 lia
theorem scPlus:FnScope ["one","other","top"] ["one","other"] (jJ HU):=scK (by decide +kernel)
theorem XB(F:Fun K "_law_plus" "_law_plus" HU f fd):FnOk P w K mg base CX0 1 f fd ["one","other"] spPlus:=by
 refine F.ok scPlus (λvs H Q E h=>?_) (λcdv A outer s H vs Q E hr h=>?_)
 ·obtain⟨p,q,t,b,o,u,rfl,_⟩:=h
  rfl
 ·obtain⟨p,q,t,b,o,u,rfl,hp,hq,hb,hu,st,sb,so,su,k⟩:=h;refine⟨_,jB (jX (jI vC (jH vT (kB kF (pv 0) jC (λ_ _=>rfl)) (kB kF (pv 1) jC (λ_ _=>rfl))) jC (jR _))
    (jE (jK (qD (jA (jH qB (kB kF (pv 0) jC (λ_ _=>rfl)) (jH uA (kB kF (pv 1) jC (λ_ _=>rfl)) (jH BU (kB kF (pv 0) jC (λ_ _=>rfl)) (kB kF (pv 1) jC (λ_ _=>rfl))))) (jA (kB kF (pv 0) jC (λ_ _=>rfl)) jD))))) jM)
   (jB (jX (jI vC (jH vT (kB kF (pv 1) jC (λ_ _=>rfl)) (kB kF (pv 0) jC (λ_ _=>rfl))) jC (jR _))
    (jE (jK (qD (jA (jH qB (kB kF (pv 1) jC (λ_ _=>rfl)) (jH uA (kB kF (pv 0) jC (λ_ _=>rfl)) (jH BU (kB kF (pv 1) jC (λ_ _=>rfl)) (kB kF (pv 0) jC (λ_ _=>rfl))))) (jA (kB kF (pv 1) jC (λ_ _=>rfl)) jD))))) jM)
   (jB (jL (i:=2) scPlus.nd rfl (Or.inl rfl) (jH qB (jH uA (kB kF (pv 0) jC (λ_ _=>rfl)) (kB kF (pv 1) jC (λ_ _=>rfl))) (jH uA (kB kF (pv 1) jC (λ_ _=>rfl)) (kB kF (pv 0) jC (λ_ _=>rfl)))))
   (jE (jK (qD (jA (pv 2) (jA (jH uA (kB kF (pv 0) jC (λ_ _=>rfl)) (kB kF (pv 1) jC (λ_ _=>rfl))) jD))))))), ?_⟩
  have P:=SqT.of (K:=K) hp;have R:=SqT.of (K:=K) hq;have d1:(b/u).natAbs<2^100000:=vO (wC sb hu) (by decide);have d2:(u/b).natAbs<2^100000:=vO (wC su hb) (by decide);have st':t.natAbs<2^100000:=vO st (by decide);have sb':b.natAbs<2^100000:=vO sb (by decide);have so':o.natAbs<2^100000:=vO so (by decide);have su':u.natAbs<2^100000:=vO su (by decide);have lb:b.natAbs<=b.natAbs*u.natAbs:=Nat.le_mul_of_pos_right _ (by lia);have lu:u.natAbs<=b.natAbs*u.natAbs:=Nat.le_mul_of_pos_left _ (by lia);refine⟨_,rfl,p,_,_,_,rfl,rfl,P,rfl,_,rfl,q,_,_,_,rfl,rfl,R,rfl,_,_,rfl,rfl,hu,rfl,_,rfl, ?_⟩;refine uE (λe=>?_) (λ_=>?_)
  ·refine⟨_,rfl,p,_,_,_,rfl,rfl,P,rfl,_,rfl,q,_,_,_,rfl,rfl,R,rfl,_,rfl,p,_,_,_,rfl,rfl,P,rfl,_,rfl,q,_,_,_,rfl,rfl,R,rfl,_,_,rfl,rfl,⟨hu,su⟩,_,_,rfl,rfl,⟨so',d1⟩,_,_,rfl,rfl,_,rfl,p,_,_,_,rfl,rfl,P,rfl,gF,λr H1 n1 s1 e1=>?_⟩;refine k r _ _ H1 n1 s1 e1 hb lb ?_;have m:=NR e;generalize b/u=x at m;subst m
   grind
  refine⟨_,rfl,q,_,_,_,rfl,rfl,R,rfl,_,rfl,p,_,_,_,rfl,rfl,P,rfl,_,_,rfl,rfl,hb,rfl,_,rfl, ?_⟩;refine uE (λe=>?_) (λ_=>?_)
  ·have m:=NR e;have bu:b.natAbs<2^8000:=by
    have:b∣u:=⟨_,m⟩;have:=Int.le_of_dvd hu this;exact hV (by lia) su
   refine⟨_,rfl,q,_,_,_,rfl,rfl,R,rfl,_,rfl,p,_,_,_,rfl,rfl,P,rfl,_,rfl,q,_,_,_,rfl,rfl,R,rfl,_,rfl,p,_,_,_,rfl,rfl,P,rfl,_,_,rfl,rfl,⟨hb,bu⟩,_,_,rfl,rfl,⟨st',d2⟩,_,_,rfl,rfl,_,rfl,q,_,_,_,rfl,rfl,R,rfl,gF,λr H1 n1 s1 e1=>?_⟩;refine k r _ _ H1 n1 s1 e1 hu lu ?_;generalize u/b=x at m;subst m
   grind
  ·refine⟨_,rfl,p,_,_,_,rfl,rfl,P,rfl,_,rfl,q,_,_,_,rfl,rfl,R,rfl,_,_,rfl,rfl,⟨st',su'⟩,_,rfl,q,_,_,_,rfl,rfl,R,rfl,_,rfl,p,_,_,_,rfl,rfl,P,rfl,_,_,rfl,rfl,⟨so',sb'⟩,_,_,rfl,rfl, ?_⟩;refine⟨_,rfl,_,rfl,p,_,_,_,rfl,rfl,P,rfl,_,rfl,q,_,_,_,rfl,rfl,R,rfl,_,_,rfl,rfl,⟨sb',su'⟩,gF,λr H1 n1 s1 e1=>?_⟩;exact k r _ _ H1 n1 s1 e1 (Int.mul_pos hb hu) (nM (mU _ _)) rfl
structure Ent where
 ns:List Int
 c:Addr
 t:Int
 b:Int
 k:Nat
def Ent.kv(e:Ent):List Key×V:=(LwD.ik e.ns,.ref e.c)
structure EntOk(H:Hp)(ae:Nat)(e:Ent):Prop where
 len:e.ns.length=ae
 nn:∀n∈e.ns,0<=n
 deg:e.ns.sum<=16
 at':At2 H e.c e.t e.b
 pos:0<e.b
 nz:e.t≠0
 k1:1<=e.k
 sb:e.b.natAbs<=2^(97*e.k)
 st:e.t.natAbs<=e.k*2^(97*e.k+3)
theorem EntOk.map{H H':Hp}{ae:Nat}{e:Ent}(h:EntOk H ae e)(k:∀a xs,H a=some (.tup xs)->H' a=some (.tup xs)):EntOk H' ae e:=⟨h.len,h.nn,h.deg,k _ _ h.at',h.pos,h.nz,h.k1,h.sb,h.st⟩
structure DictE(H:Hp)(d:Addr)(ae i:Nat)(E:List Ent):Prop where
 at':H d=some (.dT (E.map Ent.kv))
 nd:(E.map Ent.ns).Nodup
 each:∀e∈E,EntOk H ae e
 sum:(E.map Ent.k).sum<=i
theorem GK:∀{E:List Ent},(∀e∈E,1<=e.k)->E.length<=(E.map Ent.k).sum
 | [],_=>nN _
 | e::r,h=>by
  have ih:=GK λx hx=>h x (gY _ hx);have:=h e (mC ..);simp only[mX,nB,mN]
  lia
theorem DictE.few{H:Hp}{d:Addr}{ae i:Nat}{E:List Ent}(h:DictE H d ae i E):E.length<=i:=nG (GK λe he=>(h.each e he).k1) h.sum
theorem CK{ns ms:List Int}(h:LwD.ik ns=LwD.ik ms):ns=ms:=by
 have:=congrArg (List.map kV) h;rw[LwD.zR,LwD.zR]at this;exact(List.map_inj_right (f:=V.int) (λa b e=>by injection e)).mp this
section
variable{k:List Key}{v v0:V}{L R l:List (List Key×V)}
theorem VV(h:∀p∈l,p.1≠k):xV l k=none:=by
 unfold xV;rw[List.find?_eq_none.mpr λp hp=>by simp [h p hp]]
 rfl
theorem ET(h:∀p∈L,p.1≠k):xV (L++(k,v)::R) k=some v:=by
 unfold xV;rw[List.find?_append,List.find?_eq_none.mpr λp hp=>by simp [h p hp]];simp
theorem NB(h:∀p∈l,p.1≠k):wH l k v=l++[(k,v)]:=by
 unfold wH;rw[nU];intro z;obtain⟨p,hp,e⟩:=List.any_eq_true.mp z;exact h p hp (mH e)
theorem NU(h:∀p∈l,p.1≠k):l.map (λkv=>if kv.1=k then(kv.1,v)else kv)=l:=by
 conv=>rhs;rw[<-List.map_id l]
 exact List.map_congr_left λp hp=>by rw[nU (h p hp)];rfl
theorem WP(h1:∀p∈L,p.1≠k)(h2:∀p∈R,p.1≠k):wH (L++(k,v0)::R) k v=L++(k,v)::R:=by
 unfold wH;rw[nV (by simp),List.map_append,mX,NU h1,NU h2];simp
theorem VA(h1:∀p∈L,p.1≠k)(h2:∀p∈R,p.1≠k):AB (L++(k,v0)::R) k=L++R:=by
 unfold AB;rw[List.filter_append,mP,List.filter_eq_self.mpr (λp hp=>mT (h1 p hp)),List.filter_eq_self.mpr (λp hp=>mT (h2 p hp))];simp
end
theorem zO{E:List Ent}{ns:List Int}(h:ns∉E.map Ent.ns):∀p∈E.map Ent.kv,p.1≠LwD.ik ns:=by
 intro p hp z;obtain⟨e,he,rfl⟩:=nI.mp hp;exact h (nI.mpr ⟨e,he,CK z⟩)
def spPut:Sp:=λvs H Q _=>∃(d b q:Addr) (ns:List Int) (o u:Int) (ae i:Nat) (E:List Ent),vs=[.ref d,.ref b,.ref q]/\DictE H d ae i E/\i<=20/\H b=some (.tup (ns.map V.int))/\ns.length=ae/\(∀n∈ns,0<=n)/\ns.sum<=16/\
 At2 H q o u/\FrS o u/\∀(E':List Ent) (H':Hp),But d H H'->DictE H' d ae (i+1) E'->Q .non H'
theorem scPut:FnScope ["found","powers","number","some"] ["found","powers","number"] (jJ WL):=scK (by decide +kernel)
theorem ok_put{fP:Addr}{fdP:FuncData}(F:Fun K "_law_put" "_law_put" WL f fd)(DP:Df K mg "_law_plus" HU ["one","other"] fP fdP):FnOk P w K mg base CX0 2 f fd ["found","powers","number"] spPut:=by
 have GP:FnOk P w K mg base CX0 1 fP fdP ["one","other"] spPlus:=XB DP.F;refine F.ok scPut (λvs H Q E h=>?_) (λcdv A outer s H vs Q E hr h=>?_)
 ·obtain⟨d,b,q,ns,o,u,ae,i,E',rfl,_⟩:=h
  rfl
 ·obtain⟨d,b,q,ns,o,u,ae,i,EE,rfl,hD,hi,hb,hn,hns,hsum,hq,fq,go⟩:=h;have hu:_+1<cLine:=hV (Nat.add_le_add_left (by decide:1<=64) _) hr.units;refine⟨_,jB (jL (i:=3) scPut.nd rfl (Or.inl rfl) (jT GP hr rfl DP.m DP.F.kp DP.b .nil kU (jA (TH hu (pv 0) (pv 1) (qD (jA jC (jA jC jD))) ⟨rfl,rfl,rfl,rfl⟩) (jA (pv 2) jD))))
   (jE (jX (jI wZ (kB kF (pv 3) jC (λ_ _=>rfl)) jC (jR _)) (jE (NC hu (pv 0) (pv 1) (pv 3) rfl))
    (jE (jX (zI (pc_din hu (pv 1) (pv 0))) (jE (xH (LwD.TF hu (pv 0) (pv 1) ⟨rfl,rfl,rfl,rfl⟩))) jM)))), ?_⟩
  have hb':H b=some (.tup ((LwD.ik ns).map kV)):=by rw[LwD.zR];exact hb
  have few:=hD.few;have kz:(EE.map Ent.kv).length<sizeLine:=by rw[mQ];exact hV (nG few hi) (by decide)
  refine⟨_,rfl,d,rfl,.inr ⟨_,.inl hD.at'⟩,_,rfl,gF,λz H1 n1 s1 e1=>⟨xV (EE.map Ent.kv) (LwD.ik ns),DGet.t (s1 _ _ hD.at') (s1 _ _ hb'),_,rfl, ?_⟩⟩;have sq:u.natAbs<=2^97:=nJ fq.sb;by_cases hin:ns∈EE.map Ent.ns
  ·obtain⟨e,he,en⟩:=nI.mp hin;obtain⟨L,R,eE⟩:=List.append_of_mem he;have hE:=hD.each e he;have nd:=hD.nd;rw[eE,List.map_append,mX]at nd;have nL:ns∉L.map Ent.ns:=λy=>by
    rw[<-en]at y;exact(mI.mp nd).2.2 _ y _ (mC ..) rfl
   have nR:ns∉R.map Ent.ns:=λy=>by
    rw[<-en]at y;exact(List.nodup_cons.mp (mI.mp nd).2.1).1 y
   have km:EE.map Ent.kv=L.map Ent.kv++(LwD.ik ns,V.ref e.c)::R.map Ent.kv:=by
    rw[eE,List.map_append,mX,<-en]
    rfl
   have ev:xV (EE.map Ent.kv) (LwD.ik ns)=some (.ref e.c):=by rw[km];exact ET (zO nL)
   rw[ev];have kb:e.k<=20:=by
    have:=hD.sum;rw[eE,List.map_append,mX,List.sum_append,nB]at this
    lia
   have ks:(L.map Ent.k).sum+(e.k+(R.map Ent.k).sum)<=i:=by
    have:=hD.sum
    rwa [eE,List.map_append,mX,List.sum_append,nB]at this
   have eb:e.b.natAbs<=2^1940:=AH hE.sb (by lia);have et:e.t.natAbs<2^50000:=by
    have h1:e.k*2^(97*e.k+3)<=2^5*2^1943:=Nat.mul_le_mul (by lia) (gZ (by decide) (by lia));rw[<-Nat.pow_add]at h1;exact hV (nG hE.st h1) (hJ (by decide) (by decide))
   refine⟨e.c,q,e.t,e.b,o,u,rfl,s1 _ _ hE.at',s1 _ _ hq,hE.pos,fq.pos,et,hV eb (hJ (by decide) (by decide)),vO fq.st (by decide),vO fq.sb (by decide),λr t' b' H2 n2 s2 e2 pb lb eq=>?_⟩;have s12:Same H H2:=s1.trans s2;have hd2:H2 d=some (.dT (EE.map Ent.kv)):=s12 _ _ hD.at';have hb2:H2 b=some (.tup ((LwD.ik ns).map kV)):=s12 _ _ hb';have rd:r≠d:=λzz=>by rw[zz,s1 _ _ hD.at']at n2;cases n2
   have bd:∀o,But d H (upd H2 d o):=λo x y hx hn=>by
    rw[jN hn];exact s12 _ _ hx
   have tu:∀(o:HO) a xs,H a=some (.tup xs)->upd H2 d o a=some (.tup xs):=λo a xs ea=>by
    rw[jN (λy=>by rw[y,hD.at']at ea;cases ea)];exact s12 _ _ ea
   have ndL:(L.map Ent.ns++R.map Ent.ns).Nodup:=by
    rw[mI]at nd ⊢;refine⟨nd.1,(List.nodup_cons.mp nd.2.1).2,λa ha b hb=>nd.2.2 a ha b (gY _ hb)⟩
   refine⟨_,rfl,r,_,_,_,rfl,rfl,SqT.of e2,rfl,rfl,_,rfl, ?_⟩;refine uE (λnz=>?_) (λ_=>?_)
   ·refine⟨_,rfl,_,rfl,_,rfl,d,_,rfl,DPut.t (k:=LwD.ik ns) hd2 hb2 kz, ?_⟩;have tz:t'≠0:=λy=>by rw[y]at nz;simp at nz
    refine go (L++⟨ns,r,t',b',e.k+1⟩::R) _ (bd _) ⟨?_, ?_,λx hx=>?_, ?_⟩
    ·rw[jF,km,WP (zO nL) (zO nR),List.map_append,mX]
     rfl
    ·rw[List.map_append,mX];rw[en]at nd;exact nd
    ·rcases mS.mp hx with hx | hx
     ·exact(hD.each x (by rw[eE];exact List.mem_append_left _ hx)).map (tu _)
     ·rcases mY.mp hx with rfl | hx
      ·refine⟨hn,hns,hsum,by show At2 _ r t' b';rw[At2,jN rd];exact e2,pb,tz,Nat.le_add_left _ _, ?_, ?_⟩
       ·refine nG lb ?_;rw[show 97*(e.k+1)=97*e.k+97 by lia,Nat.pow_add];exact Nat.mul_le_mul hE.sb sq
       ·refine nG (HL hE.pos fq.pos eq lb) ?_;have h1:e.t.natAbs*u.natAbs<=e.k*2^(97*e.k+3)*2^97:=Nat.mul_le_mul hE.st sq;have h2:o.natAbs*e.b.natAbs<=2^100*2^(97*e.k):=Nat.mul_le_mul (nJ fq.st) hE.sb;rw[Nat.mul_assoc,<-Nat.pow_add]at h1;rw[<-Nat.pow_add]at h2;rw[show 97*(e.k+1)+3=97*e.k+3+97 by lia,Nat.add_mul,Nat.one_mul];rw[show 100+97*e.k=97*e.k+3+97 by lia]at h2
        lia
      ·exact(hD.each x (by rw[eE];exact gS _ (gY _ hx))).map (tu _)
    ·rw[List.map_append,mX,List.sum_append,nB];show(L.map Ent.k).sum+(e.k+1+(R.map Ent.k).sum)<=i+1
     lia
   ·refine⟨_,rfl,_,rfl,d,_,rfl,DGet.t (k:=LwD.ik ns) hd2 hb2,_,rfl, ?_⟩;rw[ev];refine kD ⟨_,rfl,d,rfl,.inr ⟨_,.inl hd2⟩,_,rfl,_,LwD.ik ns,_,b,hd2,rfl,hb2,ev, ?_⟩;refine go (L++R) _ (bd _) ⟨?_, ?_,λx hx=>?_, ?_⟩
    ·rw[jF,km,VA (zO nL) (zO nR),List.map_append]
    ·rw[List.map_append];exact ndL
    ·refine(hD.each x ?_).map (tu _);rw[eE];rcases mS.mp hx with hx | hx
     ·exact List.mem_append_left _ hx
     ·exact gS _ (gY _ hx)
    ·rw[List.map_append,List.sum_append]
     lia
  ·have ev:xV (EE.map Ent.kv) (LwD.ik ns)=none:=VV (zO hin);rw[ev];refine⟨z,q,0,1,o,u,rfl,e1,s1 _ _ hq,by decide,fq.pos,by show 0<_;exact Nat.pow_pos (by decide),by show 1<_;exact Nat.one_lt_pow (by decide) (by decide),vO fq.st (by decide),vO fq.sb (by decide),λr t' b' H2 n2 s2 e2 pb lb eq=>?_⟩;have s12:Same H H2:=s1.trans s2;have hd2:H2 d=some (.dT (EE.map Ent.kv)):=s12 _ _ hD.at';have hb2:H2 b=some (.tup ((LwD.ik ns).map kV)):=s12 _ _ hb';have rd:r≠d:=λzz=>by rw[zz,s1 _ _ hD.at']at n2;cases n2
   have bd:∀o,But d H (upd H2 d o):=λo x y hx hn=>by
    rw[jN hn];exact s12 _ _ hx
   have tu:∀(o:HO) a xs,H a=some (.tup xs)->upd H2 d o a=some (.tup xs):=λo a xs ea=>by
    rw[jN (λy=>by rw[y,hD.at']at ea;cases ea)];exact s12 _ _ ea
   refine⟨_,rfl,r,_,_,_,rfl,rfl,SqT.of e2,rfl,rfl,_,rfl, ?_⟩;refine uE (λnz=>?_) (λ_=>?_)
   ·refine⟨_,rfl,_,rfl,_,rfl,d,_,rfl,DPut.t (k:=LwD.ik ns) hd2 hb2 kz, ?_⟩;have tz:t'≠0:=λy=>by rw[y]at nz;simp at nz
    refine go (EE++[⟨ns,r,t',b',1⟩]) _ (bd _) ⟨?_, ?_,λx hx=>?_, ?_⟩
    ·rw[jF,NB (zO hin),List.map_append]
     rfl
    ·rw[List.map_append,mI];refine⟨hD.nd,by simp,λa ha b hb=>?_⟩;have:b=ns:=by simpa using hb
     rintro rfl;rw[this]at ha;exact hin ha
    ·rcases mS.mp hx with hx | hx
     ·exact(hD.each x hx).map (tu _)
     ·rw[mB]at hx;subst hx;refine⟨hn,hns,hsum,by show At2 _ r t' b';rw[At2,jN rd];exact e2,pb,tz,nN _, ?_, ?_⟩
      ·refine nG lb ?_;rw[Int.natAbs_one,Nat.one_mul];exact sq
      ·refine nG (HL (by decide) fq.pos eq lb) ?_;have:=fq.st;rw[Int.natAbs_zero,Nat.zero_mul,Int.natAbs_one,Nat.mul_one,Nat.zero_add,Nat.one_mul];exact nJ this
    ·rw[List.map_append,List.sum_append];have:=hD.sum;show(EE.map Ent.k).sum+(1+0)<=i+1
     lia
   ·refine⟨_,rfl,_,rfl,d,_,rfl,DGet.t (k:=LwD.ik ns) hd2 hb2,_,rfl, ?_⟩;rw[ev];refine qV ?_;exact go EE H2 (But.of s12) ⟨hd2,hD.nd,λx hx=>(hD.each x hx).map λa xs ea=>s12 _ _ ea,Nat.le_succ_of_le hD.sum⟩
end Lw
namespace Lw
open PySem PySem.Spec PyProof.Rows L2
theorem DictE.map{H H':Hp}{d:Addr}{ae i:Nat}{E:List Ent}(h:DictE H d ae i E)(hd:H' d=some (.dT (E.map Ent.kv)))(hc:∀a xs,H a=some (.tup xs)->H' a=some (.tup xs)):DictE H' d ae i E:=⟨hd,h.nd,λe he=>(h.each e he).map hc,h.sum⟩
theorem DictE.same{H H':Hp}{d:Addr}{ae i:Nat}{E:List Ent}(h:DictE H d ae i E)(s:Same H H'):DictE H' d ae i E:=h.map (s _ _ h.at') λ_ _ e=>s _ _ e
theorem Tape.ne{cl:Addr}{H:Hp}{tp:Addr}{B:Int}(T:Tape cl H tp B){d:Addr}{o:HO}(e:H d=some o)(ho:∀xs,o≠.lst xs):d≠tp/\d≠cl:=by
 obtain⟨ns,spot,rest,left,h1,h2,_⟩:=T;refine⟨λz=>?_,λz=>?_⟩
 ·rw[z,h1]at e;cases e;exact ho _ rfl
 ·rw[z,h2]at e;cases e;exact ho _ rfl
theorem Tape.off{cl:Addr}{H:Hp}{tp:Addr}{B:Int}(T:Tape cl H tp B){d:Addr}(e:H d=none):d≠tp/\d≠cl:=by
 obtain⟨ns,spot,rest,left,h1,h2,_⟩:=T;refine⟨λz=>?_,λz=>?_⟩
 ·rw[z,h1]at e;cases e
 ·rw[z,h2]at e;cases e
theorem Tape.upd{cl:Addr}{H:Hp}{tp:Addr}{B B':Int}(T:Tape cl H tp B){l:Addr}(o:HO)(h1:l≠tp)(h2:l≠cl)(hB:B<=B'):Tape cl (upd H l o) tp B':=by
 obtain⟨ns,spot,rest,left,e1,e2,e3,e4,e5⟩:=T;exact⟨ns,spot,rest,left,by rw[jN (Ne.symm h1)];exact e1,by rw[jN (Ne.symm h2)];exact e2,e3,e4,by lia⟩
theorem DictE.but{cl:Addr}{H H':Hp}{tp:Addr}{B:Int}{d:Addr}{ae i:Nat}{E:List Ent}(h:DictE H d ae i E)(T:Tape cl H tp B)(b:But tp H H'):DictE H' d ae i E:=
 h.map (b _ _ h.at' (T.ne h.at' (λ_ z=>by cases z)).1) λ_ _ e=>b _ _ e (T.ne e (λ_ z=>by cases z)).1
theorem DictE.upd{H:Hp}{l:Addr}{xs:List V}{o:HO}{d:Addr}{ae i:Nat}{E:List Ent}(h:DictE H d ae i E)(hl:H l=some (.lst xs)):DictE (upd H l o) d ae i E:=by
 refine h.map ?_ λc ys e=>?_
 ·rw[jN (λz=>by have:=h.at';rw[z,hl]at this;cases this)];exact h.at'
 ·show L2.upd H l o c=_;rw[jN (λz=>by rw[z,hl]at e;cases e)];exact e
theorem OQ{p l:Addr}{H H':Hp}{o:HO}(b:But p H H')(n:H l=none):But p H (upd H' l o):=λc u h hc=>by
 rw[jN (jY h n)];exact b c u h hc
theorem Tape.aside{cl:Addr}{H H':Hp}{tp d:Addr}{B:Int}(T:Tape cl H tp B)(b:But d H H')(h1:d≠tp)(h2:d≠cl):Tape cl H' tp B:=by
 obtain⟨ns,spot,rest,left,e1,e2,e3⟩:=T;exact⟨ns,spot,rest,left,b _ _ e1 (Ne.symm h1),b _ _ e2 (Ne.symm h2),e3⟩
theorem at_mem{ns:List Int}{i:Int}(h0:0<=i)(h1:i<ns.length):∃c:Int,atI (ns.map V.int) i=some (.int c)/\c∈ns:=by
 obtain⟨j,rfl⟩:=gN h0;have hj:j<ns.length:=by lia
 exact⟨ns[j],kY (by simp [hj]),List.getElem_mem hj⟩
theorem at_get{ns:List Int}{i:Int}(h0:0<=i)(h1:i<ns.length):∃c:Int,atI (ns.map V.int) i=some (.int c)/\ns[i.toNat]? = some c:=by
 obtain⟨j,rfl⟩:=gN h0;have hj:j<ns.length:=by lia
 exact⟨ns[j],kY (by simp [hj]),by simp [hj]⟩
theorem MH:∀{ns:List Int} {j:Nat} {c:Int},ns[j]? = some c->(ns.set j (c+1)).sum=ns.sum+1
 | [],j,c,h=>by simp at h
 | n::r,0,c,h=>by
  simp only[List.getElem?_cons_zero,Option.some.injEq]at h;rw[List.set_cons_zero,nB,nB,h]
  lia
 | n::r,j+1,c,h=>by
  have ih:=MH (ns:=r) (j:=j) (c:=c) (by simpa using h);rw[List.set_cons_succ,nB,nB,ih]
  lia
variable{P:Program}{w:World}{K:nW}{mg:Str->Option Value}{base:Heap}{f fd:_}
def spFound:Sp:=λvs H Q _=>∃(tp:Addr) (ae:Nat) (B:Int),vs=[.ref tp,.int ae]/\1<=ae/\ae<=4/\∃cl,Tape cl H tp B/\B<2^30/\
 ∀(d:Addr) (E:List Ent) (H':Hp),H d=none->But tp H H'->Tape cl H' tp (B+200)->DictE H' d ae 7 E->Q (.ref d) H'
theorem scDrawn:FnScope ["tape","many","found","k","powers","turn","letter"] ["tape","many"] (jJ FI):=scK (by decide +kernel)
theorem TW{fD fP fF fS fL fN:Addr}{fdD fdP fdF fdS fdL fdN:FuncData}(F:Fun K "_law_drawn" "_law_drawn" FI f fd)(T:Txt mg)(DD:Df K mg "_law_draw" uY ["tape","many"] fD fdD)(DP:Df K mg "_law_put" WL ["found","powers","number"] fP fdP)(DF:Df K mg "_law_fraction" zY ["tape"] fF fdF)
 (DS:Df K mg "_law_plus" HU ["one","other"] fS fdS) (DL:Df K mg "_law_low" FF ["top","bottom"] fL fdL) (DN:Df K mg "_law_number" wS ["tape"] fN fdN):FnOk P w K mg base CX0 4 f fd ["tape","many"] spFound:=by
 have GD:FnOk P w K mg base CX0 1 fD fdD ["tape","many"] spDraw:=AS DD.F T;have GP:FnOk P w K mg base CX0 2 fP fdP ["found","powers","number"] spPut:=ok_put DP.F DS;have GF:FnOk P w K mg base CX0 3 fF fdF ["tape"] (AJ 7 (2^37)):=IJ DF.F T DD DL DN;refine F.ok scDrawn (λvs H Q E h=>?_) (λcdv A outer s H vs Q E hr h=>?_)
 ·obtain⟨tp,ae,B,rfl,_⟩:=h
  rfl
 ·obtain⟨tp,ae,B,rfl,m1,m4,cl,hT,hB,go⟩:=h;have hr1:Room 1 _:=hr.mono (by decide);have hr2:Room 2 _:=hr.mono (by decide);refine⟨_,jB (jL (i:=2) scDrawn.nd rfl (Or.inl rfl) (BP)) (jB (qU PassesOwn.never rfl (yD (by rfl) T.rng (jA (jT GD hr1 rfl DD.m DD.F.kp DD.b .nil kU (jA (pv 0) (jA jC jD))) jD)) (jS (i:=3) scDrawn.nd rfl (Or.inl rfl)) (jB (jL (i:=4) scDrawn.nd rfl (Or.inl rfl) (jH KM (qE (jA jC jD)) (pv 1))) (jB (qU PassesOwn.never rfl (yD (by rfl) T.rng (jA (jT GD hr1 rfl DD.m DD.F.kp DD.b .nil kU (jA (pv 0) (jA (kB kX (qE (jA jC (jA jC (jA jC (jA jC jD))))) (jT GD hr1 rfl DD.m DD.F.kp DD.b .nil kU (jA (pv 0) (jA jC jD))) (λ_ _=>rfl)) jD))) jD)) (jS (i:=5) scDrawn.nd rfl (Or.inl rfl)) (jB (jL (i:=6) scDrawn.nd rfl (Or.inl rfl) (jT GD hr1 rfl DD.m DD.F.kp DD.b .nil kU (jA (pv 0) (jA (pv 1) jD)))) (jE (vK (jH qB (kB kX (pv 4) (pv 6) (λ_ _=>rfl)) jC) (wI (pv 4) (pv 6) vZ))))) (jE (xH (jT GP hr2 rfl DP.m DP.F.kp DP.b .nil kU (jA (pv 2) (jA (kP vE (by rfl) T.tup boot_tuple (jA (pv 4) jD)) (jA (jT GF hr rfl DF.m DF.F.kp DF.b .nil kU (jA (pv 0) jD)) jD))))))))) (jE (jK (pv 2)))), ?_⟩
  intro d nd;have T0:Tape cl (upd H d (.dT [])) tp B:=hT.upd _ (hT.off nd).1 (hT.off nd).2 (nP _);refine⟨_,rfl,tp,8,B,rfl,cl,T0,by lia,by decide,by decide,λc H1 c0 c1 T1 b1=>⟨c,rfl,by lia,by lia, ?_⟩⟩;have B1:But tp H H1:=(OQ (But.refl tp H) nd).trans b1;have D1:DictE H1 d ae 0 []:=⟨b1 _ _ jF (hT.off nd).1,List.Pairwise.nil,(λp hp=>by cases hp),nN _⟩;have cn:c.toNat<=7:=by lia
  refine yI (λi σ H2=>(∃u v x y,σ=[some (.ref tp),some (.int ae),some (.ref d),u,v,x,y])/\But tp H H2/\Tape cl H2 tp (B+1+25*i)/\∃E,DictE H2 d ae i E)
   ⟨⟨_,_,_,_,rfl⟩,B1,T1.mono (Same.refl _) (by lia),[],D1⟩ ?_ ?_
  ·rintro i σ H2 hi ⟨⟨u,v,x,y,rfl⟩,B2,T2,EE,D2⟩;have i7:i<=6:=by lia
   refine⟨gE,λz0 H3 n3 s3 e3=>⟨_,rfl,z0,ae,[.int 0],rfl,rfl,e3,by lia,by lia, ?_,λl nl=>?_⟩⟩
   ·show 1*(ae:Int).toNat<=sizeLine;exact nG (show 1*(ae:Int).toNat<=4 by lia) (by decide)
   have T3:=T2.mono s3 (nP _);have B3:But tp H H3:=B2.trans (But.of s3);have lo:=T3.off nl;have hnl:H l=none:=xX B3 nl lo.1;have hl0:(List.replicate (ae:Int).toNat [V.int 0]).flatten=(List.replicate ae (0:Int)).map V.int:=by simp
   rw[hl0];generalize hH4:upd H3 l (.lst ((List.replicate ae (0:Int)).map V.int))=H4;have s4:Same H3 H4:=hH4▸jW _ nl;have e4:H4 l=some (.lst ((List.replicate ae (0:Int)).map V.int)):=hH4▸jF;have B4:But tp H H4:=B3.trans (But.of s4);have T4:=T3.mono s4 (nP _);have D4:=(D2.same s3).same s4;refine⟨_,rfl,(by show 4<=sizeLine;decide),λz1 H5 n5 s5 e5=>⟨_,rfl,tp,4,_,rfl,cl,T4.mono s5 (nP _),by lia,by decide,by decide,λr H6 r0 r1 T6 b6=>?_⟩⟩;obtain⟨w',hw,hwm⟩:=at_mem (ns:=[3,4,6,17]) r0 r1;have hw':3<=w'/\w'<=17:=by
    simp only[mY,mL,or_false]at hwm
    lia
   have p100:(17:Int)<2^100:=by decide
   refine⟨z1,_,r,_,rfl,rfl,SqL.of (b6 _ _ e5 (T4.off n5).1),hw,tp,w',_,rfl,cl,T6,by lia,by lia,by lia,λn H7 n0 n1 T7 b7=>⟨n,rfl,by lia,by lia, ?_⟩⟩;have b47:But tp H4 H7:=(But.of s5).trans (b6.trans b7);refine yI (λj σ H8=>(∃x y,σ=[some (.ref tp),some (.int ae),some (.ref d),some (.int (0+(i:Int))),some (.ref l),x,y])/\But tp H H8/\Tape cl H8 tp (B+1+25*i+2+j)/\DictE H8 d ae i EE/\
     ∃ns:List Int,H8 l=some (.lst (ns.map V.int))/\ns.length=ae/\(∀n∈ns,0<=n)/\ns.sum=j)
    ⟨⟨_,_,rfl⟩,B4.trans b47,T7.mono (Same.refl _) (by lia),D4.but T4 b47,_,b47 _ _ e4 lo.1,by simp,λn hn=>?_,by simp⟩ ?_ ?_
   ·rw[(List.mem_replicate.mp hn).2];exact nP _
   ·rintro j σ H8 hj ⟨⟨x,y,rfl⟩,B8,T8,D8,ns,e8,ln,hns,hsm⟩;refine⟨_,rfl,_,rfl,tp,ae,_,rfl,cl,T8,by lia,by lia,by lia,λr' H9 r0' r1' T9 b9=>?_⟩;have e9:H9 l=_:=b9 _ _ e8 lo.1;obtain⟨c',hc',hcm⟩:=at_get (ns:=ns) r0' (by rw[ln];exact r1');refine⟨_,rfl,_,rfl,l,_,r',_,rfl,rfl,SqL.of e9,hc',_,_,rfl,rfl,_,rfl,_,rfl,l,_,r',r'.toNat,rfl,rfl,e9, ?_, ?_⟩
    ·unfold ixN;rw[nV r0',nV (by rw[mQ,ln];exact r1')]
    ·refine⟨⟨_,_,rfl⟩,OQ (B8.trans b9) hnl,T9.upd _ lo.1 lo.2 (by lia),(D8.but T8 b9).upd e9,ns.set r'.toNat (c'+1), ?_,by rw[List.length_set];exact ln,λn hn=>?_, ?_⟩
     ·rw[jF,List.map_set]
     ·rcases List.mem_or_eq_of_mem_set hn with hn | rfl
      ·exact hns n hn
      ·have:=hns c' (gX hcm)
       lia
     ·rw[MH hcm,hsm]
      lia
   ·rintro σ H8 ⟨⟨x,y,rfl⟩,B8,T8,D8,ns,e8,ln,hns,hsm⟩;refine⟨_,rfl,_,rfl,l,_,rfl,.inl ⟨SqL.of e8,λb nb=>?_⟩⟩;have sb:Same H8 (upd H8 b (.tup (ns.map V.int))):=jW _ nb;have T9:=T8.mono sb (nP _);have bo:=T8.off nb;have p37:(2:Int)^30+300<2^37:=by decide
    refine⟨_,rfl,tp,_,rfl,cl,T9,by lia,λr t b' H10 fr e10 rne T10 b10 nw=>?_⟩;have D10:=(D8.same sb).but T9 b10;have hdn:=T10.ne D10.at' (λ_ z=>by cases z);have nn:(n.toNat:Int)<=16:=by lia
    refine⟨d,b,r,ns,t,b',ae,i,EE,rfl,D10,by lia,b10 _ _ jF bo.1,ln,hns,by lia,e10,fr,λE' H11 b11 D11=>?_⟩
    ·refine⟨⟨_,_,_,_,rfl⟩,λc o hc hn=>?_,(T10.aside b11 hdn.1 hdn.2).mono (Same.refl _) (by lia),E',D11⟩
     ·exact b11 _ _ (b10 _ _ (sb _ _ (B8 _ _ hc hn)) hn) (λz=>by rw[z,nd]at hc;cases hc)
  ·rintro σ H2 ⟨⟨u,v,x,y,rfl⟩,B2,T2,EE,D2⟩;exact⟨_,rfl,go d EE H2 nd B2 (T2.mono (Same.refl _) (by lia)) ⟨D2.at',D2.nd,D2.each,nG D2.sum cn⟩⟩
open LwQ
structure DE(H:Hp)(d:Addr)(ae:Nat)(E:List Ent):Prop where
 at':Rd H d (.dT (E.map Ent.kv))
 nd:(E.map Ent.ns).Nodup
 each:∀e∈E,EntOk H ae e
 sum:(E.map Ent.k).sum<=7
theorem Rd.same{H H':Hp}{d:Addr}{o:HO}(h:Rd H d o)(s:Same H H'):Rd H' d o:=by
 rcases h with h | ⟨u,h⟩
 ·exact .inl (s _ _ h)
 ·exact .inr ⟨u,s _ _ h⟩
theorem DE.same{H H':Hp}{d:Addr}{ae:Nat}{E:List Ent}(h:DE H d ae E)(s:Same H H'):DE H' d ae E:=⟨Rd.same h.at' s,h.nd,λe he=>(h.each e he).map λ_ _ q=>s _ _ q,h.sum⟩
theorem DE.few{H:Hp}{d:Addr}{ae:Nat}{E:List Ent}(h:DE H d ae E):E.length<=7:=nG (GK λe he=>(h.each e he).k1) h.sum
theorem ZE{E:List Ent}(nd:(E.map Ent.ns).Nodup){e:Ent}(he:e∈E):xV (E.map Ent.kv) (LwD.ik e.ns)=some (.ref e.c):=by
 obtain⟨L,R,rfl⟩:=List.append_of_mem he;rw[List.map_append,mX]at nd ⊢;refine ET (zO λy=>?_);exact(mI.mp nd).2.2 _ y _ (mC ..) rfl
theorem DE.get{H:Hp}{d b:Addr}{ae:Nat}{E:List Ent}(h:DE H d ae E){e:Ent}(he:e∈E)(hb:H b=some (.tup (e.ns.map V.int))):DGet H d (.ref b) (some (.ref e.c)):=
 .inr ⟨_,LwD.ik e.ns,b,h.at',rfl,by rw[LwD.zR];exact hb,(ZE h.nd he).symm⟩
theorem DV{α β:Type}{f:α->β}{zs l:List β}(p:zs.Perm l):∀E:List α,l=E.map f->∃E':List α,E'.Perm E/\zs=E'.map f:=by
 induction p with
 | nil=>
  intro E h;have:E=[]:=by simpa using h.symm
  exact⟨[],by rw[this],rfl⟩
 | @cons x l1 l2 _ ih=>
  intro E h
  match E,h with
  | e::E2,h=>
   rw[mX]at h;injection h with h1 h2
   obtain⟨E',p',rfl⟩:=ih E2 h2;exact⟨e::E',p'.cons e,by rw[mX,h1]⟩
 | @swap x y l=>
  intro E h
  match E,h with
  | e1::e2::E2,h=>
   rw[mX,mX]at h;injection h with h1 h2
   injection h2 with h2 h3
   exact⟨e2::e1::E2,List.Perm.swap ..,by rw[mX,mX,h1,h2,h3]⟩
 | @trans l1 l2 l3 _ _ ih1 ih2=>
  intro E h;obtain⟨E2,p2,e2⟩:=ih2 E h;obtain⟨E1,p1,e1⟩:=ih1 E2 e2;exact⟨E1,p1.trans p2,e1⟩
theorem kT{H H':Hp}{l:Addr}{o:HO}(s:Same H H')(n:H l=none):Same H (upd H' l o):=λc u h=>by
 rw[jN (jY h n)];exact s c u h
theorem FS:∀{l:List Nat} {n:Nat},n∈l->n<=l.sum
 | a::r,n,h=>by
  rw[nB];rcases mY.mp h with rfl | h
  ·exact Nat.le_add_right ..
  ·exact nG (FS h) (Nat.le_add_left ..)
theorem scLSum:FnScope ["many","one","terms","powers","number"] ["many","one"] (jJ MU):=scK (by decide +kernel)
end Lw
namespace Lw
open PySem PySem.Spec PyProof.Rows L2
mutual
theorem DecV.mono{H H':Hp}(e:Same H H'):∀{x:V} {d:PyData},DecV H x d->DecV H' x d
 | _,_,.non=>.non
 | _,_,.bl b=>.bl b
 | _,_,.int i=>.int i
 | _,_,.str x=>.str x
 | _,_,.lst q h=>.lst (e _ _ q) (DecVs.mono e h)
 | _,_,.tup q h=>.tup (e _ _ q) (DecVs.mono e h)
theorem DecVs.mono{H H':Hp}(e:Same H H'):∀{xs:List V} {ds:List PyData},DecVs H xs ds->DecVs H' xs ds
 | _,_,.nil=>.nil
 | _,_,.cons h t=>.cons (DecV.mono e h) (DecVs.mono e t)
end
theorem DecVs.length{H:Hp} :∀{xs:List V} {ds:List PyData},DecVs H xs ds->xs.length=ds.length
 | _,_,.nil=>rfl
 | _,_,.cons _ t=>by simp [DecVs.length t]
theorem DecVs.get{H:Hp} :∀{xs:List V} {ds:List PyData} {i:Nat} {x:V},DecVs H xs ds->xs[i]? = some x->∃d,ds[i]? = some d/\DecV H x d
 | _,_,_,_,.nil,e=>by simp at e
 | _,_,0,_,.cons h _,e=>by
  simp only[List.getElem?_cons_zero,Option.some.injEq]at e;subst e;exact⟨_,rfl,h⟩
 | _,_,i+1,_,.cons _ t,e=>by
  simp only[gO]at e ⊢;exact DecVs.get t e
def kdD:PyData->Kd
 | .none=>.non | .bool _=>.bl | .int _=>.int | .str _=>.str | .list _=>.lst | .tuple _=>.tup | .dict _=>.non
theorem DecV.kd{H:Hp}{v:V}{d:PyData}(h:DecV H v d):KdOf H v (kdD d):=by
 cases h with
 | non=>exact .non
 | bl b=>exact .bl b
 | int i=>exact .int i
 | str x=>exact .str x
 | lst e _=>exact .lst e
 | tup e _=>exact .tup e
theorem VL{K:nW}{a:Addr}{xs:List V}{n:Nat}{g:TG}{te:TE}{Q:VK}{p:Addr}{H':Hp}(Pv:Nat->List V->Hp->Prop)(hz:xs.length<sizeLine)(h0:Pv 0 [] H')
  (hl:∀i ys H2,Pv i ys H2->SqT K H2 a xs/\H2 p=some (.lst ys))
  (hs:∀i m ys x H2,xs[i]? = some x->m=xs.length-i->ys.length=i->Pv i ys H2->g x (List.replicate n none) H2 fun σ4 H4=>te σ4 H4 λy H5=>H5 p=some (.lst ys)/\∃m',m'<m/\CompW xs Pv (i+1) m' (ys++[y]) (upd H5 p (.lst (ys++[y]))))
  (hd:∀ys H2,ys.length=xs.length->Pv xs.length ys H2->Q (.ref p) H2):CompGo n (Itt K a) g te Q p H':=by
 refine⟨CompW xs Pv,⟨_,rfl,nO _,rfl,h0⟩, ?_⟩;rintro i m ys H2 ⟨hm,hi,hy,hp⟩;obtain⟨q,e⟩:=hl i ys H2 hp;refine⟨e,by lia, ?_⟩;by_cases hlt:i<xs.length
 ·refine .inr ⟨⟨xs,xs[i],q,by simp [hlt]⟩, ?_⟩;rintro x H3 ⟨rfl,y⟩;exact hs i m ys x _ (y xs q) hm hy hp
 ·obtain rfl:i=xs.length:=by lia
  exact .inl ⟨⟨xs,q,nN _⟩,hd ys H2 hy hp⟩
theorem VJ{K:nW}{a b:Addr}{ts us:List V}{n:Nat}{g:TG}{te:TE}{Q:VK}{p:Addr}{H':Hp}(Pv:Nat->List V->Hp->Prop)(hle:us.length<=ts.length)(hz:us.length<sizeLine)(h0:Pv 0 [] H')
  (hl:∀i ys H2,Pv i ys H2->SqT K H2 a ts/\SqT K H2 b us/\H2 p=some (.lst ys))
  (hs:∀i m ys x y c H2,ts[i]? = some x->us[i]? = some y->m=us.length-i->ys.length=i->Pv i ys H2->H2 c=none->g (.ref c) (List.replicate n none) (upd H2 c (.tup [x,y])) fun σ4 H4=>te σ4 H4 λy H5=>H5 p=some (.lst ys)/\∃m',m'<m/\CompW us Pv (i+1) m' (ys++[y]) (upd H5 p (.lst (ys++[y]))))
  (hd:∀ys H2,ys.length=us.length->Pv us.length ys H2->Q (.ref p) H2):CompGo n (Itz K a b) g te Q p H':=by
 refine⟨CompW us Pv,⟨_,rfl,nO _,rfl,h0⟩, ?_⟩;rintro i m ys H2 ⟨hm,hi,hy,hp⟩;obtain⟨q1,q2,e⟩:=hl i ys H2 hp;refine⟨e,by lia, ?_⟩;by_cases hlt:i<us.length
 ·have h2:i<ts.length:=by lia
  refine .inr ⟨⟨ts,us,ts[i],us[i],q1,q2,by simp [h2],by simp [hlt]⟩, ?_⟩;rintro _ _ ⟨c,x,y,hc,rfl,rfl,h1,h2⟩;exact hs i m ys x y c H2 (h1 _ q1) (h2 _ q2) hm hy hp hc
 ·obtain rfl:i=us.length:=by lia
  exact .inl ⟨⟨ts,us,q1,q2,.inr gC⟩,hd ys H2 hy hp⟩
def whF:PyData->Int->Bool
 | .int i,low=>decide (low<=i)
 | _,_=>false
def spWF:Sp:=λvs H Q _=>∃(v:V) (d:PyData) (low:Int),vs=[v,.int low]/\DecV H v d/\Q (.bl (whF d low)) H
def vQ:List PyData->List Int
 | []=>[]
 | .int i::r=>i::vQ r
 | _::r=>vQ r
def pwB:PyData->Int->Bool
 | .tuple ds,ae=>decide ((ds.length:Int)=ae)&&(ds.all λd=>whF d 0)&&decide ((vQ ds).sum<=16)
 | _,_=>false
def pwOk:PyData->Prop
 | .tuple ds=>ds.length<=1000
 | _=>True
theorem GC{H:Hp} :∀{xs:List V} {ds:List PyData},DecVs H xs ds->(ds.all λd=>whF d 0)=true->xs=(vQ ds).map V.int/\(∀n∈vQ ds,0<=n/\PyData.int n∈ds)/\(vQ ds).length=ds.length
 | _,_,.nil,_=>⟨rfl,λn h=>(by cases h),rfl⟩
 | _,_,.cons (d:=d) (ds:=ds) h t,a=>by
  rw[List.all_cons,mO]at a;obtain⟨e,k,l⟩:=GC t a.2;cases h with
  | int i=>
   refine⟨by rw[e];rfl,λn hn=>?_,by simp [vQ,l]⟩;rcases mY.mp hn with rfl | hn
   ·exact⟨mH a.1,mC ..⟩
   ·exact⟨(k n hn).1,gY _ (k n hn).2⟩
  | non=>exact absurd a.1 (by decide)
  | bl b=>exact absurd a.1 (by simp [whF])
  | str x=>exact absurd a.1 (by simp [whF])
  | lst e _=>exact absurd a.1 (by simp [whF])
  | tup e _=>exact absurd a.1 (by simp [whF])
def spPw:Sp:=λvs H Q _=>∃(v:V) (d:PyData) (ae:Int),vs=[v,.int ae]/\DecV H v d/\pwOk d/\∀H',Same H H'->Q (.bl (pwB d ae)) H'
variable{P:Program}{w:World}{K:nW}{mg:Str->Option Value}{base:Heap}{f fd:_}
theorem scWF:FnScope ["thing","low"] ["thing","low"] (jJ sWF):=scK (by decide +kernel)
theorem YZ(F:Fun K "is_whole_from" "is_whole_from" sWF f fd)(T:Txt mg):FnOk P w K mg base CX0 1 f fd ["thing","low"] spWF:=by
 refine F.ok scWF (λvs H Q E h=>?_) (λcdv A outer s H vs Q E hr h=>?_)
 ·obtain⟨v,d,low,rfl,_⟩:=h
  rfl
 ·obtain⟨v,d,low,rfl,hd,q⟩:=h;refine⟨_,jE (jK (zJ (xD GA T.isi T.int boot_int (pv 0)) (zJ (KL (xD uG T.isi T.bool boot_bool (pv 0))) (BO (xW YY (pv 0) (pv 1) (jR _)))))), ?_⟩;refine⟨_,rfl,rfl,_,hd.kd,_,rfl, ?_⟩;cases hd with
  | int i=>
   refine kD ⟨_,rfl,rfl,_,.int i,_,rfl,_,rfl,kD ?_⟩;exact⟨_,rfl,_,rfl,_,_,rfl,rfl,q⟩
  | bl b=>
   refine kD ⟨_,rfl,rfl,_,.bl b,_,rfl,_,rfl,qV ?_⟩;exact q
  | non=>exact qV q
  | str x=>exact qV q
  | lst e _=>exact qV q
  | tup e _=>exact qV q
theorem scPw:FnScope ["thing","many"] ["thing","many"] (jJ sPw):=scK (by decide +kernel)
theorem ok_pw{fW:Addr}{fdW:FuncData}(F:Fun K "are_powers" "are_powers" sPw f fd)(T:Txt mg)(DW:Df K mg "is_whole_from" sWF ["thing","low"] fW fdW):FnOk P w K mg base CX0 3 f fd ["thing","many"] spPw:=by
 have GW:FnOk P w K mg base CX0 1 fW fdW ["thing","low"] spWF:=YZ DW.F T;obtain⟨td,hdg⟩:=T.degree;refine F.ok scPw (λvs H Q E h=>?_) (λcdv A outer s H vs Q E hr h=>?_)
 ·obtain⟨v,d,ae,rfl,_⟩:=h
  rfl
 ·obtain⟨v,d,ae,rfl,hd,hp,q⟩:=h;have hr1:Room 1 _:=hr.mono (by decide);refine⟨_,jB (jX (PW.pt (vB (qZ (qM (xD uF T.isi T.tup boot_tuple (pv 0)))) (qT (jI wZ (jU kL (by rfl) T.len PySem.boot_len (jA (pv 0) jD)) (pv 1) (jR _))))) (jE (jK xS)) jM)
   (jB (jX (qZ (qM (jU (uI rfl) (by rfl) T.all boot_all (jA (IE (N:=["power"]) rfl rfl (by decide +kernel) (by decide +kernel) (by decide +kernel) (BN (pv 0)) (λC fp s2 H2=>jS (i:=0) (show List.Nodup (["power"]:List Str) by decide +kernel) rfl (Or.inl rfl)) (λC fp s2 H2=>jT GW hr1 rfl DW.m DW.F.kp DW.b .nil kU (jA (pv 0) (jA jC jD)))) jD)))) (jE (jK xS)) jM)
   (jE (jK (xW YX (jU (EJ rfl) (by rfl) T.sum boot_sum (jA (pv 0) jD)) (qF (v:=.int 16) (by rfl) hdg ⟨_,rfl⟩) (jR _))))), ?_⟩
  refine⟨_,rfl,rfl,_,hd.kd,_,rfl, ?_⟩;cases hd with
  | non=>exact kD (kD (q _ (Same.refl _)))
  | bl b=>exact kD (kD (q _ (Same.refl _)))
  | int i=>exact kD (kD (q _ (Same.refl _)))
  | str x=>exact kD (kD (q _ (Same.refl _)))
  | lst e _=>exact kD (kD (q _ (Same.refl _)))
  | @tup a xs ds e hx=>
   refine qV ⟨_,rfl,a,xs,rfl,.inr (SqT.of e),_,rfl,rfl,_,rfl, ?_⟩;have hlen:=hx.length;by_cases hl:(ds.length:Int)=ae
   ·refine kW (by rw[hlen,hl];simp) ?_;refine⟨_,rfl,a,rfl,⟨xs,SqT.of e⟩,λp H1 n1 s1 e1=>?_⟩;refine VL (xs:=xs) (λi ys H2=>(∀c o,H c=some o->H2 c=some o)/\H2 p=some (.lst ys)/\ys=(ds.take i).map λd=>V.bl (whF d 0)) (by rw[hlen];exact hV hp (by decide)) ⟨s1,e1,rfl⟩ (λi ys H2 h=>⟨SqT.of (h.1 _ _ e),h.2.1⟩) ?_ ?_
    ·rintro i m ys x H2 hx' hm hl' ⟨k1,k2,rfl⟩;obtain⟨d,hd1,hd2⟩:=(hx.mono k1).get hx';refine⟨_,rfl,x,d,0,rfl,hd2, ?_⟩;refine xP hx' hm hl' k2 ⟨λc o h=>?_,jF, ?_⟩
     ·rw[jN (jY h n1)];exact k1 _ _ h
     ·rw[mG,hd1,List.map_append]
      rfl
    ·rintro ys H2 hl' ⟨k1,k2,rfl⟩;rw[hlen,mM]at k2;refine⟨p,ds.map λd=>whF d 0,rfl,SqL.of (by rw[k2,List.map_map];rfl),_,rfl, ?_⟩;have ea:(ds.map λd=>whF d 0).all id=ds.all λd=>whF d 0:=by rw[List.all_map];rfl
     rw[ea];by_cases al:(ds.all λd=>whF d 0)=true
     ·obtain⟨ex,kx,lx⟩:=GC hx al;refine kW (by rw[al];rfl) ?_;refine⟨_,rfl,a,vQ ds,rfl,.inl (SqT.of (by rw[<-ex];exact k1 _ _ e)),_,_,rfl,rfl, ?_⟩;have z:pwB (.tuple ds) ae=decide ((vQ ds).sum<=16):=by simp only[pwB,hl,al,decide_true,Bool.true_and]
      rw[z]at q;exact q _ k1
     ·have al':(ds.all λd=>whF d 0)=false:=by simpa using al
      refine kQ (by rw[al'];rfl) ?_;have z:pwB (.tuple ds) ae=false:=by simp only[pwB,al',Bool.and_false,Bool.false_and]
      rw[z]at q;exact q _ k1
   ·refine kQ (by rw[hlen];simp [hl]) ?_;have z:pwB (.tuple ds) ae=false:=by simp [pwB,hl]
    rw[z]at q;exact q _ (Same.refl _)
def EC:PyData->Bool
 | .tuple [.int t,.int b]=>decide (1<=b)&&decide (Int.gcd t b=1)
 | _=>false
def smD:PyData->Prop
 | .int i=>i.natAbs<2^1900
 | _=>True
def frOk:PyData->Prop
 | .tuple ds=>∀x∈ds,smD x
 | _=>True
def nzD:PyData->Bool
 | .tuple [.int t,.int b]=>!decide ([t,b]=[0,1])
 | _=>true
def qX:PyData->Int->Bool
 | .tuple [p,f],ae=>pwB p ae&&(EC f&&nzD f)
 | _,_=>false
def ZJ:PyData->Prop
 | .tuple [p,f]=>pwOk p/\frOk f
 | _=>True
def spTerm:Sp:=λvs H Q _=>∃(v:V) (d:PyData) (ae:Int),vs=[v,.int ae]/\DecV H v d/\ZJ d/\∀H',Same H H'->Q (.bl (qX d ae)) H'
theorem DecVs.sm{H:Hp} :∀{xs:List V} {ds:List PyData},DecVs H xs ds->(∀x∈ds,smD x)->∀x∈xs,Sm x/\∃k,KdOf H x k
 | _,_,.nil,_=>λx h=>(by cases h)
 | _,_,.cons h t,k=>λx hx=>by
  rcases mY.mp hx with rfl | hx
  ·refine⟨?_,_,h.kd⟩;have:=k _ (mC ..);cases h<;>first | exact this | exact trivial
  ·exact DecVs.sm t (λy hy=>k y (gY _ hy)) x hx
theorem UT{H:Hp}{v:V}{d:PyData}(h:DecV H v d)(o:frOk d):Thing H v/\CN H v=EC d:=by
 cases h with
 | non=>exact⟨.sc .non (by decide),rfl⟩
 | bl b=>exact⟨.sc (.bl b) (by decide),rfl⟩
 | int i=>exact⟨.sc (.int i) (by decide),rfl⟩
 | str x=>exact⟨.sc (.str x) (by decide),rfl⟩
 | lst e _=>exact⟨.sc (.lst e) (by decide),by simp only[CN,e];rfl⟩
 | @tup a xs ds e h=>
  refine⟨.tup e (h.sm o), ?_⟩;rw[JG e]
  match xs,ds,h with
  | [],[],_=>rfl
  | [_],[_],.cons h1 .nil=>rw[BR (by simp)];cases h1<;>rfl
  | [_,_],[_,_],.cons h1 (.cons h2 .nil)=>cases h1<;>cases h2<;>rfl
  | _::_::_::_,_::_::_::_,_=>
   rw[BR (by simp)];unfold EC;split
   ·rename_i e;injection e with e
    injection e with _ e
    injection e with _ e
    cases e
   ·rfl
theorem QR{g:PyData}(h:EC g=true):∃t b,g=.tuple [.int t,.int b]:=by
 unfold EC at h;split at h
 ·exact⟨_,_,rfl⟩
 ·cases h
theorem VF{H:Hp}{y:V}{t b:Int}(h:DecV H y (.tuple [.int t,.int b])):∃c,y=.ref c/\H c=some (.tup [.int t,.int b]):=by
 cases h with
 | tup e h=>
  cases h with
  | cons h1 h=>
   cases h with
   | cons h2 h=>
    cases h;cases h1;cases h2;exact⟨_,rfl,e⟩
def Ngt(K:nW)(mg:Str->Option Value):Prop:=∃a,mg "NOUGHT" = some (.ref a)/\∀H,SqT K H a (([0,1]:List Int).map V.int)
theorem scTerm:FnScope ["thing","many","powers","fraction"] ["thing","many"] (jJ MQ):=scK (by decide +kernel)
theorem WY{fW fI fP fH fG:Addr}{fdW fdI fdP fdH fdG:FuncData}(F:Fun K "is_term" "is_term" MQ f fd)(T:Txt mg)(N:Ngt K mg)(DW:Df K mg "is_whole_from" sWF ["thing","low"] fW fdW)(DP:Df K mg "are_powers" sPw ["thing","many"] fP fdP)(DI:Df K mg "is_fraction" SL ["thing"] fI fdI)
 (DH:Df K mg "is_whole" uR ["thing"] fH fdH) (DG:Df K mg "greatest_divisor" PP ["one","other"] fG fdG):FnOk P w K mg base CX0 4 f fd ["thing","many"] spTerm:=by
 have GP:FnOk P w K mg base CX0 3 fP fdP ["thing","many"] spPw:=ok_pw DP.F T DW;have GI:FnOk P w K mg base CX0 2 fI fdI ["thing"] spIsf:=ok_isf DI.F T DH DG;obtain⟨nA,hn,hN⟩:=N;refine F.ok scTerm (λvs H Q E h=>?_) (λcdv A outer s H vs Q E hr h=>?_)
 ·obtain⟨v,d,ae,rfl,_⟩:=h
  rfl
 ·obtain⟨v,d,ae,rfl,hd,ho,q⟩:=h;have hr2:Room 2 _:=hr.mono (by decide);refine⟨_,jB (jX (PW.pt (vB (qZ (qM (xD uF T.isi T.tup boot_tuple (pv 0)))) (qT (jI wZ (jU kL (by rfl) T.len PySem.boot_len (jA (pv 0) jD)) jC (jR _))))) (jE (jK xS)) jM)
   (jB (vK (pv 0) (vS rfl (jZ (jS (i:=2) scTerm.nd rfl (Or.inl rfl)) (jZ (jS (i:=3) scTerm.nd rfl (Or.inl rfl)) qW))))
   (jE (jK (zJ (jT GP hr rfl DP.m DP.F.kp DP.b .nil kU (jA (pv 2) (jA (pv 1) jD))) (zJ (jT GI hr2 rfl DI.m DI.F.kp DI.b .nil kU (jA (pv 3) jD)) (BO (xW (LwT.op_neT hr.units0) (pv 3) (qF (v:=.ref nA) (by rfl) hn rfl) (jR _)))))))), ?_⟩
  refine⟨_,rfl,rfl,_,hd.kd,_,rfl, ?_⟩;cases hd with
  | non=>exact kD (kD (q _ (Same.refl _)))
  | bl b=>exact kD (kD (q _ (Same.refl _)))
  | int i=>exact kD (kD (q _ (Same.refl _)))
  | str x=>exact kD (kD (q _ (Same.refl _)))
  | lst e _=>exact kD (kD (q _ (Same.refl _)))
  | @tup a xs ds e hx=>
   refine qV ⟨_,rfl,a,xs,rfl,.inr (SqT.of e),rfl,_,rfl, ?_⟩
   match xs,ds,hx,e,ho,q with
   | [],[],_,e,ho,q=>exact kD (q _ (Same.refl _))
   | [_],[_],_,e,ho,q=>exact kD (q _ (Same.refl _))
   | [x,y],[p,g],.cons h1 (.cons h2 .nil),e,ho,q=>
    refine qV ?_;refine⟨_,rfl,a,[x,y],rfl,SqT.of e,rfl,x,[y],rfl,y,[],rfl,rfl, ?_⟩;refine⟨_,rfl,_,rfl,x,p,ae,rfl,h1,ho.1,λH1 s1=>⟨_,rfl, ?_⟩⟩;cases e1:pwB p ae with
    | false=>
     have z:qX (.tuple [p,g]) ae=false:=by simp only[qX,e1,Bool.false_and]
     rw[z]at q;exact qV (q _ s1)
    | true=>
     obtain⟨t1,t2⟩:=UT (h2.mono s1) ho.2;refine kD ⟨_,rfl,y,rfl,t1,_,rfl, ?_⟩;rw[t2];cases e2:EC g with
     | false=>
      have z:qX (.tuple [p,g]) ae=false:=by simp only[qX,e2,Bool.false_and,Bool.and_false]
      rw[z]at q;exact qV (q _ s1)
     | true=>
      refine kD ?_;have z:qX (.tuple [p,g]) ae=nzD g:=by simp only[qX,e1,e2,Bool.true_and]
      rw[z]at q;obtain⟨t,b,rfl⟩:=QR e2;obtain⟨c,rfl,ec⟩:=VF (h2.mono s1);refine⟨_,rfl,c,nA,[t,b],[0,1],rfl,rfl,SqT.of ec,hN _, ?_⟩;show Q (V.bl (LwT.lexNe [t,b] [0,1])) H1;rw[show LwT.lexNe [t,b] [0,1]=nzD (.tuple [.int t,.int b])from LwT.lexNe_eq [t,b] [0,1]];exact q _ s1
   | x1::x2::x3::xs,d1::d2::d3::ds,hx,e,ho,q=>
    refine kQ ?_ (q _ (Same.refl _));rw[mR]
    ·rfl
    ·intro z;injection z with z
     simp only[mN]at z
     lia
def yW:PyData->List Int
 | .tuple (.tuple ds::_)=>vQ ds
 | _=>[]
def wV(ts:List PyData):Bool:=(ts.zip (ts.drop 1)).all λq=>LwT.lexLt (yW q.1) (yW q.2)
def AD:PyData->Bool
 | .tuple [.int n,.tuple ts]=>(decide (1<=n)&&decide (n<=4))&&(decide (ts.length<=500)&&((ts.all λt=>qX t n)&&wV ts))
 | _=>false
def suOk:PyData->Prop
 | .tuple [_,.tuple ts]=>∀t∈ts,ZJ t
 | _=>True
def spSum:Sp:=λvs H Q _=>∃(v:V) (d:PyData),vs=[v]/\DecV H v d/\suOk d/\∀H',Same H H'->Q (.bl (AD d)) H'
theorem HM{H:Hp}{x:V}{d:PyData}{n:Int}(h:DecV H x d)(e:qX d n=true):∃a b y ns,x=.ref a/\H a=some (.tup [.ref b,y])/\H b=some (.tup (ns.map V.int))/\yW d=ns:=by
 unfold qX at e;split at e
 ·rename_i p g;rw[mO]at e;have e1:=e.1;unfold pwB at e1;split at e1
  ·rename_i ds';rw[mO,mO]at e1;cases h with
   | tup q h=>
    cases h with
    | cons h1 h=>
     cases h with
     | cons h2 h=>
      cases h;cases h1 with
      | tup q1 h1=>
       obtain⟨ex,_⟩:=GC h1 e1.1.2;exact⟨_,_,_,vQ ds',rfl,q,by rw[q1,ex],rfl⟩
  ·cases e1
 ·cases e
theorem VR{ts:List PyData}{i:Nat}{a b:PyData}(h1:ts[i]? = some a)(h2:(ts.drop 1)[i]? = some b):((ts.zip (ts.drop 1)).take (i+1))=(ts.zip (ts.drop 1)).take i++[(a,b)]:=by
 rw[mG,List.getElem?_zip_eq_some (z:=(a,b)) |>.mpr ⟨h1,h2⟩]
 rfl
theorem CT(xs:List V):xF xs (some 1) none=xs.drop 1:=by
 unfold xF;have e1:HT.sIx xs.length 0 (some 1)=min 1 xs.length:=HT.sIx_nat xs.length 0 1;have e2:HT.sIx xs.length xs.length none=xs.length:=rfl;rw[e1,e2];cases xs with
 | nil=>rfl
 | cons x xs=>
  have:min 1 (x::xs).length=1:=by simp
  rw[this,gQ (by simp)]
theorem DecVs.drop1{H:Hp}{xs:List V}{ds:List PyData}(h:DecVs H xs ds):DecVs H (xs.drop 1) (ds.drop 1):=by
 cases h with
 | nil=>exact .nil
 | cons _ t=>exact t
theorem scSum:FnScope ["thing","many","terms"] ["thing"] (jJ WK):=scK (by decide +kernel)
theorem ok_sum{fW fI fP fH fG fT:Addr}{fdW fdI fdP fdH fdG fdT:FuncData}(F:Fun K "is_sum" "is_sum" WK f fd)(T:Txt mg)(N:Ngt K mg)(DW:Df K mg "is_whole_from" sWF ["thing","low"] fW fdW)(DP:Df K mg "are_powers" sPw ["thing","many"] fP fdP)(DI:Df K mg "is_fraction" SL ["thing"] fI fdI)
 (DH:Df K mg "is_whole" uR ["thing"] fH fdH) (DG:Df K mg "greatest_divisor" PP ["one","other"] fG fdG) (DT:Df K mg "is_term" MQ ["thing","many"] fT fdT):FnOk P w K mg base CX0 5 f fd ["thing"] spSum:=by
 have GW:FnOk P w K mg base CX0 1 fW fdW ["thing","low"] spWF:=YZ DW.F T;have GT:FnOk P w K mg base CX0 4 fT fdT ["thing","many"] spTerm:=WY DT.F T N DW DP DI DH DG;obtain⟨tl,hlt⟩:=T.letters;obtain⟨tt,htt⟩:=T.terms;refine F.ok scSum (λvs H Q E h=>?_) (λcdv A outer s H vs Q E hr h=>?_)
 ·obtain⟨v,d,rfl,_⟩:=h
  rfl
 ·obtain⟨v,d,rfl,hd,ho,q⟩:=h;have hr1:Room 1 _:=hr.mono (by decide);refine⟨_,jB (jX (PW.pt (vB (qZ (qM (xD uF T.isi T.tup boot_tuple (pv 0)))) (qT (jI wZ (jU kL (by rfl) T.len PySem.boot_len (jA (pv 0) jD)) jC (jR _))))) (jE (jK xS)) jM)
   (jB (vK (pv 0) (vS rfl (jZ (jS (i:=1) scSum.nd rfl (Or.inr rfl)) (jZ (jS (i:=2) scSum.nd rfl (Or.inl rfl)) qW))))
   (jB (jX (PW.pt (vB (qZ (qM (jT GW hr1 rfl DW.m DW.F.kp DW.b .nil kU (jA (pv 1) (jA jC jD))))) (qT (jI yE (pv 1) (qF (v:=.int 4) (by rfl) hlt ⟨_,rfl⟩) (jR _))))) (jE (jK xS)) jM)
   (jB (jX (PW.pt (vB (qZ (qM (xD uF T.isi T.tup boot_tuple (pv 2)))) (qT (jI yE (jU kL (by rfl) T.len PySem.boot_len (jA (pv 2) jD)) (qF (v:=.int 500) (by rfl) htt ⟨_,rfl⟩) (jR _))))) (jE (jK xS)) jM)
   (jB (jX (qZ (qM (jU (uI rfl) (by rfl) T.all boot_all (jA
     (BQ (own:=1) (idx:=[1]) (N:=["term","many"]) rfl rfl rfl (by decide +kernel) (by decide +kernel) (λ_ _ h=>h) (CL rfl) rfl (NP rfl ⟨rfl,rfl,rfl,rfl⟩) (BN (pv 2)) (λC fp s2 H2=>jS (i:=0) (show List.Nodup (["term","many"]:List Str) by decide +kernel) rfl (Or.inl rfl)) (λC fp s2 H2=>jT GT hr rfl DT.m DT.F.kp DT.b .nil kU (jA (pv 0) (jA (pv 1) jD)))) jD)))) (jE (jK xS)) jM)
   (jE (jK (jU (uI rfl) (by rfl) T.all boot_all (jA
     (IE (N:=["before","behind"]) rfl rfl (by decide +kernel) (by decide +kernel) (by decide +kernel) (NE (by rfl) T.zip (jA (pv 2) (jA (kN WH (pv 2) (kR jC) qC) jD))) (λC fp s2 H2=>show PG (vA _ ["before","behind"] _ C fp s2 H2) _ (gTup K 2 (JF (qY 0) (JF (qY 1) gNil)))from vS (X:=vA _ ["before","behind"] _ C fp s2 H2) rfl (jZ (jS (i:=0) (show List.Nodup (["before","behind"]:List Str) by decide +kernel) rfl (Or.inl rfl) (Or.inl rfl)) (jZ (jS (i:=1) (show List.Nodup (["before","behind"]:List Str) by decide +kernel) rfl (Or.inl rfl) (Or.inl rfl)) qW)))
      (λC fp s2 H2=>xW (show OpR (vA _ ["before","behind"] _ C fp s2 H2) (compareOp .Lt) (LwT.rOrdT K LwT.lexLt)from LwT.op_ltT hr.units0) (kB (show IxR (vA _ ["before","behind"] _ C fp s2 H2) (rIxT K)from kF) (pv 0) jC (λ_ _=>rfl)) (kB (show IxR (vA _ ["before","behind"] _ C fp s2 H2) (rIxT K)from kF) (pv 1) jC (λ_ _=>rfl)) (jR _))) jD)))))))), ?_⟩
  have no:AD d=false->Q (.bl false) H:=λz=>by have:=q H (Same.refl _);rwa [z]at this
  refine⟨_,rfl,rfl,_,hd.kd,_,rfl, ?_⟩;cases hd with
  | non=>exact kD (kD (no rfl))
  | bl b=>exact kD (kD (no rfl))
  | int i=>exact kD (kD (no rfl))
  | str x=>exact kD (kD (no rfl))
  | lst e _=>exact kD (kD (no rfl))
  | @tup a xs ds e hx=>
   refine qV ⟨_,rfl,a,xs,rfl,.inr (SqT.of e),rfl,_,rfl, ?_⟩
   match xs,ds,hx,e,ho,q,no with
   | [],[],_,e,ho,q,no=>exact kD (no rfl)
   | [_],[d1],_,e,ho,q,no=>exact kD (no (by cases d1<;>rfl))
   | x1::x2::x3::xs,d1::d2::d3::ds,hx,e,ho,q,no=>
    refine kQ ?_ (no (by cases d1<;>cases d2<;>rfl));rw[mR]
    ·rfl
    ·intro z;injection z with z
     simp only[mN]at z
     lia
   | [x,y],[dm,dt],.cons h1 (.cons h2 .nil),e,ho,q,no=>
    refine qV ?_;refine⟨_,rfl,a,[x,y],rfl,SqT.of e,rfl,x,[y],rfl,y,[],rfl,rfl, ?_⟩;refine⟨_,rfl,x,dm,1,rfl,h1,_,rfl, ?_⟩;cases h1 with
    | non=>exact kD (kD (no rfl))
    | bl b=>exact kD (kD (no rfl))
    | str x=>exact kD (kD (no rfl))
    | lst e _=>exact kD (kD (no rfl))
    | tup e _=>exact kD (kD (no rfl))
    | int n=>
    by_cases n1:1<=n
    case neg=>
     refine kQ (by show(!decide (1<=n))=true;rw[mR n1];rfl) (kD (no ?_));cases dt<;>first | rfl | (simp only[AD,mR n1,Bool.false_and])
    refine kW (by show(!decide (1<=n))=false;rw[mT n1];rfl) ?_;refine⟨_,rfl,_,_,rfl,rfl,_,rfl, ?_⟩;by_cases n4:4<n
    case pos=>
     refine kQ (mT n4) (no ?_);have:¬n<=4:=by lia
     cases dt<;>first | rfl | (simp only[AD,mR this,Bool.false_and,Bool.and_false])
    refine kW (mR n4) ?_;have n4':n<=4:=by lia
    refine⟨_,rfl,rfl,_,h2.kd,_,rfl, ?_⟩;cases h2 with
    | non=>exact kD (kD (no rfl))
    | bl b=>exact kD (kD (no rfl))
    | int i=>exact kD (kD (no rfl))
    | str x=>exact kD (kD (no rfl))
    | lst e _=>exact kD (kD (no rfl))
    | @tup a2 ts dts e2 ht=>
    have hlen:=ht.length;refine qV ⟨_,rfl,a2,ts,rfl,.inr (SqT.of e2),_,_,rfl,rfl,_,rfl, ?_⟩;by_cases n5:dts.length<=500
    case neg=>
     refine kQ (mT (by rw[hlen];lia)) (no ?_);simp only[AD,mR n5,Bool.false_and,Bool.and_false]
    refine kW (mR (by rw[hlen];lia)) ?_;have zs:AD (.tuple [.int n,.tuple dts])=((dts.all λt=>qX t n)&&wV dts):=by
     simp only[AD,mT n1,mT n4',mT n5,Bool.true_and]
    rw[zs]at q;clear no zs;have tsz:ts.length<sizeLine:=by rw[hlen];exact hV n5 (by decide)
    refine⟨_,rfl,a2,rfl,⟨ts,SqT.of e2⟩,λp H1 n1' s1 e1=>?_⟩;refine EH (xs:=ts) (λi ys H2=>Same H H2/\H2 p=some (.lst ys)/\ys=(dts.take i).map λd=>V.bl (qX d n)) tsz ⟨s1,e1,rfl⟩ (λi ys H2 h=>⟨SqT.of (h.1 _ _ e2),h.2.1⟩) ?_ ?_
    ·rintro i m ys x H2 hx' hm hl' ⟨k1,k2,rfl⟩;obtain⟨d,hd1,hd2⟩:=(ht.mono k1).get hx';refine⟨NY,_,rfl,_,rfl,x,d,n,rfl,hd2,ho d (gX hd1),λH3 s3=>?_⟩;refine xP hx' hm hl' (s3 _ _ k2) ⟨kT (k1.trans s3) n1',jF, ?_⟩;rw[mG,hd1,List.map_append]
     rfl
    ·rintro ys H2 hl' ⟨k1,k2,rfl⟩;rw[hlen,mM]at k2;refine⟨p,dts.map λd=>qX d n,rfl,SqL.of (by rw[k2,List.map_map];rfl),_,rfl, ?_⟩;have ea:(dts.map λd=>qX d n).all id=dts.all λd=>qX d n:=by rw[List.all_map];rfl
     rw[ea];cases al:dts.all λd=>qX d n with
     | false=>
      rw[al]at q;exact kD (q _ k1)
     | true=>
      rw[al,Bool.true_and]at q;refine qV ?_;have alt:∀d∈dts,qX d n=true:=List.all_eq_true.mp al;have d1:=ht.drop1;refine⟨_,rfl,_,rfl,1,rfl,a2,ts,rfl,k1 _ _ e2,λp2 H3 s3 e3=>?_⟩;rw[CT]at e3;have k3:Same H H3:=k1.trans s3;refine⟨a2,p2,rfl,⟨ts,SqT.of (k3 _ _ e2)⟩,⟨_,SqT.of e3⟩,λp3 H4 n4 s4 e4=>?_⟩;refine VJ (ts:=ts) (us:=ts.drop 1) (λi ys H5=>Same H3 H5/\H5 p3=some (.lst ys)/\ys=((dts.zip (dts.drop 1)).take i).map λq=>V.bl (LwT.lexLt (yW q.1) (yW q.2))) (by simp) (by simp;lia) ⟨s4,e4,rfl⟩
       (λi ys H5 h=>⟨SqT.of ((k3.trans h.1) _ _ e2),SqT.of (h.1 _ _ e3),h.2.1⟩) ?_ ?_
      ·rintro i m ys x y c H5 hx' hy' hm hl' ⟨j1,j2,rfl⟩ hc;obtain⟨dx,ex1,ex2⟩:=(ht.mono (k3.trans j1)).get hx';obtain⟨dy,ey1,ey2⟩:=(d1.mono (k3.trans j1)).get hy';obtain⟨ax,bx,wx,ns,rfl,hax,hbx,rfl⟩:=HM ex2 (alt _ (gX ex1));obtain⟨ay,by',wy,ms,rfl,hay,hby,rfl⟩:=HM ey2 (alt _ (List.mem_of_mem_drop (gX ey1)));have su:Same H5 (upd H5 c (.tup [.ref ax,.ref ay])):=jW _ hc;refine⟨c,[.ref ax,.ref ay],rfl,SqT.of jF,rfl,_,_,rfl,_,_,rfl,rfl, ?_⟩;refine⟨_,rfl,ax,_,_,_,rfl,rfl,SqT.of (su _ _ hax),rfl,_,rfl,ay,_,_,_,rfl,rfl,SqT.of (su _ _ hay),rfl,bx,by',_,_,rfl,rfl,SqT.of (su _ _ hbx),SqT.of (su _ _ hby), ?_⟩;refine xP hy' hm hl' (su _ _ j2) ⟨kT (j1.trans su) n4,jF, ?_⟩;rw[VR ex1 ey1,List.map_append]
       rfl
      ·rintro ys H5 hl' ⟨j1,j2,rfl⟩;have el:(dts.zip (dts.drop 1)).length=(ts.drop 1).length:=by rw[List.length_zip,List.length_drop,List.length_drop,hlen];lia
       rw[<-el,mM]at j2;refine⟨p3,(dts.zip (dts.drop 1)).map λq=>LwT.lexLt (yW q.1) (yW q.2),rfl,SqL.of (by rw[j2,List.map_map];rfl), ?_⟩;have ez:((dts.zip (dts.drop 1)).map λq=>LwT.lexLt (yW q.1) (yW q.2)).all id=wV dts:=by rw[List.all_map];rfl
       rw[ez];exact q _ (k3.trans j1)
end Lw
namespace LwS
open PySem PySem.Builtin.Str LwI
structure TmOk(ae:Nat)(x:Trm):Prop where
 len:x.ns.length=ae
 nn:∀n∈x.ns,0<=n
 deg:x.ns.sum<=16
 pos:0<x.b
 low:Int.gcd x.t x.b=1
 nz:x.t≠0
 st:x.t.natAbs<2^1900
 sb:x.b.natAbs<2^1900
theorem SB:∀{ns:List Int},(∀n∈ns,0<=n)->0<=ns.sum
 | [],_=>nP _
 | a::r,h=>by
  have h1:=h a (by simp);have h2:=SB λn hn=>h n (gY _ hn);rw[nB];lia
theorem NS:∀{ns:List Int} {n:Int},(∀n∈ns,0<=n)->n∈ns->n<=ns.sum
 | a::r,n,h,hn=>by
  have h1:=h a (by simp);have h2:=SB λn hn=>h n (gY _ hn);rw[nB];rcases mY.mp hn with rfl | hn
  ·lia
  ·have:=NS (λn hn=>h n (gY _ hn)) hn
   lia
theorem TmOk.le{ae:Nat}{x:Trm}(h:TmOk ae x){n:Int}(hn:n∈x.ns):0<=n/\n<=16:=⟨h.nn n hn,Int.le_trans (NS h.nn hn) h.deg⟩
theorem wJ{i:Int}{k:Nat}(h:i.natAbs<2^k)(hk:k<=1920)(hk0:0<k):i.natAbs.log2<1920:=by
 by_cases e:i.natAbs=0
 ·rw[e];decide
 ·exact hX ((Nat.log2_lt e).mpr h) hk
theorem TmOk.t10{ae:Nat}{x:Trm}(h:TmOk ae x):x.t.natAbs<10^572:=hX h.st (by decide +kernel)
theorem TmOk.b10{ae:Nat}{x:Trm}(h:TmOk ae x):x.b.natAbs<10^572:=hX h.sb (by decide +kernel)
theorem FP{ae:Nat}{x:Trm}(h:TmOk ae x):(ntx x.t x.b).length<=1147:=by
 have h1:=xI (by decide) h.t10;have h2:=xI (by decide) h.b10;unfold ntx;split
 ·lia
 ·rw[Str.length_append,Str.length_append];show(itx x.t).length+1+(itx x.b).length<=1147
  lia
theorem AK{p:Int}(h0:0<=p)(h:p<=16):p.natAbs<10^2:=by lia
theorem LW{q:Nat×Int}(h0:0<=q.2)(h:q.2<=16):(wtx q).length<=5:=by
 have h2:=xI (by decide) (AK h0 h);unfold wtx;split
 ·show 1<=5;decide
 ·rw[Str.length_append,Str.length_append];show 1+1+(itx q.2).length<=5
  lia
theorem uM:∀(ns:List Int) (j:Nat),(wl j ns).length<=ns.length
 | [],_=>nN _
 | p::r,j=>by
  show((if 1<=p then [(j,p)]else [])++wl (j+1) r).length<=_;have:=uM r (j+1);rw[List.length_append,mN];split
  ·rw[List.length_singleton];lia
  ·rw[List.length_nil];lia
theorem SA{B:Nat}{l:List Str}(h:∀y∈l,y.length<=B):(l.map (·.length)).sum<=l.length*B:=StrLaws.sumLen_le l h
theorem DJ{ae:Nat}{x:Trm}(h:TmOk ae x):∀y∈(wl 0 x.ns).map wtx,y.length<=5:=λy hy=>by
 obtain⟨q,hq,rfl⟩:=nI.mp hy;have:=h.le (uL hq).2.2.2;exact LW this.1 this.2
theorem EU{ae:Nat}{x:Trm}(h:TmOk ae x)(hm:ae<=4):(ttx x).length<=1172:=by
 have h1:=StrLaws.join_length_le ⟨#[32]⟩ (ntx x.t x.b::(wl 0 x.ns).map wtx);have h2:=SA (DJ h);have h3:=uM x.ns 0;have h4:=FP h;have h5:=h.len;simp only[mX,nB,mN,mQ]at h1 h2;have e:(⟨#[32]⟩:Str).length=1:=rfl;rw[e]at h1;exact nG h1 (by lia)
theorem FX{sep:Str}{l:List Str}{B:Nat}(hB:∀y∈l,y.length<=B)(h:l.length*B+l.length*sep.length<=16777216):JoinOk sep l=true:=by
 unfold JoinOk;rw[StrLaws.joinFits hB h]
 rfl
end LwS
namespace Lw
open PySem PySem.Spec PyProof.Rows L2 LwS
def Ltr(K:nW)(mg:Str->Option Value):Prop:=∃a,mg "LETTERS" = some (.ref a)/\(∀H,SqT K H a [.str (ltr 0),.str (ltr 1),.str (ltr 2),.str (ltr 3)])/\∃o,K.lookup a=some o/\o.cls=.type "tuple"/\o.dict=none
theorem OM(b:Int):decide (V.int b=V.int 1)=decide (b=1):=by
 by_cases h:b=1
 ·rw[h];rfl
 ·rw[mR h,mR];intro z;injection z with z
  exact h z
structure TAt(H:Hp)(b c:Addr)(x:Trm):Prop where
 pw:H b=some (.tup (x.ns.map V.int))
 nb:At2 H c x.t x.b
theorem TAt.map{H H':Hp}{b c:Addr}{x:Trm}(h:TAt H b c x)(k:∀a xs,H a=some (.tup xs)->H' a=some (.tup xs)):TAt H' b c x:=⟨k _ _ h.pw,k _ _ h.nb⟩
def spShNum:Sp:=λvs H Q _=>∃(c:Addr) (ae:Nat) (x:Trm),vs=[.ref c]/\At2 H c x.t x.b/\TmOk ae x/\Q (.str (ntx x.t x.b)) H
def spShTerm:Sp:=λvs H Q _=>∃(b c:Addr) (ae:Nat) (x:Trm),vs=[.ref b,.ref c]/\TAt H b c x/\TmOk ae x/\ae<=4/\∀H',Same H H'->Q (.str (ttx x)) H'
variable{P:Program}{w:World}{K:nW}{mg:Str->Option Value}{base:Heap}{f fd:_}
theorem scShNum:FnScope ["number","top","bottom"] ["number"] (jJ BJ):=scK (by decide +kernel)
theorem TN(F:Fun K "shown_number" "shown_number" BJ f fd)(T:Txt mg):FnOk P w K mg base CX0 1 f fd ["number"] spShNum:=by
 refine F.ok scShNum (λvs H Q E h=>?_) (λcdv A outer s H vs Q E hr h=>?_)
 ·obtain⟨c,ae,x,rfl,_⟩:=h
  rfl
 ·obtain⟨c,ae,x,rfl,hc,ok,q⟩:=h;refine⟨_,jB (vK (pv 0) (vS rfl (jZ (jS (i:=1) scShNum.nd rfl (Or.inl rfl)) (jZ (jS (i:=2) scShNum.nd rfl (Or.inl rfl)) qW))))
   (jB (jX (jI vC (pv 2) jC (jR _)) (jE (jK (kP vN (by rfl) T.str boot_str (jA (pv 1) jD)))) jM)
   (jE (jK (NH (pv 1) (pv 2))))), ?_⟩
  have l1:=wJ ok.st (by decide) (by decide);have l2:=wJ ok.sb (by decide) (by decide);have e1:=xI (by decide) ok.t10;have e2:=xI (by decide) ok.b10;refine⟨_,rfl,c,_,rfl,SqT.of hc,rfl,_,_,rfl,_,_,rfl,rfl, ?_⟩;refine⟨_,rfl,rfl,_,rfl, ?_⟩;rw[OM];refine uE (λe=>?_) (λe=>?_)
  ·refine⟨_,rfl,_,rfl,l1, ?_⟩;have:ntx x.t x.b=itx x.t:=nV (mH e);rw[this]at q;exact q
  ·have:ntx x.t x.b=itx x.t++⟨#[47]⟩++itx x.b:=nU λz=>e (mT z);rw[this]at q;refine⟨_,rfl,itx x.t,⟨l1,rfl⟩, ?_,_,rfl,itx x.b,⟨l2,rfl⟩, ?_,q⟩
   ·show(itx x.t).length+1<=sizeLine;exact nG (show _<=2000 by lia) (by decide)
   ·show(itx x.t).length+1+(itx x.b).length<=sizeLine;exact nG (show _<=2000 by lia) (by decide)
theorem QH{i:Nat}{u:V}(hi:i<4∨True)(hu:([.str (ltr 0),.str (ltr 1),.str (ltr 2),.str (ltr 3)]:List V)[i]? = some u):u=.str (ltr i):=by
 match i,hu with
 | 0,h=>exact(Option.some.inj h).symm
 | 1,h=>exact(Option.some.inj h).symm
 | 2,h=>exact(Option.some.inj h).symm
 | 3,h=>exact(Option.some.inj h).symm
 | n+4,h=>simp at h
inductive ShI(K:nW)(H:Hp)(b c l:Addr)(x:Trm)(i:Nat):L2.St->Hp->Prop where
 | mk {u v:Option V} {H':Hp} (s:Same H H') (e:H' l=some (.lst ((ntx x.t x.b::(wl 0 (x.ns.take i)).map wtx).map V.str))) (n:H l=none):ShI K H b c l x i [some (.ref b),some (.ref c),some (.ref l),u,v] H'
theorem scShTerm:FnScope ["powers","number","words","letter","power"] ["powers","number"] (jJ AM):=scK (by decide +kernel)
theorem QA{fN:Addr}{fdN:FuncData}(F:Fun K "shown_term" "shown_term" AM f fd)(T:Txt mg)(L:Ltr K mg)(DN:Df K mg "shown_number" BJ ["number"] fN fdN):FnOk P w K mg base CX0 2 f fd ["powers","number"] spShTerm:=by
 have GN:FnOk P w K mg base CX0 1 fN fdN ["number"] spShNum:=TN DN.F T;obtain⟨la,lm,ls,_⟩:=L;refine F.ok scShTerm (λvs H Q E h=>?_) (λcdv A outer s H vs Q E hr h=>?_)
 ·obtain⟨b,c,ae,x,rfl,_⟩:=h
  rfl
 ·obtain⟨b,c,ae,x,rfl,hx,ok,hm,q⟩:=h;have hr1:Room 1 _:=hr.mono (by decide);refine⟨_,jB (jL (i:=2) scShTerm.nd rfl (Or.inl rfl) (qE (jA (jT GN hr1 rfl DN.m DN.F.kp DN.b .nil kU (jA (pv 1) jD)) jD)))
   (jB (qU PassesOwn.never rfl (NE (by rfl) T.zip (jA (qF (v:=.ref la) (by rfl) lm rfl) (jA (pv 0) jD))) (vS rfl (jZ (jS (i:=3) scShTerm.nd rfl (Or.inl rfl)) (jZ (jS (i:=4) scShTerm.nd rfl (Or.inl rfl)) qW)))
    (jB (jX (jI vC (pv 4) jC (jR _)) (jE (xH (qQ PySem.F.plainAttrs_list PySem.F.slot_list_append PySem.F.type_list_append qP (pv 2) (jA (pv 3) jD)))) jM)
    (jE (jX (jI yE (pv 4) jC (jR _)) (jE (xH (qQ PySem.F.plainAttrs_list PySem.F.slot_list_append PySem.F.type_list_append qP (pv 2) (jA (NH (pv 3) (pv 4)) jD)))) jM))))
   (jE (jK (qQ PySem.F.plainAttrs_str PySem.F.slot_str_join PySem.F.type_str_join yR jO (jA (pv 2) jD))))), ?_⟩
  refine⟨_,rfl,c,ae,x,rfl,hx.nb,ok,gE,λl H1 n1 s1 e1=>?_⟩;refine⟨_,rfl,la,b,rfl,⟨_,ls H1⟩,⟨_,SqT.of (s1 _ _ hx.pw)⟩, ?_⟩;have nl:(x.ns.map V.int).length=ae:=by rw[mQ,ok.len]
  refine L2.UU (xs:=[.str (ltr 0),.str (ltr 1),.str (ltr 2),.str (ltr 3)]) (ys:=x.ns.map V.int) (ShI K H b c l x) (by rw[nl];exact hm) (.mk s1 (by rw[List.take_zero];exact e1) n1) (λi σ H2 _ h=>?_) (λi u v p σ H2 hu hv hp h=>?_) (fun σ H2 h=>?_)
  ·obtain⟨s2,e2,_⟩:=h;exact⟨ls H2,SqT.of (s2 _ _ hx.pw)⟩
  ·obtain⟨s2,e2,_⟩:=h;have hi:i<x.ns.length:=by
    have:=(gI.mp hv).1
    rwa [mQ]at this
   obtain⟨n,hn⟩:∃n,x.ns[i]? = some n:=⟨x.ns[i],by simp [hi]⟩;have ev:v=.int n:=by rw[mE,hn]at hv;exact(Option.some.inj hv).symm
   have eu:u=.str (ltr i):=QH (.inr True.intro) hu;subst ev eu;have nb:=ok.le (gX hn);have et:x.ns.take (i+1)=x.ns.take i++[n]:=by rw[mG,hn];rfl
   have ti:(x.ns.take i).length=i:=by rw[mK];lia
   have s3:Same H2 (upd H2 p (.tup [.str (ltr i),.int n])):=jW _ hp;have e3:=s3 _ _ e2;have pl:p≠l:=λz=>by rw[z,e2]at hp;cases hp
   have few:((ntx x.t x.b::(wl 0 (x.ns.take i)).map wtx).map V.str).length<sizeLine:=by
    have:=uM (x.ns.take i) 0;simp only[mQ,mN];exact hV (show _<=5 by have:=ok.len;lia) (by decide)
   refine⟨p,_,rfl,SqT.of jF,rfl,_,_,rfl,_,_,rfl,rfl, ?_⟩;refine⟨_,rfl,rfl,_,rfl, ?_⟩;rw[OM];have go:∀(y:List Str) (H4:Hp),Same H H4->wl 0 (x.ns.take (i+1))=wl 0 (x.ns.take i)++(if 1<=n then [(i,n)]else [])->(if 1<=n then [(i,n)]else []).map wtx=y->H4 l=some (.lst ((ntx x.t x.b::(wl 0 (x.ns.take i)).map wtx).map V.str++y.map V.str))->ShI K H b c l x (i+1) [some (.ref b),some (.ref c),some (.ref l),some (.str (ltr i)),some (.int n)] H4:=λy H4 s4 ew ey e4=>
    .mk s4 (by rw[e4,ew,List.map_append,ey,<-List.cons_append,List.map_append]) n1
   have ew:wl 0 (x.ns.take (i+1))=wl 0 (x.ns.take i)++(if 1<=n then [(i,n)]else []):=by rw[et,AF,ti,Nat.zero_add]
   have put:∀z:V,Same H (upd (upd H2 p (.tup [.str (ltr i),.int n])) l (.lst ((ntx x.t x.b::(wl 0 (x.ns.take i)).map wtx).map V.str++[z]))):=λz=>kT (s2.trans s3) n1;rcases Int.lt_trichotomy n 1 with h | h | h
   ·refine kW (mR (by lia)) ⟨_,rfl,_,_,rfl,rfl,_,rfl,kW (mR (by lia)) ?_⟩;exact go [] _ (s2.trans s3) ew (by rw[nU (by lia)];rfl) (by rw[List.map_nil,List.append_nil];exact e3)
   ·refine kQ (mT h) ⟨_,rfl,.inl ⟨rfl,_,SqL.of e3⟩,_,rfl,l,_,_,rfl,rfl,e3,few, ?_⟩;refine⟨_,rfl,_,_,rfl,rfl,_,rfl,kW (mR (by lia)) ?_⟩;exact go [ltr i] _ (put _) ew (by rw[nV (by lia),h];rfl) jF
   ·refine kW (mR (by lia)) ⟨_,rfl,_,_,rfl,rfl,_,rfl,kQ (mT h) ?_⟩;have li:=xI (by decide) (AK nb.1 nb.2);refine⟨_,rfl,.inl ⟨rfl,_,SqL.of e3⟩,_,rfl,ltr i,⟨gE,rfl⟩,(by show 1+1<=sizeLine;decide),_,rfl,itx n,⟨wJ (k:=10) (by lia) (by decide) (by decide),rfl⟩, ?_,l,_,_,rfl,rfl,e3,few, ?_⟩
    ·show 1+1+(itx n).length<=sizeLine;exact nG (show _<=5 by lia) (by decide)
    ·exact go [wtx (i,n)] _ (put _) ew (by rw[nV (by lia)];rfl) (by
      have:wtx (i,n)=ltr i++⟨#[94]⟩++itx n:=nU (by show ¬n=1;lia);rw[this];exact jF)
  ·obtain⟨s2,e2,_⟩:=h;rw[nl,<-ok.len,mM]at e2;refine⟨rfl,_,rfl,⟨#[32]⟩,l,_,rfl,rfl,SqL.of e2, ?_,q _ s2⟩;refine FX (B:=1147) (λy hy=>?_) ?_
   ·rcases mY.mp hy with rfl | hy
    ·exact FP ok
    ·exact nG (DJ ok y hy) (by decide)
   ·have:=uM x.ns 0;have:=ok.len;have e:(⟨#[32]⟩:Str).length=1:=rfl;rw[e,mN,mQ]
    lia
structure TrmV(H:Hp)(v:V)(x:Trm):Prop where
 ex:∃r b c:Addr,v=.ref r/\H r=some (.tup [.ref b,.ref c])/\TAt H b c x
theorem TrmV.map{H H':Hp}{v:V}{x:Trm}(h:TrmV H v x)(k:∀a xs,H a=some (.tup xs)->H' a=some (.tup xs)):TrmV H' v x:=by
 obtain⟨r,b,c,e1,e2,e3⟩:=h.ex;exact⟨r,b,c,e1,k _ _ e2,e3.map k⟩
structure Poly(H:Hp)(p:Addr)(ae:Nat)(ts:List Trm):Prop where
 ex:∃(q:Addr) (xs:List V),H p=some (.tup [.int ae,.ref q])/\H q=some (.tup xs)/\Paired (TrmV H) xs ts
theorem Paired.to{α β:Type}{F G:α->β->Prop}(f:∀a b,F a b->G a b):∀{l₁:List α} {l₂:List β},Paired F l₁ l₂->Paired G l₁ l₂
 | _,_,.nil=>.nil
 | _,_,.cons h t=>.cons (f _ _ h) (Paired.to f t)
theorem Poly.map{H H':Hp}{p:Addr}{ae:Nat}{ts:List Trm}(h:Poly H p ae ts)(k:∀a xs,H a=some (.tup xs)->H' a=some (.tup xs)):Poly H' p ae ts:=by
 obtain⟨q,xs,e1,e2,e3⟩:=h.ex;exact⟨q,xs,k _ _ e1,k _ _ e2,Paired.to (λ_ _ h=>h.map k) e3⟩
theorem Poly.same{H H':Hp}{p:Addr}{ae:Nat}{ts:List Trm}(h:Poly H p ae ts)(s:Same H H'):Poly H' p ae ts:=h.map λ_ _ e=>s _ _ e
theorem Paired.rev{α β:Type}{F:α->β->Prop} :∀{l₁:List α} {l₂:List β},Paired F l₁ l₂->Paired F l₁.reverse l₂.reverse
 | _,_,.nil=>.nil
 | _,_,.cons h t=>by
  rw[List.reverse_cons,List.reverse_cons];exact pair_app (Paired.rev t) (.cons h .nil)
where pair_app {α β:Type} {F:α->β->Prop} :∀{a b:List α} {c d:List β},Paired F a c->Paired F b d->Paired F (a++b) (c++d)
 | _,_,_,_,.nil,h=>h
 | _,_,_,_,.cons h t,k=>.cons h (pair_app t k)
theorem Paired.at{α β:Type}{F:α->β->Prop} :∀{l₁:List α} {l₂:List β} {i:Nat} {x:α},Paired F l₁ l₂->l₁[i]? = some x->∃y,l₂[i]? = some y/\F x y
 | _,_,_,_,.nil,h=>by simp at h
 | _,_,0,_,.cons h t,e=>by
  cases (Option.some.inj e);exact⟨_,rfl,h⟩
 | _,_,i+1,_,.cons h t,e=>Paired.at t (i:=i) e
def vP(x:Trm):PyData:=.tuple [.tuple (x.ns.map PyData.int),.tuple [.int x.t,.int x.b]]
def wF(ae:Nat)(ts:List Trm):PyData:=.tuple [.int ae,.tuple (ts.map vP)]
theorem JN{H:Hp} :∀ns:List Int,DecVs H (ns.map V.int) (ns.map PyData.int)
 | []=>.nil
 | n::r=>.cons (.int n) (JN r)
theorem TrmV.dec{H:Hp}{v:V}{x:Trm}(h:TrmV H v x):DecV H v (vP x):=by
 obtain⟨r,b,c,rfl,e2,e3⟩:=h.ex;exact .tup e2 (.cons (.tup e3.pw (JN _)) (.cons (.tup e3.nb (.cons (.int _) (.cons (.int _) .nil))) .nil))
theorem CQ{H:Hp} :∀{xs:List V} {ts:List Trm},Paired (TrmV H) xs ts->DecVs H xs (ts.map vP)
 | _,_,.nil=>.nil
 | _,_,.cons h t=>.cons h.dec (CQ t)
theorem Poly.dec{H:Hp}{p:Addr}{ae:Nat}{ts:List Trm}(h:Poly H p ae ts):DecV H (.ref p) (wF ae ts):=by
 obtain⟨q,xs,e1,e2,e3⟩:=h.ex;exact .tup e1 (.cons (.int _) (.cons (.tup e2 (CQ e3)) .nil))
theorem IW:∀ns:List Int,PyData.canLayAll0 (ns.map PyData.int)=true/\PyData.depthAll (ns.map PyData.int)<=5
 | []=>⟨by simp [PyData.canLayAll0],by simp [PyData.depthAll]⟩
 | n::r=>by
  have:=IW r;exact⟨by simp [PyData.canLayAll0,PyData.canLay0,this.1],by simp [PyData.depthAll,PyData.depth];lia⟩
theorem CD:∀ts:List Trm,PyData.canLayAll0 (ts.map vP)=true/\PyData.depthAll (ts.map vP)<=20
 | []=>⟨by simp [PyData.canLayAll0],by simp [PyData.depthAll]⟩
 | x::r=>by
  have h1:=CD r;have h2:=IW x.ns;exact⟨by simp [PyData.canLayAll0,PyData.canLay0,vP,h1.1,h2.1],by simp [PyData.depthAll,PyData.depth,vP];lia⟩
theorem VZ(ts:List Trm):DataOk (.tuple (ts.map vP)):=by
 have h1:=CD ts;exact⟨by simp [PyData.canLay0,h1.1],by simp [PyData.depth];lia⟩
theorem FK(ae:Nat)(ts:List Trm):DataOk (wF ae ts):=by
 have h1:=CD ts;exact⟨by simp [wF,PyData.canLay0,PyData.canLayAll0,h1.1],by simp [wF,PyData.depth,PyData.depthAll];lia⟩
theorem nil_ok:DataOk (.tuple []):=⟨by simp [PyData.canLay0,PyData.canLayAll0],by simp [PyData.depth,PyData.depthAll]⟩
theorem YK(ts:List Trm):PyData.eqv (.tuple (ts.map vP)) (.tuple [])=ts.isEmpty:=by
 cases ts with
 | nil=>simp [PyData.eqv,PyData.eqvAll]
 | cons x r=>simp [PyData.eqv,PyData.eqvAll]
structure Good(ae:Nat)(ts:List Trm):Prop where
 each:∀x∈ts,TmOk ae x
 few:ts.length<=500
 m1:1<=ae
 m4:ae<=4
 up:ts.Pairwise λx y=>LwD.kC x.ns y.ns=true
def spShown:Sp:=λvs H Q _=>∃(p:Addr) (ae:Nat) (ts:List Trm),vs=[.ref p]/\Poly H p ae ts/\Good ae ts/\∀H',Same H H'->Q (.str (stx ts)) H'
structure CmI(F:Nat->List V)(q:Addr)(H1:Hp)(i:Nat)(ys:List V)(H2:Hp):Prop where
 s:Same H1 H2
 e:H2 q=some (.lst ys)
 y:ys=F i
theorem WJ:FnScope ["one"] ["one"] (jJ FC):=scK (by decide +kernel)
theorem TM{fN fT:Addr}{fdN fdT:FuncData}(F:Fun K "shown" "shown" FC f fd)(T:Txt mg)(L:Ltr K mg)(DN:Df K mg "shown_number" BJ ["number"] fN fdN)(DT:Df K mg "shown_term" AM ["powers","number"] fT fdT):FnOk P w K mg base CX0 3 f fd ["one"] spShown:=by
 have GT:FnOk P w K mg base CX0 2 fT fdT ["powers","number"] spShTerm:=QA DT.F T L DN;refine F.ok WJ (λvs H Q E h=>?_) (λcdv A outer s H vs Q E hr h=>?_)
 ·obtain⟨p,ae,ts,rfl,_⟩:=h
  rfl
 ·obtain⟨p,ae,ts,rfl,hp,ok,go⟩:=h;have hr2:Room 2 _:=hr.mono (by decide);refine⟨_,jB (jX (jI (KN hr.units) (kB kF (pv 0) jC (λ_ _=>rfl)) (qD jD) (jR _)) (jE (jK jO)) jM)
   (jE (jK (qQ PySem.F.plainAttrs_str PySem.F.slot_str_join PySem.F.type_str_join yR jO (jA
    (BQ (own:=2) (idx:=[]) (N:=["powers","number"]) rfl rfl rfl (by decide +kernel) (by decide +kernel) (λ_ _ h=>nomatch h) (CL rfl) rfl (λ_ _ _ h=>nomatch h) (BN (WU (kB kF (pv 0) jC (λ_ _=>rfl)) (kR (wX yM jC))))
     (λC fp s2 H2=>show PG (jV _ ["powers","number"] _ _ C fp s2 H2) _ (gTup K 2 (JF (qY 0) (JF (qY 1) gNil)))from vS (X:=jV _ ["powers","number"] _ _ C fp s2 H2) rfl (jZ (jS (i:=0) (show List.Nodup (["powers","number"]:List Str) by decide +kernel) rfl (Or.inl rfl) (Or.inr rfl)) (jZ (jS (i:=1) (show List.Nodup (["powers","number"]:List Str) by decide +kernel) rfl (Or.inl rfl) (Or.inr rfl)) qW)))
     (λC fp s2 H2=>jT GT hr2 rfl DT.m DT.F.kp DT.b .nil kU (jA (pv 0) (jA (pv 1) jD)))) jD)))), ?_⟩
  try dsimp only[cxK]
  obtain⟨q,xs,e1,e2,e3⟩:=hp.ex;refine⟨_,rfl,p,_,_,_,rfl,rfl,SqT.of e1,rfl,gD,λz H1 n1 s1 e4=>?_⟩;refine⟨_,_,.tup (s1 _ _ e2) (CQ (Paired.to (λ_ _ h=>h.map λ_ _ e=>s1 _ _ e) e3)),.tup e4 .nil,VZ ts,nil_ok,_,rfl, ?_⟩;rw[YK];cases ts with
  | nil=>exact kD (go H1 s1)
  | cons x r=>
   refine qV ⟨rfl,_,rfl,p,_,_,_,rfl,rfl,SqT.of (s1 _ _ e1),rfl,1,rfl,_,rfl,rfl,q,xs,rfl,s1 _ _ e2,λq2 H2 s2 e5=>⟨q2,rfl,⟨_,SqT.of e5⟩,λl H3 n3 s3 e6=>?_⟩⟩;have s13:=s1.trans s2;have e7:=Paired.rev (Paired.to (λ_ _ h=>h.map λ_ _ e=>s13 _ _ e) e3);have lx:=Paired.length e7;rw[List.length_reverse (as:=x::r)]at lx;have few:=ok.few;refine EH (K:=K) (a:=q2) (xs:=xs.reverse) (CmI (λi=>(((x::r).reverse.take i).map ttx).map V.str) l H2) (hV (show xs.reverse.length<=500 by lia) (by decide)) ⟨s3,e6,rfl⟩ (λi ys H4 h=>⟨SqT.of (h.s _ _ e5),h.e⟩) ?_ ?_
   ·rintro i m ys v H4 hv hm hy ⟨s4,e8,hys⟩;obtain⟨y,hy2,⟨r1,b,c,rfl,t1,t2⟩⟩:=Paired.at e7 hv;have ym:y∈x::r:=List.mem_reverse.mp (gX hy2);refine⟨r1,_,rfl,SqT.of (s4 _ _ t1),rfl,_,_,rfl,_,_,rfl,rfl,keep2, ?_⟩;refine⟨_,rfl,_,rfl,b,c,ae,y,rfl,t2.map (λ_ _ e=>s4 _ _ e),ok.each y ym,ok.m4,λH5 s5=>?_⟩;refine xP hv hm hy (s5 _ _ e8) ⟨kT (s4.trans s5) ?_,jF, ?_⟩
    ·exact n3
    ·rw[hys,mG,hy2,List.map_append,List.map_append]
     rfl
   ·rintro ys H4 hl ⟨s4,e8,hys⟩;rw[lx,gQ (by rw[List.length_reverse];exact nN _)]at hys;rw[hys]at e8;refine⟨⟨#[32,43,32]⟩,l,_,rfl,rfl,SqL.of e8, ?_,go H4 (s13.trans s4)⟩;refine FX (B:=1172) (λy hy=>?_) ?_
    ·obtain⟨z,hz,rfl⟩:=nI.mp hy;exact EU (ok.each z (List.mem_reverse.mp hz)) ok.m4
    ·have e:(⟨#[32,43,32]⟩:Str).length=3:=rfl;rw[e,mQ,List.length_reverse]
     lia
end Lw
namespace LwS
open PySem PySem.Builtin.Str LwI
def isD(c:Nat):Bool:=decide (48<=c)&&decide (c<=57)
theorem isD_of{c:Nat} :isD c=true↔48<=c/\c<=57:=by simp [isD]
structure Tx(z:Str):Prop where
 asc:∀c∈z.cps.toList,c<128
 len:z.length<=10000
 run:∀D:List Nat,D <:+:z.cps.toList->D.all isD=true->D.length<=570
theorem Tx.sub{y z:Str}(h:Tx z)(s:y.cps.toList <:+:z.cps.toList):Tx y:=
 ⟨λc hc=>h.asc c (s.subset hc),by rw[<-jG];exact nG s.length_le (by rw[jG];exact h.len),λD d=>h.run D (d.trans s)⟩
def neg(z:Str):Bool:=z.cps.toList.head? ==some 45
def bod(z:Str):List Nat:=if neg z then z.cps.toList.drop 1 else z.cps.toList
def yY(L:List Nat):Bool:=!L.isEmpty&&L.all isD
def rdW(z:Str):Option Int:=if yY (bod z)then some (if neg z then -(valD (bod z):Int)else valD (bod z))else none
def rdN(z:Str):Option (Int×Int):=match rdW (Txt.partition z ⟨#[47]⟩).1 with
 | none=>none
 | some t=>if (Txt.partition z ⟨#[47]⟩).2.1=Str.empty then some (t,1)else(rdW (Txt.partition z ⟨#[47]⟩).2.2).map λb=>(t,b)
def rdL(ae:Nat)(y:Str):Option Nat:=(List.range ae).find? λj=>decide (y=ltr j)
def rdQ(ae:Nat)(w:Str):Option (Nat×Int):=match rdL ae (Txt.partition w ⟨#[94]⟩).1 with
 | none=>none
 | some j=>if (Txt.partition w ⟨#[94]⟩).2.1=Str.empty then some (j,1)else(rdW (Txt.partition w ⟨#[94]⟩).2.2).map λp=>(j,p)
def zH(ae:Nat):List Str->List Int->Option (List Int)
 | [],ps=>some ps
 | w::r,ps=>match rdQ ae w with
  | none=>none
  | some q=>zH ae r (uX ps q)
def rdT(ae:Nat)(z:Str):Option Trm:=match zH ae ((Txt.split z ⟨#[32]⟩).drop 1) (List.replicate ae 0)with
 | none=>none
 | some ns=>(rdN ((Txt.split z ⟨#[32]⟩).headD Str.empty)).map λq=>⟨ns,q.1,q.2⟩
def wD(ae:Nat):List Str->Option (List Trm)
 | []=>some []
 | z::r=>match rdT ae z with
  | none=>none
  | some x=>(wD ae r).map (x::·)
def vV(z:Str)(least:Int):Option Int:=if yY z.cps.toList then(if (!decide (z=⟨#[48]⟩)&&(z.cps.toList.head? ==some 48))||decide ((valD z.cps.toList:Int)<least)then none else some (valD z.cps.toList))else none
def vY(z:Str):Str:=if neg z then Txt.slice z (some 1) none else z
def IY(two:List Str):Option Int:=if two.length=2 then vV (two.getD 1 Str.empty) 2 else some 1
def lFr(z:Str):Option (Int×Int):=match vV ((Txt.split (vY z) ⟨#[47]⟩).headD Str.empty) 1,IY (Txt.split (vY z) ⟨#[47]⟩)with
 | some t,some b=>if (Txt.split (vY z) ⟨#[47]⟩).length<=2/\Int.gcd t b=1 then some (if neg z then -t else t,b)else none
 | _,_=>none
def lAt(ae:Nat)(w:Str):Int:=match w.cps.toList with
 | []=>0
 | c::_=>if 97<=c/\c<97+ae then(c:Int)-97 else -1
def CG(w:Str):Option Int:=if w.length<=1 then some 1 else if (w.cps.toList)[1]? = some 94/\w.length<5 then vV (Txt.slice w (some 2) none) 2 else none
def lPs(ae:Nat):List Str->Int->List Int->Option (List Int)
 | [],_,ps=>some ps
 | w::r,last,ps=>if w=Str.empty∨lAt ae w<=last then none else match CG w with
  | none=>none
  | some p=>lPs ae r (lAt ae w) (ps.set (lAt ae w).toNat p)
def lPw(ae:Nat)(ws:List Str):Option (List Int):=match lPs ae ws (-1) (List.replicate ae 0)with
 | none=>none
 | some ns=>if 16<ns.sum then none else some ns
def lT(ae:Nat)(z:Str):Option Trm:=match lFr ((Txt.split z ⟨#[32]⟩).headD Str.empty),lPw ae ((Txt.split z ⟨#[32]⟩).drop 1)with
 | some q,some ns=>some ⟨ns,q.1,q.2⟩
 | _,_=>none
def lTs(ae:Nat):List Str->Option (List Int)->Option (List Trm)
 | [],_=>some []
 | z::r,last=>match lT ae z with
  | none=>none
  | some x=>if (last.any λl=>!LwT.lexLt x.ns l)then none else(lTs ae r (some x.ns)).map (x::·)
theorem vJ{x y:Str}(h:x.cps.toList=y.cps.toList):x=y:=by
 cases x;cases y;simp only[Str.mk.injEq];exact Array.toList_inj.mp h
theorem VE{c:Nat}(h:isD c=true):dg (c-48)=[c]:=by
 obtain⟨h1,h2⟩:=isD_of.mp h;have:c=48∨c=49∨c=50∨c=51∨c=52∨c=53∨c=54∨c=55∨c=56∨c=57:=by lia
 rcases this with rfl | rfl | rfl | rfl | rfl | rfl | rfl | rfl | rfl | rfl<;>decide +kernel
theorem HF(D:List Nat)(c:Nat):valD (D++[c])=valD D*10+(c-48):=by simp [valD]
theorem OJ{m d:Nat}(hm:0<m)(hd:d<10):dg (m*10+d)=dg m++dg d:=by
 unfold dg;rw[<-List.map_append,Nat.toDigits_append_toDigits (by decide) hm hd,Nat.mul_comm]
theorem OL:∀(n:Nat) (D:List Nat),D.length=n->D.all isD=true->D≠[]->(D=[48]∨D.head?≠some 48)->dg (valD D)=D/\(D≠[48]->0<valD D)
 | 0,D,hl,_,hn,_=>absurd (List.length_eq_zero_iff.mp hl) hn
 | n+1,D,hl,ha,hn,hz=>by
  obtain⟨E,c,rfl⟩:∃E c,D=E++[c]:=⟨D.dropLast,D.getLast hn,(List.dropLast_concat_getLast hn).symm⟩;rw[List.all_append,mO]at ha;have hc:isD c=true:=by simpa using ha.2
  have cb:=isD_of.mp hc;rw[HF];cases E with
  | nil=>
   rw[show valD []=0 from rfl,Nat.zero_mul,Nat.zero_add];refine⟨VE hc,λz=>?_⟩;have:c≠48:=λy=>z (by rw[y];rfl)
   lia
  | cons a E=>
   have ne48:(a::E)++[c]≠[48]:=λz=>by have:=congrArg List.length z;simp at this
   have h0:a≠48:=by
    rcases hz with hz | hz
    ·exact absurd hz ne48
    ·exact λy=>hz (by rw[y];rfl)
   obtain⟨e1,e2⟩:=OL n (a::E) (by simpa using hl) ha.1 (by simp) (.inr λz=>h0 (by simpa using z));have pos:=e2 λz=>h0 (by injection z);exact⟨by rw[OJ pos (by lia),e1,VE hc],λ_=>by lia⟩
theorem yJ{z:Str}{least v:Int}(h:vV z least=some v):z.cps.toList=dg v.toNat/\least<=v/\0<=v/\v.toNat=valD z.cps.toList:=by
 unfold vV at h;split at h
 ·rename_i hn;split at h
  ·cases h
  ·rename_i hc;have hc:((!decide (z=⟨#[48]⟩)&&(z.cps.toList.head? ==some 48))||decide ((valD z.cps.toList:Int)<least))=false:=by simpa using hc
   rw[Bool.or_eq_false_iff,Bool.and_eq_false_iff]at hc;injection h with h
   subst h;have hn:(!z.cps.toList.isEmpty&&z.cps.toList.all isD)=true:=hn;rw[mO]at hn;refine⟨?_,by have:=of_decide_eq_false hc.2;lia,by lia,rfl⟩;rw[mJ,(OL _ _ rfl hn.2 (by simpa using hn.1) ?_).1];rcases hc.1 with h1 | h1
   ·left
    have:z=⟨#[48]⟩:=by simpa using h1
    rw[this]
   ·exact .inr (by simpa using h1)
 ·cases h
theorem LM(n:Nat):yY (dg n)=true:=by
 unfold yY;rw[mO];exact⟨by have:=JM n;simpa using this,List.all_eq_true.mpr λc hc=>isD_of.mpr (wO n c hc)⟩
theorem YL{n:Nat}(h:0<n):(dg n).head?≠some 48:=λz=>by
 cases e:dg n with
 | nil=>exact JM _ e
 | cons a r=>
  rw[e]at z;have ha:a=48:=by simpa using z
  subst ha;have hv:=GO n;have key:∀(k:Nat) (m:Nat),m<k->0<m->∀r,dg m≠48::r:=by
   intro k;induction k with
   | zero=>intro m h;lia
   | succ k ih=>
    intro m hm h0 r er;by_cases hs:m<10
    ·unfold dg at er;rw[Nat.toDigits_of_lt_base hs]at er;have:m=1∨m=2∨m=3∨m=4∨m=5∨m=6∨m=7∨m=8∨m=9:=by lia
     rcases this with rfl | rfl | rfl | rfl | rfl | rfl | rfl | rfl | rfl<;>exact absurd er (by simp [Nat.digitChar])
    ·have e2:m=m/10*10+m%10:=by lia
     rw[e2,OJ (by lia) (Nat.mod_lt _ (by decide))]at er;cases q:dg (m/10)with
     | nil=>exact JM _ q
     | cons b s=>
      rw[q]at er;injection er with er _
      subst er;exact ih (m/10) (by lia) (by lia) s q
  exact key (n+1) n (Nat.lt_succ_self _) h r e
theorem LJ{z:Str}{least:Int}{n:Nat}(e:z.cps.toList=dg n)(h:0<n)(hl:least<=n):vV z least=some (n:Int):=by
 unfold vV;rw[e,nV (LM n),GO,nU];have h1:((dg n).head? ==some 48)=false:=by simpa using YL h
 rw[h1,Bool.and_false,Bool.false_or];simp
 lia
theorem wQ{x:Str}{k:Nat}(h:k<=x.length):(Txt.slice x (some (k:Int)) none).cps.toList=x.cps.toList.drop k:=by
 have e:Txt.slice x (some (k:Int)) none=StrLaws.sliceText x (some (k:Int)) (some (x.length:Int)):=by
  unfold Txt.slice StrLaws.sliceText;rw[StrLaws.sliceIdx_none_hi]
 rw[e,StrLaws.sliceText_nat x h gC];exact gQ (by rw[List.length_drop,jG];exact nN _)
theorem neg_iff{z:Str} :neg z=true↔∃r,z.cps.toList=45::r:=by
 unfold neg;cases e:z.cps.toList with
 | nil=>simp
 | cons a r=>simp
theorem XR{z:Str}(h:neg z=true):1<=z.length:=by
 obtain⟨r,e⟩:=neg_iff.mp h;rw[<-jG,e,mN]
 lia
theorem zT(z:Str):(vY z).cps.toList=bod z:=by
 unfold vY bod;split
 ·rename_i h;exact wQ (k:=1) (XR h)
 ·rfl
theorem qS(z y:Str):∃p ps,Txt.split z y=p::ps:=by
 have:=PyProof.Rows.split_pos z y;cases e:Txt.split z y with
 | nil=>rw[e]at this;simp at this
 | cons p ps=>exact⟨p,ps,rfl⟩
theorem CH(y:Str):∀(l:List Str) (p:Str),p∈l->p.cps.toList <:+:(Str.join y l).cps.toList
 | [x],p,h=>by
  obtain rfl:=mB.mp h;exact List.infix_refl _
 | x::x2::r,p,h=>by
  rw[vG,jQ,jQ];rcases mY.mp h with rfl | h
  ·exact⟨[],y.cps.toList++(Str.join y (x2::r)).cps.toList,by simp⟩
  ·exact(CH y (x2::r) p h).trans ⟨x.cps.toList++y.cps.toList,[],by simp⟩
theorem kS{z y p:Str}(h:p∈Txt.split z y):p.cps.toList <:+:z.cps.toList:=by
 have:=CH y _ p h
 rwa [StrLaws.join_split]at this
theorem xT(z y:Str):(Txt.partition z y).1.cps.toList <:+:z.cps.toList/\(Txt.partition z y).2.2.cps.toList <:+:z.cps.toList:=by
 have e:=StrLaws.partition_sum z y;have e:=congrArg (λs:Str=>s.cps.toList) e;simp only[jQ]at e;exact⟨⟨[],(Txt.partition z y).2.1.cps.toList++(Txt.partition z y).2.2.cps.toList,by rw[<-e];simp⟩,⟨(Txt.partition z y).1.cps.toList++(Txt.partition z y).2.1.cps.toList,[],by rw[<-e];simp⟩⟩
theorem yL(z:Str):bod z <:+:z.cps.toList:=by
 unfold bod;split
 ·exact(List.drop_suffix 1 _).isInfix
 ·exact List.infix_refl _
theorem RJ:∀(n:Nat) (D:List Nat),D.length=n->D.all isD=true->valD D<10^n
 | 0,D,hl,_=>by rw[List.length_eq_zero_iff.mp hl];decide
 | n+1,D,hl,ha=>by
  have hn:D≠[]:=λz=>by rw[z]at hl;cases hl
  obtain⟨E,c,rfl⟩:∃E c,D=E++[c]:=⟨D.dropLast,D.getLast hn,(List.dropLast_concat_getLast hn).symm⟩;rw[List.all_append,mO]at ha;have hc:isD c=true:=by simpa using ha.2
  have:=isD_of.mp hc;have ih:=RJ n E (by simpa using hl) ha.1;rw[HF,Nat.pow_succ]
  lia
theorem big(n:Nat)(h:n<10^570):n<2^1900:=Nat.lt_trans h (by decide +kernel)
theorem IK{z:Str}(T:Tx z){D:List Nat}(h:D <:+:z.cps.toList)(hn:yY D=true):valD D<2^1900:=by
 have ha:D.all isD=true:=by
  unfold yY at hn;rw[mO]at hn;exact hn.2
 have l:=T.run D h ha;exact big _ (hX (RJ _ D rfl ha) (gZ (by decide) l))
theorem BM{z:Str}{i:Int}(T:Tx z)(h:rdW z=some i):i.natAbs<2^1900/\Nml z.cps.toList i:=by
 unfold rdW at h;split at h
 ·rename_i hn;have sz:=IK T (yL z) hn;have hn':=hn;unfold yY at hn;rw[mO]at hn;injection h with h
  refine⟨by rw[<-h];split<;>lia,bod z,λc hc=>isD_of.mp (List.all_eq_true.mp hn.2 c hc),by simpa using hn.1,nG (T.run _ (yL z) hn.2) (by decide), ?_⟩;by_cases g:neg z=true
  ·rw[nV g]at h;obtain⟨r,e⟩:=neg_iff.mp g;refine .inr ⟨?_,h.symm⟩;unfold bod;rw[nV g,e]
   rfl
  ·rw[nU g]at h;refine .inl ⟨?_,h.symm⟩;unfold bod;rw[nU g]
 ·cases h
theorem IA{z:Str}{t b:Int}(T:Tx z)(h:rdN z=some (t,b)):t.natAbs<2^1900/\b.natAbs<2^1900:=by
 unfold rdN at h;split at h
 ·cases h
 ·rename_i t' e1;have s1:=(BM (T.sub (xT z ⟨#[47]⟩).1) e1).1;split at h
  ·injection h with h
   injection h with h1 h2
   subst h1 h2;exact⟨s1,by decide +kernel⟩
  ·cases e2:rdW (Txt.partition z ⟨#[47]⟩).2.2 with
   | none=>rw[e2]at h;cases h
   | some b'=>
    rw[e2]at h;injection h with h
    injection h with h1 h2
    subst h1 h2;exact⟨s1,(BM (T.sub (xT z ⟨#[47]⟩).2) e2).1⟩
theorem JJ{z:Str}{l v:Int}(T:Tx z)(h:vV z l=some v):v.natAbs<2^1900:=by
 obtain⟨_,_,h0,e⟩:=yJ h;unfold vV at h;split at h
 ·rename_i hn;have:=IK T (List.infix_refl _) hn
  lia
 ·cases h
theorem UM{z:Str}{v:Int}(h:z.cps.toList=dg v.toNat)(h0:0<=v):z=itx v:=by
 refine vJ ?_;rw[h,show v=(v.toNat:Int) by lia,FY]
 rfl
theorem xU{v:Int}(h:0<=v):(itx v).cps.toList=dg v.toNat:=by
 conv=>lhs;rw[show v=(v.toNat:Int) by lia]
 exact FY _
theorem FZ(t:Int)(h:t<0):(itx t).cps.toList=45::(itx (-t)).cps.toList:=by
 rw[xU (v:=-t) (by lia)];rcases wB t with⟨h1,_⟩ | ⟨_,h2⟩
 ·lia
 ·rw[h2,show t.natAbs=(-t).toNat by lia]
theorem FQ(t b:Int)(h:t<0):(ntx t b).cps.toList=45::(ntx (-t) b).cps.toList:=by
 unfold ntx;split
 ·exact FZ t h
 ·rw[jQ,jQ,jQ,jQ,FZ t h]
  rfl
theorem itx_no{v:Int}(h:0<=v):(itx v).cps.toList.head?≠some 45:=λz=>by
 rw[xU h]at z;have:(45:Nat)∈dg v.toNat:=by
  cases e:dg v.toNat with
  | nil=>rw[e]at z;cases z
  | cons a r=>rw[e]at z;(have:a=45:=by simpa using z);rw[this];simp
 have:=wO _ _ this
 lia
theorem ntx_no{t:Int}(b:Int)(h:0<=t):(ntx t b).cps.toList.head?≠some 45:=λz=>by
 refine itx_no h ?_;unfold ntx at z;split at z
 ·exact z
 ·rw[jQ,jQ,List.append_assoc]at z;cases e:(itx t).cps.toList with
  | nil=>rw[xU h]at e;exact absurd e (JM _)
  | cons a r=>rw[e]at z;exact z
theorem AT(t b:Int):neg (ntx t b)=decide (t<0):=by
 by_cases h:t<0
 ·rw[mT h];exact neg_iff.mpr ⟨_,FQ t b h⟩
 ·rw[mR h];have:=ntx_no b (t:=t) (by lia);unfold neg;simpa using this
theorem OV(t b:Int):vY (ntx t b)=ntx (if t<0 then -t else t) b:=by
 refine vJ ?_;rw[zT,bod,AT];by_cases h:t<0
 ·rw[mT h,nV rfl,nV h,FQ t b h]
  rfl
 ·rw[mR h,nU hW,nU h]
theorem XM(i:Int):47∉(itx i).cps.toList:=λh=>by have:=vW h;lia
theorem PJ(t b:Int):Txt.split (ntx t b) ⟨#[47]⟩=if b=1 then [itx t]else [itx t,itx b]:=by
 unfold ntx;by_cases h:b=1
 ·rw[nV h,nV h];exact yP (y:=⟨#[47]⟩) (p:=itx t) (ps:=[]) (k:=0) (c:=47) ⟨rfl,λj hj=>by lia,by decide +kernel⟩ λq hq=>by
   obtain rfl:=mB.mp hq;exact XM t
 ·rw[nU h,nU h];refine yP (y:=⟨#[47]⟩) (p:=itx t) (ps:=[itx b]) (k:=0) (c:=47) ⟨rfl,λj hj=>by lia,by decide +kernel⟩ λq hq=>?_;simp only[mY,mL,or_false]at hq;rcases hq with rfl | rfl<;>exact XM _
theorem fr_ok{t b:Int}(h0:t≠0)(hb:0<b)(hg:Int.gcd t b=1):lFr (ntx t b)=some (t,b):=by
 unfold lFr;rw[OV,PJ,AT];have h1:vV (itx (if t<0 then -t else t)) 1=some (if t<0 then -t else t):=by
  have:=LJ (z:=itx (if t<0 then -t else t)) (least:=1) (xU (by split<;>lia)) (by split<;>lia) (by split<;>lia);rw[this]
  congr 1
  split<;>lia
 have hs:(if decide (t<0)=true then -(if t<0 then -t else t)else(if t<0 then -t else t))=t:=by
  by_cases h:t<0
  ·rw[mT h,nV rfl,nV h];lia
  ·rw[mR h,nU hW,nU h]
 have gg:Int.gcd (if t<0 then -t else t) b=1:=by
  split
  ·rw[Int.neg_gcd];exact hg
  ·exact hg
 by_cases h:b=1
 ·subst h;rw[nV rfl];show(match vV (itx (if t<0 then -t else t)) 1,some (1:Int)with
   | some t',some b'=>if 1<=2/\Int.gcd t' b'=1 then some (if decide (t<0)=true then -t' else t',b')else none
   | _,_=>none)=_
  rw[h1];dsimp only;rw[nV ⟨by decide,gg⟩,hs]
 ·rw[nU h];have h2:vV (itx b) 2=some b:=by
   have:=LJ (z:=itx b) (least:=2) (xU (by lia)) (by lia) (by lia);rw[this]
   congr 1
   lia
  show(match vV (itx (if t<0 then -t else t)) 1,vV (itx b) 2 with
   | some t',some b'=>if 2<=2/\Int.gcd t' b'=1 then some (if decide (t<0)=true then -t' else t',b')else none
   | _,_=>none)=_
  rw[h1,h2];dsimp only;rw[nV ⟨by decide,gg⟩,hs]
theorem YF{z:Str}{t b:Int}(h:lFr z=some (t,b)):z=ntx t b/\t≠0/\0<b/\Int.gcd t b=1:=by
 unfold lFr at h;obtain⟨a,ps,es⟩:=qS (vY z) ⟨#[47]⟩;have ej:Str.join ⟨#[47]⟩ (a::ps)=vY z:=by rw[<-es];exact StrLaws.join_split _ _
 rw[es]at h;split at h
 ·rename_i T B e1 e2;split at h
  ·rename_i hc;injection h with h
   injection h with ht hb
   have e1:vV a 1=some T:=e1;obtain⟨f1,f2,f3,_⟩:=yJ e1;have ea:=UM f1 f3;have hu:vY z=ntx T B/\0<B:=by
    match ps,ej,e2,hc with
    | [],ej,e2,_=>
     have e2:some 1=some B:=e2;injection e2 with e2
     subst e2;exact⟨by rw[<-ej,ea];rfl,by decide⟩
    | [c],ej,e2,_=>
     have e2:vV c 2=some B:=e2;obtain⟨g1,g2,g3,_⟩:=yJ e2;refine⟨?_,by lia⟩;rw[<-ej,ea,UM g1 g3];unfold ntx;rw[nU (by lia)]
     rfl
    | c::d::r,_,_,hc=>exact absurd hc.1 (by simp)
   subst hb;have hz:z=ntx t B:=by
    refine vJ ?_;have eb:=zT z;rw[hu.1]at eb;by_cases g:neg z=true
    ·rw[nV g]at ht;subst ht;rw[FQ _ _ (by lia),Int.neg_neg,eb];obtain⟨r,er⟩:=neg_iff.mp g;unfold bod;rw[nV g,er]
     rfl
    ·rw[nU g]at ht;subst ht;rw[eb];unfold bod;rw[nU g]
   refine⟨hz, ?_,hu.2, ?_⟩
   ·rw[<-ht];split<;>lia
   ·rw[<-ht];split
    ·rw[Int.neg_gcd];exact hc.2
    ·exact hc.2
  ·cases h
 ·cases h
theorem XU{i j:Nat}(h:ltr i=ltr j):i=j:=by
 have:(ltr i).cps.toList=(ltr j).cps.toList:=by rw[h]
 have:[97+i]=[97+j]:=this;injection this with this
 lia
theorem SS{j ae:Nat}(h:j<ae):rdL ae (ltr j)=some j:=by
 unfold rdL;rw[List.find?_range_eq_some];exact⟨mT rfl,mV.mpr h,λi hi=>by simp;exact λz=>absurd (XU z) (by lia)⟩
theorem SR{j ae:Nat}{y:Str}(h:rdL ae y=some j):y=ltr j/\j<ae:=by
 have h1:=List.find?_some h;have h2:=List.mem_of_find?_eq_some h;exact⟨mH h1,mV.mp h2⟩
theorem YQ{v:Int}(h:0<=v):neg (itx v)=false/\bod (itx v)=dg v.toNat:=by
 have n:neg (itx v)=false:=by
  have:=AT v 1;rw[show ntx v 1=itx v from rfl,mR (by lia)]at this;exact this
 refine⟨n, ?_⟩;unfold bod;rw[n,nU hW,xU h]
theorem AR(v:Int):rdW (itx v)=some v:=by
 unfold rdW;by_cases h:v<0
 ·have n:neg (itx v)=true:=by
   have:=AT v 1;rw[show ntx v 1=itx v from rfl,mT h]at this;exact this
  have b:bod (itx v)=dg (-v).toNat:=by
   unfold bod;rw[n,nV rfl,FZ v h,xU (by lia)]
   rfl
  rw[b,nV (LM _),n,nV rfl,GO]
  congr 1
  lia
 ·obtain⟨n,b⟩:=YQ (v:=v) (by lia);rw[b,nV (LM _),n,nU hW,GO]
  congr 1
  lia
theorem MZ(t b:Int):rdN (ntx t b)=some (t,b):=by
 unfold rdN;by_cases h:b=1
 ·rw[show ntx t b=itx t from nV h,NK (XM t)];dsimp only;rw[AR];dsimp only;rw[nV rfl,h]
 ·rw[show ntx t b=itx t++⟨#[47]⟩++itx b from nU h,NL (XM t)];dsimp only;rw[AR];dsimp only;rw[nU (by decide),AR]
  rfl
theorem UB(j:Nat):94∉(ltr j).cps.toList:=λh=>by
 have:94=97+j:=by simpa [ltr]using h
 lia
theorem rdQ_ok{ae:Nat}{q:Nat×Int}(h:q.1<ae):rdQ ae (wtx q)=some q:=by
 unfold rdQ;by_cases e:q.2=1
 ·rw[show wtx q=ltr q.1 from nV e,NK (UB _)];dsimp only;rw[SS h];dsimp only;rw[nV rfl,<-e]
 ·rw[show wtx q=ltr q.1++⟨#[94]⟩++itx q.2 from nU e,NL (UB _)];dsimp only;rw[SS h];dsimp only;rw[nU (by decide),AR]
  rfl
theorem MY{ae:Nat} :∀(qs:List (Nat×Int)) (ps:List Int),(∀q∈qs,q.1<ae)->zH ae (qs.map wtx) ps=some (qs.foldl uX ps)
 | [],_,_=>rfl
 | q::r,ps,h=>by
  show(match rdQ ae (wtx q)with | none=>none | some q'=>zH ae (r.map wtx) (uX ps q'))=_;rw[rdQ_ok (h q (by simp))];exact MY r _ λq' hq=>h q' (gY _ hq)
theorem rdT_ok{ae:Nat}{x:Trm}(hl:x.ns.length=ae)(nn:∀n∈x.ns,0<=n):rdT ae (ttx x)=some x:=by
 unfold rdT;rw[uP];show(match zH ae ((wl 0 x.ns).map wtx) (List.replicate ae 0)with | none=>none | some ns=>(rdN (ntx x.t x.b)).map λq:Int×Int=>(⟨ns,q.1,q.2⟩:Trm))=_;rw[MY _ _ λq hq=>by have:=uL hq;lia,OG ae ae x.ns hl gC nn,MZ];simp
theorem MX{ae:Nat} :∀ts:List Trm,(∀x∈ts,x.ns.length=ae/\∀n∈x.ns,0<=n)->wD ae (ts.map ttx)=some ts
 | [],_=>rfl
 | x::r,h=>by
  show(match rdT ae (ttx x)with | none=>none | some x'=>(wD ae (r.map ttx)).map (x'::·))=_;rw[rdT_ok (h x (by simp)).1 (h x (by simp)).2,MX r λy hy=>h y (gY _ hy)]
  rfl
theorem ZD(j k:Nat):wl j (List.replicate k 0)=[]:=by
 have:=HB k [] j;rw[List.nil_append]at this;exact this
theorem ES{ns:List Int}{L:Nat} :∀(k:Nat),(∀i,L<=i->i<L+k->ns[i]? = some 0)->wl L (ns.drop L)=wl (L+k) (ns.drop (L+k))
 | 0,_=>rfl
 | k+1,h=>by
  rw[ES k λi h1 h2=>h i h1 (by lia)];have e:=h (L+k) (by lia) (by lia);obtain⟨hl,e'⟩:=gI.mp e;rw[List.drop_eq_getElem_cons hl,e'];show []++wl (L+k+1) (ns.drop (L+k+1))=_
  rfl
theorem LX{ns:List Int}{L:Nat}{p:Int}(h:ns[L]? = some p)(hp:1<=p):wl L (ns.drop L)=(L,p)::wl (L+1) (ns.drop (L+1)):=by
 obtain⟨hl,e'⟩:=gI.mp h;rw[List.drop_eq_getElem_cons hl,e'];show(if 1<=p then [(L,p)]else [])++_=_;rw[nV hp]
 rfl
theorem KE{x:Str}(h:2<=x.length):(Txt.slice x (some 2) none).cps.toList=x.cps.toList.drop 2:=wQ (k:=2) h
theorem SZ{w:Str}{c:Nat}{r:List Nat}{p:Int}(e:w.cps.toList=c::r)(h97:97<=c)(h:CG w=some p):w=wtx (c-97,p)/\1<=p:=by
 have hc:ltr (c-97)=⟨#[c]⟩:=by unfold ltr;rw[show 97+(c-97)=c by lia]
 unfold CG at h;split at h
 ·rename_i hl;injection h with h
  subst h;refine⟨vJ ?_,by decide⟩;rw[show wtx (c-97,1)=ltr (c-97)from rfl,hc,e];rw[<-jG,e,mN]at hl;have:r=[]:=List.length_eq_zero_iff.mp (by lia);rw[this]
 ·split at h
  ·rename_i hl hc2;obtain⟨g1,g2,g3,_⟩:=yJ h;have hl2:2<=w.length:=by lia
   rw[KE hl2]at g1;refine⟨vJ ?_,by lia⟩;rw[show wtx (c-97,p)=ltr (c-97)++⟨#[94]⟩++itx p from nU (by show p≠1;lia),jQ,jQ,hc,xU g3,<-g1,e];rw[e]at hc2;have h1:=hc2.1;cases r with
   | nil=>cases h1
   | cons d r=>
    have:d=94:=by simpa using h1
    rw[this]
    rfl
  ·cases h
theorem pow_ok{j:Nat}{p:Int}(h1:1<=p)(h16:p<=16):CG (wtx (j,p))=some p:=by
 unfold CG;by_cases e:p=1
 ·subst e;exact nV (nN 1)
 ·have ew:wtx (j,p)=ltr j++⟨#[94]⟩++itx p:=nU e;have dl:=GQ (n:=p.toNat) (k:=2) (by decide) (by lia);have ec:(wtx (j,p)).cps.toList=(97+j)::94::dg p.toNat:=by rw[ew,jQ,jQ,xU (by lia)];rfl
  have lw:(wtx (j,p)).length=2+(dg p.toNat).length:=by rw[<-jG,ec];simp;lia
  rw[nU (by have:=List.length_pos_iff.mpr (JM p.toNat);lia),nV ⟨by rw[ec];rfl,by lia⟩];have:=LJ (z:=Txt.slice (wtx (j,p)) (some 2) none) (least:=2) (n:=p.toNat) (by rw[KE (by lia),ec];rfl) (by lia) (by lia);rw[this]
  congr 1
  lia
theorem at_ltr{ae j:Nat}{p:Int}(h:j<ae):lAt ae (wtx (j,p))=j:=by
 have e:∃r,(wtx (j,p)).cps.toList=(97+j)::r:=by
  unfold wtx;split
  ·exact⟨[],rfl⟩
  ·rw[jQ,jQ];exact⟨_,rfl⟩
 obtain⟨r,e⟩:=e;unfold lAt;rw[e];dsimp only;rw[nV ⟨by lia,by lia⟩]
 lia
theorem CF{ae:Nat} :∀(ws:List Str) (last:Int) (ps ns:List Int) (L:Nat),last+1=L->L<=ae->ps.length=ae->(∀i,L<=i->i<ae->ps[i]? = some 0)->lPs ae ws last ps=some ns->
  ns.length=ae/\ns.take L=ps.take L/\ws=(wl L (ns.drop L)).map wtx/\∀n∈ns.drop L,0<=n
 | [],last,ps,ns,L,hL,hm,hl,hz,h=>by
  injection h with h
  subst h;have e:ps.drop L=List.replicate (ae-L) 0:=by
   refine List.ext_getElem? λi=>?_;rw[List.getElem?_drop,List.getElem?_replicate];split
   ·exact hz _ (by lia) (by lia)
   ·exact gU (by lia)
  exact⟨hl,rfl,by rw[e,ZD];rfl,λn hn=>by rw[e]at hn;rw[(List.mem_replicate.mp hn).2];exact nP _⟩
 | w::r,last,ps,ns,L,hL,hm,hl,hz,h=>by
  unfold lPs at h;split at h
  ·cases h
  ·rename_i hc;rw[not_or]at hc;obtain⟨c1,c2⟩:=hc;split at h
   ·cases h
   ·rename_i p hp;cases ew:w.cps.toList with
    | nil=>exact absurd (vJ (y:=Str.empty) ew) c1
    | cons c s=>
     have ea:lAt ae w=if 97<=c/\c<97+ae then(c:Int)-97 else -1:=by unfold lAt;rw[ew]
     by_cases hc:97<=c/\c<97+ae
     case neg=>rw[ea,nU hc]at c2;lia
     rw[nV hc]at ea;obtain⟨e1,e2⟩:=SZ ew hc.1 hp;generalize hj:c-97=j at e1;have ea:lAt ae w=(j:Int):=by lia
     rw[ea]at h c2;have hjm:j<ae:=by lia
     obtain⟨g1,g2,g3,g4⟩:=CF (ae:=ae) r j (ps.set j p) ns (j+1) (by lia) (by lia) (by rw[List.length_set];exact hl) (λi h1 h2=>by rw[List.getElem?_set_ne (show j≠i by lia)];exact hz i (by lia) h2) (by rw[mJ]at h;exact h);have gp:∀i,i<j+1->ns[i]? = (ps.set j p)[i]? :=λi hi=>by
      have:=congrArg (λl:List Int=>l[i]?) g2;simpa [List.getElem?_take,hi]using this
     have pj:ns[j]? = some p:=by rw[gp j (by lia),List.getElem?_set_self (show j<ps.length by lia)]
     have z0:∀i,L<=i->i<L+(j-L)->ns[i]? = some 0:=λi h1 h2=>by rw[gp i (by lia),List.getElem?_set_ne (show j≠i by lia)];exact hz i h1 (by lia)
     have ed:∀n∈ns.drop L,0<=n:=λn hn=>by
      obtain⟨i,hi⟩:=gW.mp hn;rw[List.getElem?_drop]at hi;by_cases i1:L+i<j
      ·rw[z0 (L+i) (by lia) (by lia)]at hi;injection hi with hi
       lia
      ·by_cases i2:L+i=j
       ·rw[i2,pj]at hi;injection hi with hi
        lia
       ·exact g4 n (gW.mpr ⟨L+i-(j+1),by rw[List.getElem?_drop,show j+1+(L+i-(j+1))=L+i by lia];exact hi⟩)
     refine⟨g1, ?_, ?_,ed⟩
     ·refine List.ext_getElem? λi=>?_;rw[List.getElem?_take,List.getElem?_take];split
      ·rw[gp i (by lia),List.getElem?_set_ne (show j≠i by lia)]
      ·rfl
     ·have e3:=ES (j-L) z0;rw[show L+(j-L)=j by lia]at e3;rw[e3,LX pj e2,mX,e1,g3]
theorem KZ{ae:Nat} :∀(k L:Nat) (ns ps:List Int),ae-L=k->L<=ae->ns.length=ae->ps.length=ae->ps.take L=ns.take L->(∀i,L<=i->i<ae->ps[i]? = some 0)->(∀n∈ns,0<=n/\n<=16)->∀last:Int,-1<=last->last<L->lPs ae ((wl L (ns.drop L)).map wtx) last ps=some ns
 | 0,L,ns,ps,hk,hm,hn,hp,ht,hz,nn,last,l0,h=>by
  rw[List.drop_eq_nil_of_le (by lia)];show some ps=some ns;rw[gQ (by lia),gQ (by lia)]at ht;rw[ht]
 | k+1,L,ns,ps,hk,hm,hn,hp,ht,hz,nn,last,l0,h=>by
  have hL:L<ns.length:=by lia
  obtain⟨p0,p16⟩:=nn ns[L] (List.getElem_mem hL);have gL:ns[L]? = some ns[L]:=gK hL;have gt:∀i,i<L->ps[i]? = ns[i]? :=λi hi=>by
   have:=congrArg (λl:List Int=>l[i]?) ht;simpa [List.getElem?_take,hi]using this
  by_cases h1:1<=ns[L]
  ·rw[LX gL h1,mX];unfold lPs;rw[at_ltr (by lia),nU,pow_ok h1 p16]
   ·refine KZ k (L+1) ns _ (by lia) (by lia) hn (by rw[List.length_set];exact hp) ?_ (λi a b=>?_) nn (L:Int) (by lia) (by lia)
    ·refine List.ext_getElem? λi=>?_;rw[List.getElem?_take,List.getElem?_take];split
     ·rw[mJ];by_cases e:i=L
      ·rw[e,List.getElem?_set_self (show L<ps.length by lia),gL]
      ·rw[List.getElem?_set_ne (show L≠i by lia),gt i (by lia)]
     ·rfl
    ·rw[mJ,List.getElem?_set_ne (show L≠i by lia)];exact hz i (by lia) b
   ·rw[not_or];refine⟨λz=>?_,by lia⟩;have:(wtx (L,ns[L])).cps.toList=[]:=by rw[z];rfl
    unfold wtx at this;split at this
    ·cases this
    ·rw[jQ,jQ]at this;cases this
  ·have e0:ns[L]=0:=by lia
   rw[ES 1 λi a b=>by rw[show i=L by lia,gL,e0]];refine KZ k (L+1) ns ps (by lia) (by lia) hn hp ?_ (λi a b=>hz i (by lia) b) nn last l0 (by lia);refine List.ext_getElem? λi=>?_;rw[List.getElem?_take,List.getElem?_take];split
   ·by_cases e:i=L
    ·rw[e,hz L gC (by lia),gL,e0]
    ·exact gt i (by lia)
   ·rfl
end LwS
namespace Lw
open PySem PySem.Spec PyProof.Rows L2 LwS
theorem ltOf:∀{a b:List Int},LwD.kC a b=true->LwT.lexLt a b=true
 | [],[],h=>by simp [LwD.kC]at h
 | [],_::_,_=>by rfl
 | _::_,[],h=>by simp [LwD.kC]at h
 | x::xs,y::ys,h=>by
  unfold LwD.kC at h;show(if x=y then LwT.lexLt xs ys else decide (x<y))=true;split
  ·rename_i e;rw[nV e]at h;exact ltOf h
  ·rename_i e;rw[nU e]at h;exact h
theorem xM:∀ns:List Int,vQ (ns.map PyData.int)=ns
 | []=>rfl
 | n::r=>by show n::vQ (r.map PyData.int)=_;rw[xM r]
theorem RX{ae:Nat}{x:Trm}(h:TmOk ae x):qX (vP x) ae=true:=by
 show((decide (((x.ns.map PyData.int).length:Int)=ae)&&((x.ns.map PyData.int).all λd=>whF d 0)&&decide ((vQ (x.ns.map PyData.int)).sum<=16))&&((decide (1<=x.b)&&decide (Int.gcd x.t x.b=1))&&!decide ([x.t,x.b]=[0,1])))=true;have e1:decide (((x.ns.map PyData.int).length:Int)=ae)=true:=mT (by rw[mQ,h.len]);have e2:((x.ns.map PyData.int).all λd=>whF d 0)=true:=List.all_eq_true.mpr λd hd=>by
  obtain⟨n,hn,rfl⟩:=nI.mp hd;exact mT (h.nn n hn)
 have e3:decide ((vQ (x.ns.map PyData.int)).sum<=16)=true:=by rw[xM];exact mT h.deg
 have e4:decide (1<=x.b)=true:=mT h.pos;have e5:decide (Int.gcd x.t x.b=1)=true:=mT h.low;have e6:decide ([x.t,x.b]=[0,1])=false:=mR λz=>by injection z with z _;exact h.nz z
 rw[e1,e2,e3,e4,e5,e6]
 rfl
theorem SQ{ts:List Trm}(h:ts.Pairwise λx y=>LwD.kC x.ns y.ns=true):wV (ts.map vP)=true:=by
 unfold wV;refine List.all_eq_true.mpr λq hq=>?_;obtain⟨j,hj⟩:=gW.mp hq;obtain⟨h1,h2⟩:=List.getElem?_zip_eq_some.mp hj;rw[List.getElem?_drop,mE]at h2;rw[mE]at h1;cases e1:ts[j]? with
 | none=>rw[e1]at h1;cases h1
 | some a=>
  cases e2:ts[1+j]? with
  | none=>rw[e2]at h2;cases h2
  | some b=>
   rw[e1]at h1;rw[e2]at h2;have a1:vP a=q.1:=Option.some.inj h1;have a2:vP b=q.2:=Option.some.inj h2;rw[<-a1,<-a2];show LwT.lexLt (vQ (a.ns.map PyData.int)) (vQ (b.ns.map PyData.int))=true;rw[xM,xM];obtain⟨i1,g1⟩:=gI.mp e1;obtain⟨i2,g2⟩:=gI.mp e2;have:=List.pairwise_iff_getElem.mp h j (1+j) i1 i2 (by lia);rw[g1,g2]at this;exact ltOf this
theorem WB{ae:Nat}{ts:List Trm}(h:Good ae ts):AD (wF ae ts)=true:=by
 show((decide (1<=(ae:Int))&&decide ((ae:Int)<=4))&&(decide ((ts.map vP).length<=500)&&(((ts.map vP).all λt=>qX t ae)&&wV (ts.map vP))))=true;have e1:decide (1<=(ae:Int))=true:=mT (by have:=h.m1;lia);have e2:decide ((ae:Int)<=4)=true:=mT (by have:=h.m4;lia);have e3:decide ((ts.map vP).length<=500)=true:=mT (by rw[mQ];have:=h.few;lia);have e4:((ts.map vP).all λt=>qX t ae)=true:=List.all_eq_true.mpr λd hd=>by
  obtain⟨x,hx,rfl⟩:=nI.mp hd;exact RX (h.each x hx)
 rw[e1,e2,e3,e4,SQ h.up]
 rfl
theorem AV:∀{a b:List Int},a.length=b.length->LwT.lexLt a b=true->LwD.kC a b=true
 | [],[],_,h=>absurd h (by decide)
 | [],_::_,l,_=>absurd l (by simp)
 | _::_,[],l,_=>absurd l (by simp)
 | x::xs,y::ys,l,h=>by
  have h:(if x=y then LwT.lexLt xs ys else decide (x<y))=true:=h;unfold LwD.kC;split
  ·rename_i e;rw[nV e]at h;exact AV (by simpa using l) h
  ·rename_i e;rw[nU e]at h;exact h
structure TmB(ae:Nat)(x:Trm):Prop where
 len:x.ns.length=ae
 nn:∀n∈x.ns,0<=n
 deg:x.ns.sum<=16
 pos:0<x.b
 low:Int.gcd x.t x.b=1
 nz:x.t≠0
theorem TmB.ok{ae:Nat}{x:Trm}(h:TmB ae x)(s:x.t.natAbs<2^1900/\x.b.natAbs<2^1900):TmOk ae x:=⟨h.len,h.nn,h.deg,h.pos,h.low,h.nz,s.1,s.2⟩
theorem RT{x:Trm}(T:Tx (ttx x)):x.t.natAbs<2^1900/\x.b.natAbs<2^1900:=
 IA (T.sub (kS (y:=⟨#[32]⟩) (p:=ntx x.t x.b) (by rw[uP];exact mC ..))) (MZ x.t x.b)
theorem XW{ae:Nat}{z:Str}{x:Trm}(h:lT ae z=some x):z=ttx x/\TmB ae x:=by
 unfold lT at h;obtain⟨y,ws,es⟩:=qS z ⟨#[32]⟩;have ej:Str.join ⟨#[32]⟩ (y::ws)=z:=by rw[<-es];exact StrLaws.join_split _ _
 rw[es]at h;split at h
 ·rename_i q ns e1 e2;injection h with h
  subst h;have e1:lFr y=some (q.1,q.2):=e1;obtain⟨f1,f2,f3,f4⟩:=YF e1;have e2:lPw ae ws=some ns:=e2;unfold lPw at e2;split at e2
  ·cases e2
  ·rename_i ns' e3;split at e2
   ·cases e2
   ·rename_i hs;injection e2 with e2
    subst e2;obtain⟨g1,g2,g3,g4⟩:=CF ws (-1) _ ns' 0 rfl (nO _) (gT ..) (λi _ hi=>by rw[List.getElem?_replicate,nV hi]) e3;rw[List.drop_zero]at g3 g4;refine⟨?_,g1,g4,by show ns'.sum<=16;lia,f3,f4,f2⟩;rw[<-ej,f1,g3]
    rfl
 ·cases h
theorem lT_ok{ae:Nat}{x:Trm}(h:TmOk ae x):lT ae (ttx x)=some x:=by
 unfold lT;rw[uP];show(match lFr (ntx x.t x.b),lPw ae ((wl 0 x.ns).map wtx)with | some q,some ns=>some (⟨ns,q.1,q.2⟩:Trm) | _,_=>none)=_;have e:lPw ae ((wl 0 x.ns).map wtx)=some x.ns:=by
  unfold lPw;have:=KZ (ae:=ae) ae 0 x.ns (List.replicate ae 0) rfl (nO _) h.len (gT ..) rfl (λi _ hi=>by rw[List.getElem?_replicate,nV hi]) (λn hn=>h.le hn) (-1) (nP _) (by decide);rw[List.drop_zero]at this;rw[this];exact nU (by have:=h.deg;lia)
 rw[fr_ok h.nz h.pos h.low,e]
theorem UH{ae:Nat} :∀(ps:List Str) (last:Option (List Int)) (ts:List Trm),(∀l,last=some l->l.length=ae)->lTs ae ps last=some ts->
  ps=ts.map ttx/\(∀x∈ts,TmB ae x)/\(ts.Pairwise λx y=>LwD.kC y.ns x.ns=true)/\∀l,last=some l->∀x∈ts,LwD.kC x.ns l=true:=by
 intro ps;induction ps with
 | nil=>
  intro last ts _ h;injection h with h
  subst h;refine⟨rfl,λx hx=>?_,List.Pairwise.nil,λl _ x hx=>?_⟩<;>cases hx
 | cons z r ih=>
  intro last ts hl h;have h:(match lT ae z with
   | none=>none
   | some x=>if (last.any λl=>!LwT.lexLt x.ns l)=true then none else(lTs ae r (some x.ns)).map (x::·))=some ts:=h
  split at h
  ·cases h
  ·rename_i x e1;obtain⟨ez,tb⟩:=XW e1;split at h
   ·cases h
   ·rename_i hc;cases e2:lTs ae r (some x.ns)with
    | none=>rw[e2]at h;cases h
    | some us=>
     rw[e2]at h;have h:some (x::us)=some ts:=h;injection h with h
     subst h;obtain⟨g1,g2,g3,g4⟩:=ih (some x.ns) us (λl e=>by injection e with e;rw[<-e];exact tb.len) e2;have dn:=g4 x.ns rfl;refine⟨by rw[mX,<-ez,<-g1],λy hy=>(mY.mp hy).elim (λe=>e▸tb) (g2 y),.cons (λy hy=>dn y hy) g3,λl e y hy=>?_⟩;subst e;have hx:LwD.kC x.ns l=true:=AV (by rw[tb.len,hl l rfl]) (by simpa using hc);rcases mY.mp hy with rfl | hy
     ·exact hx
     ·exact LwD.wA _ _ _ (dn y hy) hx
theorem lTs_ok{ae:Nat} :∀(ts:List Trm) (last:Option (List Int)),(∀x∈ts,TmOk ae x)->(ts.Pairwise λx y=>LwD.kC y.ns x.ns=true)->(∀l,last=some l->∀x∈ts,LwD.kC x.ns l=true)->lTs ae (ts.map ttx) last=some ts:=by
 intro ts;induction ts with
 | nil=>intro _ _ _ _;rfl
 | cons x r ih=>
  intro last h hp hl;obtain⟨hx,hr⟩:=List.pairwise_cons.mp hp;rw[mX];show(match lT ae (ttx x)with
   | none=>none
   | some x=>if (last.any λl=>!LwT.lexLt x.ns l)=true then none else(lTs ae (r.map ttx) (some x.ns)).map (x::·))=_
  rw[lT_ok (h x (by simp))];have hc:(last.any λl=>!LwT.lexLt x.ns l)=false:=by
   cases last with
   | none=>rfl
   | some l=>
    have:=ltOf (hl l rfl x (by simp));simp [this]
  dsimp only;rw[hc,nU hW,ih (some x.ns) (λy hy=>h y (gY _ hy)) hr λl e y hy=>by injection e with e;rw[<-e];exact hx y hy]
  rfl
theorem MW:∀(ts:List Trm) (x:Trm),x.ns.length=ae->(∀y∈ts,y.ns.length=ae)->wV ((x::ts).map vP)=true->(∀y∈ts,LwD.kC x.ns y.ns=true)/\ts.Pairwise λx y=>LwD.kC x.ns y.ns=true
 | [],_,_,_,_=>⟨λ_ h=>(by cases h),List.Pairwise.nil⟩
 | y::r,x,lx,ly,h=>by
  have h:(LwT.lexLt (yW (vP x)) (yW (vP y))&&wV ((y::r).map vP))=true:=h;rw[mO]at h;obtain⟨h1,h2⟩:=h;have pd:∀u:Trm,yW (vP u)=u.ns:=λu=>xM u.ns;rw[pd,pd]at h1;have ly':=ly y (by simp);have e:=AV (by rw[lx,ly']) h1;obtain⟨g1,g2⟩:=MW r y ly' (λu hu=>ly u (gY _ hu)) h2;exact⟨λu hu=>(mY.mp hu).elim (λz=>z▸e) λz=>LwD.wA _ _ _ e (g1 u z),.cons g1 g2⟩
theorem OE{ae:Nat}{ts:List Trm}(h:AD (wF ae ts)=true)(sz:∀x∈ts,x.t.natAbs<2^1900/\x.b.natAbs<2^1900):Good ae ts:=by
 have h:((decide (1<=(ae:Int))&&decide ((ae:Int)<=4))&&(decide ((ts.map vP).length<=500)&&(((ts.map vP).all λt=>qX t ae)&&wV (ts.map vP))))=true:=h;simp only[mO,decide_eq_true_eq]at h;obtain⟨⟨h1,h2⟩,h3,h4,h5⟩:=h;have each:∀x∈ts,TmOk ae x:=λx hx=>by
  have e:qX (vP x) ae=true:=List.all_eq_true.mp h4 _ (List.mem_map_of_mem hx);have e:((decide (((x.ns.map PyData.int).length:Int)=ae)&&((x.ns.map PyData.int).all λd=>whF d 0)&&decide ((vQ (x.ns.map PyData.int)).sum<=16))&&((decide (1<=x.b)&&decide (Int.gcd x.t x.b=1))&&!decide ([x.t,x.b]=[0,1])))=true:=e;rw[xM]at e;simp only[mO,decide_eq_true_eq]at e;obtain⟨⟨⟨e1,e2⟩,e3⟩,⟨e4,e5⟩,e6⟩:=e;refine⟨by rw[mQ]at e1;lia,λn hn=>?_,e3,by lia,e5,λz=>?_,(sz x hx).1,(sz x hx).2⟩
  ·exact mH (List.all_eq_true.mp e2 _ (List.mem_map_of_mem hn))
  ·rw[z]at e5;rw[Int.gcd_zero_left]at e5;have b1:x.b=1:=by lia
   simp [z,b1]at e6
 refine⟨each,by rw[mQ]at h3;exact h3,by lia,by lia, ?_⟩;cases ts with
 | nil=>exact .nil
 | cons x r=>
  obtain⟨g1,g2⟩:=MW r x (each x (by simp)).len (λy hy=>(each y (gY _ hy)).len) h5;exact .cons g1 g2
theorem uS{ae:Nat} :∀(ps:List Str) (ts:List Trm),(∀p∈ps,Tx p)->wD ae ps=some ts->∀x∈ts,x.t.natAbs<2^1900/\x.b.natAbs<2^1900
 | [],ts,_,h,x,hx=>by injection h with h;subst h;cases hx
 | z::r,ts,T,h,x,hx=>by
  unfold wD at h;split at h
  ·cases h
  ·rename_i y e1;cases e2:wD ae r with
   | none=>rw[e2]at h;cases h
   | some us=>
    rw[e2]at h;have h:some (y::us)=some ts:=h;injection h with h
    subst h;rcases mY.mp hx with rfl | hx
    ·unfold rdT at e1;split at e1
     ·cases e1
     ·obtain⟨p,q,es⟩:=qS z ⟨#[32]⟩;have tp:Tx p:=(T z (by simp)).sub (kS (y:=⟨#[32]⟩) (by rw[es];exact mC ..));rw[es]at e1;have e1:=e1;cases e3:rdN p with
      | none=>rw[show(p::q).headD Str.empty=p from rfl,e3]at e1;cases e1
      | some v=>
       rw[show(p::q).headD Str.empty=p from rfl,e3]at e1;injection e1 with e1
       rw[<-e1];exact IA tp (b:=v.2) (t:=v.1) e3
    ·exact uS r us (λp hp=>T p (gY _ hp)) e2 x hx
def rdA(ae:Nat)(z:Str):Option (List Trm):=if 4000<z.length then none else if z=⟨#[48]⟩then some []else match wD ae (Txt.split z ⟨#[32,43,32]⟩).reverse with
 | none=>none
 | some ts=>if AD (wF ae ts)=true/\stx ts=z then some ts else none
def lrA(ae:Nat)(z:Str):Option (List Trm):=if 4000<z.length then none else if z=⟨#[48]⟩then some []else lTs ae (Txt.split z ⟨#[32,43,32]⟩) none
theorem IB{ae:Nat}{z:Str}{ts:List Trm}(m1:1<=ae)(m4:ae<=4)(T:z.length<=4000->Tx z)(h:rdA ae z=some ts):Good ae ts/\z=stx ts:=by
 unfold rdA at h;split at h
 ·cases h
 ·rename_i hl;split at h
  ·rename_i hz;injection h with h
   subst h;exact⟨⟨λ_ h=>(by cases h),nO _,m1,m4,List.Pairwise.nil⟩,hz⟩
  ·split at h
   ·cases h
   ·rename_i us e;split at h
    ·rename_i hc;injection h with h
     subst h;exact⟨OE hc.1 (uS _ _ (λp hp=>(T (by lia)).sub (kS (List.mem_reverse.mp hp))) e),hc.2.symm⟩
    ·cases h
theorem WN{ae:Nat}{z:Str}(m1:1<=ae)(m4:ae<=4)(T:z.length<=4000->Tx z/\(Txt.split z ⟨#[32,43,32]⟩).length<=500):rdA ae z=(lrA ae z).map List.reverse:=by
 by_cases hl:4000<z.length
 ·simp [rdA,lrA,hl]
 by_cases hz:z=⟨#[48]⟩
 ·subst hz
  rfl
 obtain⟨T,n5⟩:=T (by lia);have el:lrA ae z=lTs ae (Txt.split z ⟨#[32,43,32]⟩) none:=by unfold lrA;rw[nU hl,nU hz]
 cases e:lTs ae (Txt.split z ⟨#[32,43,32]⟩) none with
 | some us=>
  rw[el,e];obtain⟨g1,g2,g3,_⟩:=UH _ none us (λ_ h=>(by cases h)) e;have sz:∀x∈us,TmOk ae x:=λx hx=>(g2 x hx).ok (RT (T.sub (kS (y:=⟨#[32,43,32]⟩) (by rw[g1];exact List.mem_map_of_mem hx))));have gd:Good ae us.reverse:=⟨λx hx=>sz x (List.mem_reverse.mp hx),by rw[List.length_reverse];rw[g1,mQ]at n5;exact n5,m1,m4,List.pairwise_reverse.mpr g3⟩;have ej:Str.join ⟨#[32,43,32]⟩ (us.map ttx)=z:=by rw[<-g1];exact StrLaws.join_split _ _
  have es:stx us.reverse=z:=by
   cases er:us.reverse with
   | nil=>
    have:us=[]:=List.reverse_eq_nil_iff.mp er;obtain⟨p,q,eq⟩:=qS z ⟨#[32,43,32]⟩;rw[g1,this]at eq;cases eq
   | cons x r=>
    show Str.join ⟨#[32,43,32]⟩ ((x::r).reverse.map ttx)=z;rw[<-er,List.reverse_reverse];exact ej
  unfold rdA;rw[nU hl,nU hz,g1,<-List.map_reverse,MX us.reverse λx hx=>⟨(gd.each x hx).len,(gd.each x hx).nn⟩];dsimp only;rw[nV ⟨WB gd,es⟩]
  rfl
 | none=>
  rw[el,e];cases ea:rdA ae z with
  | none=>rfl
  | some ts=>
   obtain⟨gd,ez⟩:=IB m1 m4 (λ_=>T) ea;exfalso;cases ts with
   | nil=>exact hz ez
   | cons x r=>
    rw[ez,PH,lTs_ok _ none (λy hy=>gd.each y (List.mem_reverse.mp hy)) (List.pairwise_reverse.mpr gd.up) λ_ h=>(by cases h)]at e;cases e
def UW:List V:=[.str ⟨#[48]⟩,.str ⟨#[49]⟩,.str ⟨#[50]⟩,.str ⟨#[51]⟩,.str ⟨#[52]⟩,.str ⟨#[53]⟩,.str ⟨#[54]⟩,.str ⟨#[55]⟩,.str ⟨#[56]⟩,.str ⟨#[57]⟩]
def Fig(K:nW)(mg:Str->Option Value):Prop:=∃a,mg "FIGURES" = some (.ref a)/\∀H,SqT K H a UW
theorem YB(c:Nat):inV (.str ⟨#[c]⟩) UW=isD c:=by
 by_cases h:isD c=true
 ·rw[h];have h:=isD_of.mp h;have:c=48∨c=49∨c=50∨c=51∨c=52∨c=53∨c=54∨c=55∨c=56∨c=57:=by lia
  rcases this with rfl | rfl | rfl | rfl | rfl | rfl | rfl | rfl | rfl | rfl<;>decide
 ·rw[Bool.eq_false_iff.mpr h];have ne:∀k,k=c->¬(48<=k/\k<=57):=λk e z=>h (isD_of.mpr (e▸z));refine Bool.eq_false_iff.mpr λz=>?_;obtain⟨v,hv,e⟩:=List.any_eq_true.mp z;simp only[UW,mY,mL,or_false]at hv;have key:∀k,eqV (.str ⟨#[k]⟩) (.str ⟨#[c]⟩)=true->k=c:=λk e=>by
   have e:(⟨#[k]⟩:Str)=⟨#[c]⟩:=eq_of_beq (show((⟨#[k]⟩:Str)==⟨#[c]⟩)=true from e);have:[k]=[c]:=congrArg (λs:Str=>s.cps.toList) e;injection this
  rcases hv with rfl | rfl | rfl | rfl | rfl | rfl | rfl | rfl | rfl | rfl
  all_goals exact ne _ (key _ e) ⟨by decide,by decide⟩
structure NoT(P:Program)(w:World)(K:nW)(mg:Str->Option Value)(base:Heap)(C:Addr):Prop where
 ex:∃(fI:Addr) (fdI:FuncData) (bl:List Value),LwE.XCls K C fI bl "ValueError.__new__"/\FnOk P w K mg base CX0 1 fI fdI ["self","text"] (LwE.spInit K)/\L2.Binds K fdI ["self","text"] []
 m:mg "NoText" = some (.ref C)
def orX{α:Type}(o:Option α)(q:α->Prop)(e:Prop):Prop:=match o with
 | none=>e
 | some a=>q a
theorem BT{α:Type}{o:Option α}{q:α->Prop}{e:Prop}(h:o=none)(k:e):orX o q e:=by rw[h];exact k
theorem BS{α:Type}{o:Option α}{q:α->Prop}{e:Prop}{a:α}(h:o=some a)(k:q a):orX o q e:=by rw[h];exact k
def uQ(C:Addr):Sp:=λvs H Q E=>∃z:Str,vs=[.str z]/\Tx z/\∀H',Same H H'->orX (rdW z) (λi=>Q (.int i) H') (E (.ref C) none H')
theorem MM(z:Str):decide (V.str z=V.str (Str.ofString ""))=z.cps.toList.isEmpty:=by
 cases e:z.cps.toList with
 | nil=>exact mT (congrArg V.str (vJ e))
 | cons a r=>exact mR λh=>by injection h with h;rw[h]at e;cases e
theorem KB(z:Str):Txt.startswith z ⟨#[45]⟩=neg z:=by
 unfold Txt.startswith neg;rw[StrLaws.subAt_eq,List.drop_zero,<-jG z];have e:(⟨#[45]⟩:Str).length=1:=rfl;rw[e];cases z.cps.toList with
 | nil=>rfl
 | cons c r=>
  show(decide (0+1<=(c::r).length)&&([c]==[45]))=((c::r).head? ==some 45);simp
theorem HX{K:nW}{C:Addr}{H:Hp}{Q:VK}{E:XK}{z y:Str}{fa:Addr}{te:TE}(T:Tx z)(hy:y.cps.toList=bod z)(ht:∀σ H Q,Q (.str (Str.ofString "a number is not written in figures")) H->te σ H Q)(q:∀H',Same H H'->orX (rdW z) (λi=>Q (.int i) H') (E (.ref C) none H'))(fs:∀H,SqT K H fa UW) :
  yA (HP (tOr (DQ (tOp rEq (kG 1) (tC (V.str (Str.ofString ""))))) (tNot (tB (tCB (rAll K) (xG (KA 1 [] (iStr (kG 1)) (qY 0) (tOp (rIn K false) (kG 0) (tC (V.ref fa)))) tNil))))) (LwE.tRaise C E te) tNext)
   (EX (tCB (λxs H Q=>∃(x:Str) (i:Int),xs=[V.str x]/\LwI.Nml x.cps.toList i/\Q (V.int i) H) (xG (kG 0) tNil))) { nx:=λx H'=>Q V.non H',rt:=Q } [some (.str z),some (.str y)] H:=by
 have no:∀{H'},yY (bod z)=false->Same H H'->LwE.tRaise C E te { nx:=λx H'=>Q V.non H',rt:=Q } [some (.str z),some (.str y)] H':=fun {H'} h s=>by
  have q:=q H' s;have e:rdW z=none:=by unfold rdW;rw[h];rfl
  rw[e]at q;exact ht _ _ _ ⟨_,rfl,q⟩
 refine⟨_,rfl,rfl,_,rfl, ?_⟩;rw[MM,hy];by_cases h0:(bod z).isEmpty=true
 ·refine kQ h0 ?_;exact no (by unfold yY;rw[h0];rfl) (Same.refl _)
 refine kW (by simpa using h0) ?_;have asc:=(T.sub (y:=y) (by rw[hy];exact yL z)).asc;have yl:=(T.sub (y:=y) (by rw[hy];exact yL z)).len;have a128:y.cps.all (· < 128)=true:=by
  rw[<-Array.all_toList];exact List.all_eq_true.mpr λc hc=>mT (asc c hc)
 refine⟨_,rfl,y,rfl,a128,λl H1 n1 s1 e1=>?_⟩;have zl:y.length=(bod z).length:=by rw[<-hy,jG]
 refine GY (J:=Its y) (xs:=(bod z).map λc=>V.str ⟨#[c]⟩) (CmI (λk=>((bod z).take k).map λc=>V.bl (isD c)) l H) (by rw[mQ,<-zl];exact hV yl (by decide)) ⟨s1,e1,rfl⟩ (λk ys H2 h hk=>?_) (λys H2 h=>?_) (λk ys H2 h=>h.e) ?_ ?_
 ·rw[mQ]at hk;refine⟨by show k<y.length;lia,λx H3 y3=>?_⟩;obtain⟨e,c,hc,rfl⟩:=y3;rw[hy]at hc;exact⟨e,by rw[mE,hc];rfl⟩
 ·show y.length<=_;rw[mQ]
  lia
 ·rintro k m ys x H2 hx hm hl ⟨s2,e2,hys⟩;have hx':=hx;rw[mE]at hx;obtain⟨c,hc,rfl⟩:=Option.map_eq_some_iff.mp hx;refine⟨NY,_,rfl,fa,UW,rfl,.inr (fs H2),rfl,rfl, ?_⟩;rw[YB c];refine xP hx' hm hl e2 ⟨kT s2 n1,jF, ?_⟩;rw[hys,mG,hc,List.map_append]
  rfl
 ·rintro ys H2 hl ⟨s2,e2,hys⟩;rw[mQ,mM]at hys;refine⟨l,(bod z).map isD,rfl,SqL.of (by rw[e2,hys,List.map_map];rfl),_,rfl, ?_⟩;have ea:((bod z).map isD).all id=(bod z).all isD:=by rw[List.all_map];rfl
  rw[ea];by_cases h1:(bod z).all isD=true
  ·have hn:yY (bod z)=true:=by unfold yY;rw[h1];simpa using h0
   have q:=q H2 s2;cases e:rdW z with
   | none=>unfold rdW at e;rw[nV hn]at e;cases e
   | some i=>
    rw[e]at q;refine kW (by rw[h1];rfl) ⟨_,rfl,_,_,rfl,(BM T e).2,q⟩
  ·refine kQ (by rw[Bool.eq_false_iff.mpr h1];rfl) ?_;exact no (by unfold yY;rw[Bool.eq_false_iff.mpr h1,Bool.and_false]) s2
section
variable{P:Program}{w:World}{K:nW}{mg:Str->Option Value}{base:Heap}{f fd:_}{C:Addr}
theorem scRdWhole:FnScope ["word","figures"] ["word"] (jJ zF):=scK (by decide +kernel)
theorem KP(F:Fun K "read_whole" "read_whole" zF f fd)(T:Txt mg)(G:Fig K mg)(N:NoT P w K mg base C):FnOk P w K mg base (LwE.CXF P w) 3 f fd ["word"] (uQ C):=by
 obtain⟨fa,fm,fs⟩:=G;obtain⟨⟨fI,fdI,bl,c,GI,bI⟩,hm⟩:=N;obtain⟨oc,od,kV,doc,pm',an,cdv,ct,osl,rfl,lk,hcd⟩:=F.ex;refine CO lk hcd scRdWhole (λvs H Q E h=>?_) (λA outer s H vs Q E hr h=>?_)
 ·obtain⟨z,rfl,_⟩:=h
  rfl
 ·obtain⟨z,rfl,tz,q⟩:=h;refine⟨_,jB (jL (i:=1) scRdWhole.nd rfl (Or.inl rfl) (ID (qM (qQ PySem.F.plainAttrs_str PySem.F.slot_str_startswith PySem.F.type_str_startswith QF (pv 0) (jA jO jD))) (kN xB (pv 0) (kR jC) qC) (pv 0)))
   (jB (jX (PW.pt (vB (jI vC (pv 1) jO (jR _)) (qT (qZ (qM (jU (uI rfl) (by rfl) T.all boot_all (jA
    (BQ (own:=1) (idx:=[]) (N:=["sign"]) rfl rfl rfl (by decide +kernel) (by decide +kernel) (λ_ _ h=>nomatch h) (CL rfl) rfl (λ_ _ _ h=>nomatch h) (TC (pv 1)) (λC fp s2 H2=>jS (i:=0) (show List.Nodup (["sign"]:List Str) by decide +kernel) rfl (Or.inl rfl))
     (λC fp s2 H2=>xW (show OpR (jV _ ["sign"] _ _ C fp s2 H2) (compareOp .In) (rIn K false)from PZ) (pv 0) (qF (v:=.ref fa) (by rfl) fm rfl) rfl)) jD))))))) (jE (LwE.ps_raise c GI bI hr rfl hm jO)) jM)
   (jE (jK (kP uV (by rfl) T.int boot_int (jA (pv 0) jD))))), ?_⟩
  try dsimp only[cxK]
  refine⟨_,rfl,rfl,_,_,rfl,rfl,_,rfl, ?_⟩;rw[show Txt.startswith z (Str.ofString "-")=neg z from KB z];have hz:=zT z;unfold vY at hz;by_cases h0:neg z=true
  ·rw[nV h0]at hz;refine kQ h0 ⟨_,rfl,_,rfl,_,rfl,nG tz.len (by decide), ?_⟩;exact HX tz hz (λ_ _ _ h=>h) q fs
  ·rw[nU h0]at hz;refine kW (by simpa using h0) ⟨_,rfl, ?_⟩;exact HX tz hz (λ_ _ _ h=>h) q fs
end
def MN(C:Addr):Sp:=λvs H Q E=>∃z:Str,vs=[.str z]/\Tx z/\orX (rdN z) (λq=>∀p H',H p=none->Same H H'->At2 H' p q.1 q.2->Q (.ref p) H') (∀H',Same H H'->E (.ref C) none H')
theorem UQ{X:Cx} :PGet X (KG X.K):=by
 intro af s σ H x y v u Q I rx ry h;obtain⟨p,xs,i,z,rfl,rfl,hq,he,q⟩:=h;cases rx;obtain⟨t,rfl⟩:=ry;obtain⟨its,r,pl,hz⟩:=I.list hq;obtain⟨j,h1,h2,h3,h4,h5⟩:=BB he;obtain⟨w,ew,rw'⟩:=r.get h2;have hl:=r.length;have hn:=wK;have fin:EP X af σ Q w s:=⟨z,H,I,rw',q⟩;by_cases h0:0<=i
 ·have hj:i.toNat=j:=by
   rw[seqIndex_of h0 h5]at h1;exact Option.some.inj h1
  exact wpAny_getItem_list pl.isList h0 (by lia) (by rw[hj];simpa using ew) fin
 ·have hj:(i+(its.toArray.size:Int)).toNat=j:=by
   rw[seqIndex_neg (by lia) h4]at h1;rw[mF,<-hl];exact Option.some.inj h1
  exact wpAny_getItem_list_neg pl.isList (by lia) (by rw[mF]<;>lia) (by lia) (by rw[hj];simpa using ew) fin
def rSlK(K:nW):V->Option Int->Option Int->Hp->VK->Prop:=λx lo hi H Q=>∃a xs,x=.ref a/\SqT K H a xs/\∀p H',Same H H'->SqT K H' p (xF xs lo hi)->Q (.ref p) H'
theorem WG{X:Cx} :SlR X (rSlK X.K):=by
 intro af s σ H x v vl vu lo hi sl Q I rx hs pl pu h;obtain⟨a,xs,rfl,hx,q⟩:=h;by_cases hw:HT.sIx xs.length 0 lo=0/\HT.sIx xs.length xs.length hi=xs.length
 ·cases rx;obtain⟨its,r,ht,hz⟩:=I.tuple hx;have hl:its.toArray.size=xs.length:=by rw[mF];exact r.length.symm
  refine⟨"tuple",_,PyProof.Rows.slot_tuple_getitem.lookup,ht.typeIs,HT.cut_whole ht hs pl pu (by rw[hl];exact hw) ⟨.ref a,H,I,rfl,q a H (λ_ _ e=>e) ?_⟩⟩;rw[xF,hw.1,hw.2];simpa using hx
 ·exact SH af s σ H _ v vl vu lo hi sl Q I rx hs pl pu ⟨a,xs,rfl,hx,hw,λp n=>q p _ (Lw.jW _ n) (SqT.of jF)⟩
def lets:List V:=[.str (ltr 0),.str (ltr 1),.str (ltr 2),.str (ltr 3)]
theorem VI{ae:Nat}(h:ae<=4):xF lets none (some (ae:Int))=lets.take ae:=by
 rw[xF,HT.sIx_none,HT.sIx_nat,List.drop_zero,Nat.sub_zero]
 congr 1
 show min ae 4=ae
 lia
theorem UA(i j:Nat):eqV (.str (ltr i)) (.str (ltr j))=decide (i=j):=by
 show(ltr i==ltr j)=_;by_cases h:i=j
 ·rw[h,mT rfl];exact beq_self_eq_true _
 ·rw[mR h];refine beq_eq_false_iff_ne.mpr λe=>h ?_;have e2:[97+i]=[97+j]:=congrArg (λs:Str=>s.cps.toList) e;injection e2 with e2
  lia
theorem NV{i:Nat}(h:i<4):lets[i]? = some (.str (ltr i)):=by
 match i,h with
 | 0,_=>rfl
 | 1,_=>rfl
 | 2,_=>rfl
 | 3,_=>rfl
 | n+4,h=>lia
theorem QS(ae:Nat):(lets.take ae).all yX=true:=by
 refine List.all_eq_true.mpr λv hv=>?_;have:=List.mem_of_mem_take hv;simp only[lets,mY,mL,or_false]at this;rcases this with rfl | rfl | rfl | rfl<;>rfl
section
variable{P:Program}{w:World}{K:nW}{mg:Str->Option Value}{base:Heap}{f fd:_}{C:Addr}
theorem scRdNum:FnScope ["word","top","stroke","bottom"] ["word"] (jJ FE):=scK (by decide +kernel)
theorem TR{fW:Addr}{fdW:FuncData}(F:Fun K "read_number" "read_number" FE f fd)(T:Txt mg)(DW:Df K mg "read_whole" zF ["word"] fW fdW)(GW:FnOk P w K mg base (LwE.CXF P w) 3 fW fdW ["word"] (uQ C)):FnOk P w K mg base (LwE.CXF P w) 4 f fd ["word"] (MN C):=by
 obtain⟨oc,od,kV,doc,pm',an,cdv,ct,osl,rfl,lk,hcd⟩:=F.ex;refine CO lk hcd scRdNum (λvs H Q E h=>?_) (λA outer s H vs Q E hr h=>?_)
 ·obtain⟨z,rfl,_⟩:=h
  rfl
 ·obtain⟨z,rfl,tz,go⟩:=h;refine⟨_,jB (vK (qQ PySem.F.plainAttrs_str PySem.F.slot_str_partition PySem.F.type_str_partition NQ (pv 0) (jA jO jD)) (vS rfl (jZ (jS (i:=1) scRdNum.nd rfl (Or.inl rfl)) (jZ (jS (i:=2) scRdNum.nd rfl (Or.inl rfl)) (jZ (jS (i:=3) scRdNum.nd rfl (Or.inl rfl)) qW)))))
   (jB (jX (jI vC (pv 2) jO (jR _)) (jE (jK (qD (jA (jT GW hr rfl DW.m DW.F.kp DW.b .nil LwE.pass_fly (jA (pv 1) jD)) (jA jC jD))))) jM)
   (jE (jK (qD (jA (jT GW hr rfl DW.m DW.F.kp DW.b .nil LwE.pass_fly (jA (pv 1) jD)) (jA (jT GW hr rfl DW.m DW.F.kp DW.b .nil LwE.pass_fly (jA (pv 3) jD)) jD)))))), ?_⟩
  try dsimp only[cxK]
  have t1:=tz.sub (xT z ⟨#[47]⟩).1;have t2:=tz.sub (xT z ⟨#[47]⟩).2;refine⟨_,rfl,rfl,_,_,rfl,rfl,rfl,nG tz.len (by decide),λp H1 n1 s1 e1=>⟨p,_,rfl,SqT.of e1,rfl,_,_,rfl,_,_,rfl,_,_,rfl,rfl, ?_⟩⟩;unfold rdN at go;by_cases hb:(Txt.partition z ⟨#[47]⟩).2.1=Str.empty
  ·refine⟨_,rfl,rfl,_,rfl,kQ (mT (congrArg V.str hb)) ?_⟩;refine⟨_,rfl,_,rfl,t1,λH2 s2=>?_⟩;cases e:rdW (Txt.partition z ⟨#[47]⟩).1 with
   | none=>rw[e]at go;exact BT e (go H2 (s1.trans s2))
   | some t=>
    rw[e]at go;dsimp only at go;rw[nV hb]at go;refine BS e ⟨gF,λp2 H3 n3 s3 e3=>?_⟩;exact go p2 H3 ((s1.trans s2).free n3) (s1.trans (s2.trans s3)) e3
  ·refine⟨_,rfl,rfl,_,rfl,kW (mR λe=>hb (by injection e)) ?_⟩;refine⟨_,rfl,_,rfl,t1,λH2 s2=>?_⟩;cases e:rdW (Txt.partition z ⟨#[47]⟩).1 with
   | none=>rw[e]at go;exact BT e (go H2 (s1.trans s2))
   | some t=>
    rw[e]at go;dsimp only at go;rw[nU hb]at go;refine BS e ⟨_,rfl,_,rfl,t2,λH3 s3=>?_⟩;cases e2:rdW (Txt.partition z ⟨#[47]⟩).2.2 with
    | none=>rw[e2]at go;exact BT e2 (go H3 (s1.trans (s2.trans s3)))
    | some b=>
     rw[e2]at go;refine BS e2 ⟨gF,λp2 H4 n4 s4 e4=>?_⟩;exact go p2 H4 ((s1.trans (s2.trans s3)).free n4) (s1.trans (s2.trans (s3.trans s4))) e4
end
theorem YA{ae:Nat}(m4:ae<=4)(y:Str):inV (.str y) (lets.take ae)=(rdL ae y).isSome:=by
 have e:∀j,eqV (.str (ltr j)) (.str y)=decide (y=ltr j):=λj=>by
  show(ltr j==y)=_;by_cases h:y=ltr j
  ·rw[h,mT rfl];exact beq_self_eq_true _
  ·rw[mR h];exact beq_eq_false_iff_ne.mpr λz=>h z.symm
 have et:lets.take ae=(List.range ae).map λj=>V.str (ltr j):=by
  match ae,m4 with
  | 0,_=>rfl
  | 1,_=>rfl
  | 2,_=>rfl
  | 3,_=>rfl
  | 4,_=>rfl
 unfold inV rdL;rw[et,List.any_map,Bool.eq_iff_iff,List.any_eq_true,List.find?_isSome];exact⟨λ⟨j,hj,h⟩=>⟨j,hj,(e j).symm.trans h⟩,λ⟨j,hj,h⟩=>⟨j,hj,(e j).trans h⟩⟩
def SG(C:Addr):Sp:=λvs H Q E=>∃(a:Addr) (ae:Nat) (ws:List Str),vs=[.ref a,.int ae]/\H a=some (.lst (ws.map V.str))/\(∀w∈ws,Tx w)/\1<=ae/\ae<=4/\
 orX (zH ae ws (List.replicate ae 0)) (λns=>∀p H',H p=none->Same H H'->H' p=some (.tup (ns.map V.int))->Q (.ref p) H') (∀H',Same H H'->E (.ref C) none H')
def HR(C:Addr):Sp:=λvs H Q E=>∃(ae:Nat) (z:Str),vs=[.str z,.int ae]/\Tx z/\1<=ae/\ae<=4/\orX (rdT ae z) (λx=>∀v H',Same H H'->TrmV H' v x->Q v H') (∀H',Same H H'->E (.ref C) none H')
inductive PwI(H:Hp)(a l:Addr)(ae:Nat)(ws:List Str)(i:Nat):L2.St->Hp->Prop where
 | mk {u v x y:Option V} {H':Hp} {ps:List Int} (s:Same H H') (e:H' l=some (.lst (ps.map V.int))) (n:zH ae ws (List.replicate ae 0)=zH ae (ws.drop i) ps) (hl:ps.length=ae):PwI H a l ae ws i [some (.ref a),some (.int ae),some (.ref l),u,v,x,y] H'
section
variable{P:Program}{w:World}{K:nW}{mg:Str->Option Value}{base:Heap}{f fd:_}{C:Addr}
theorem scRdPw:FnScope ["words","many","powers","word","letter","hat","power"] ["words","many"] (jJ MS):=scK (by decide +kernel)
theorem XA{fW:Addr}{fdW:FuncData}(F:Fun K "read_powers" "read_powers" MS f fd)(T:Txt mg)(L:Ltr K mg)(N:NoT P w K mg base C)(DW:Df K mg "read_whole" zF ["word"] fW fdW)(GW:FnOk P w K mg base (LwE.CXF P w) 3 fW fdW ["word"] (uQ C)):FnOk P w K mg base (LwE.CXF P w) 4 f fd ["words","many"] (SG C):=by
 obtain⟨la,lm,ls,lo,lk',lc,ld⟩:=L;obtain⟨⟨fI,fdI,bl,c,GI,bI⟩,hm⟩:=N;obtain⟨oc,od,kV,doc,pm',an,cdv,ct,osl,rfl,lk,hcd⟩:=F.ex;refine CO lk hcd scRdPw (λvs H Q E h=>?_) (λA outer s H vs Q E hr h=>?_)
 ·obtain⟨a,ae,ws,rfl,_⟩:=h
  rfl
 ·obtain⟨a,ae,ws,rfl,ha,tw,m1,m4,go⟩:=h;have hr2:Room 2 _:=hr.mono (by decide);refine⟨_,jB (jL (i:=2) scRdPw.nd rfl (Or.inl rfl) (jH KM (qE (jA jC jD)) (pv 1)))
   (jB (qU PassesOwn.leaving rfl (zZ (pv 0)) (jS (i:=3) scRdPw.nd rfl (Or.inl rfl))
    (jB (vK (qQ PySem.F.plainAttrs_str PySem.F.slot_str_partition PySem.F.type_str_partition NQ (pv 3) (jA jO jD)) (vS rfl (jZ (jS (i:=4) scRdPw.nd rfl (Or.inl rfl)) (jZ (jS (i:=5) scRdPw.nd rfl (Or.inl rfl)) (jZ (jS (i:=6) scRdPw.nd rfl (Or.inl rfl)) qW)))))
    (jB (jX (jI FN (pv 4) (kN WG (qF (v:=.ref la) (by rfl) lm rfl) qC (kR (pv 1))) rfl) (jE (LwE.ps_raise c GI bI hr2 rfl hm jO)) jM)
    (jE (WR (pv 2) (qQ PySem.F.plainAttrs_tuple PySem.F.slot_tuple_index PySem.F.type_tuple_index TY (qF (v:=.ref la) (by rfl) lm rfl) (jA (pv 4) jD)) UQ (ID (jI vC (pv 5) jO (jR _)) jC (jT GW hr rfl DW.m DW.F.kp DW.b .nil LwE.pass_fly (jA (pv 6) jD))) ip_add vZ)))))
   (jE (jK (kP vE (by rfl) T.tup boot_tuple (jA (pv 2) jD))))), ?_⟩
  try dsimp only[cxK]
  refine⟨gE,λz0 H3 n3 s3 e3=>⟨_,rfl,z0,ae,[.int 0],rfl,rfl,e3,by lia,by lia, ?_,λl nl=>?_⟩⟩
  ·show 1*(ae:Int).toNat<=sizeLine;exact nG (show 1*(ae:Int).toNat<=4 by lia) (by decide)
  have hl0:(List.replicate (ae:Int).toNat [V.int 0]).flatten=(List.replicate ae (0:Int)).map V.int:=by simp
  rw[hl0];have nl0:H l=none:=s3.free nl;have s4:Same H (upd H3 l (.lst ((List.replicate ae (0:Int)).map V.int))):=kT s3 nl0;refine⟨_,rfl,a,rfl,⟨_,SqL.of (s4 _ _ ha)⟩, ?_⟩;refine zS (K:=K) (a:=a) (xs:=ws.map V.str) (PwI H a l ae ws) (.mk s4 jF rfl (by simp)) (λi σ H5 _ h=>?_) (λi v σ H5 hv h=>?_) (fun σ H5 h=>?_)
  ·obtain⟨s5,_,_,_⟩:=h;exact SqL.of (s5 _ _ ha)
  ·obtain⟨s5,e5,hps,hl⟩:=h;rename_i u0 v0 x0 y0 ps;rw[mE]at hv;obtain⟨y,hy,rfl⟩:=Option.map_eq_some_iff.mp hv;have ty:=tw y (gX hy);have t2:=ty.sub (xT y ⟨#[94]⟩).2;obtain⟨hi,gi⟩:=gI.mp hy;have ed:zH ae (ws.drop i) ps=(match rdQ ae y with | none=>none | some q=>zH ae (ws.drop (i+1)) (uX ps q)):=by
    rw[List.drop_eq_getElem_cons hi,gi]
    rfl
   rw[ed]at hps;refine⟨_,rfl,rfl,_,_,rfl,rfl,rfl,nG ty.len (by decide),λp0 H6 n6 s6 e6=>⟨p0,_,rfl,SqT.of e6,rfl,_,_,rfl,_,_,rfl,_,_,rfl,rfl, ?_⟩⟩;refine⟨_,rfl,_,rfl,_,rfl,la,lets,rfl,ls H6,λp1 H7 s7 sq7=>?_⟩;rw[VI m4]at sq7;refine⟨p1,_,rfl,.inr sq7,rfl,QS ae,_,rfl, ?_⟩;have s57:=s5.trans (s6.trans s7);rw[show(Str.ofString "^")=(⟨#[94]⟩:Str)from rfl,YA m4];unfold rdQ at hps;cases ej:rdL ae (Txt.partition y ⟨#[94]⟩).1 with
   | none=>
    rw[ej]at hps;rw[hps]at go;exact⟨_,rfl,go H7 s57⟩
   | some j=>
    rw[ej]at hps;obtain⟨ey,hjm⟩:=SR ej;rw[ey];have e7:=s7 _ _ (s6 _ _ e5);have hjl:j<ps.length:=by lia
    refine qV ⟨_,rfl,.inr (.inl ⟨rfl,lo,lk',lc,ld⟩),_,rfl,la,lets,.str (ltr j),j,rfl,rfl,ls H7,rfl,rfl,(by show j<4;lia),λk z hk hz=>?_,λz hz=>?_, ?_⟩
    ·rw[NV (by lia)]at hz;rw[<-Option.some.inj hz,UA];exact mR (by lia)
    ·rw[NV (by lia)]at hz;rw[<-Option.some.inj hz,UA];exact mT rfl
    refine⟨l,_,(j:Int),V.int (ps.getD j 0),rfl,rfl,SqL.of e7,kY (by simp [hjl]), ?_⟩;have ix:ixN ((ps.map V.int).length) (j:Int)=some j:=by
     unfold ixN;rw[nV (by lia),nV (by rw[mQ];lia)];simp
    have fin:∀H8 (p:Int),Same H7 H8->zH ae ws (List.replicate ae 0)=zH ae (ws.drop (i+1)) (uX ps (j,p))->PwI H a l ae ws (i+1) [some (.ref a),some (.int ae),some (.ref l),some (.str y),some (.str (ltr j)),some (.str (Txt.partition y ⟨#[94]⟩).2.1),some (.str (Txt.partition y ⟨#[94]⟩).2.2)] (upd H8 l (.lst ((ps.map V.int).set j (.int (ps.getD j 0+p))))):=λH8 p s8 e=>
     .mk (ps:=uX ps (j,p)) (kT (s57.trans s8) nl0) (by rw[jF,uX,List.map_set]) e (by rw[uX,List.length_set];exact hl)
    refine⟨_,rfl,rfl,_,rfl, ?_⟩;dsimp only at hps;by_cases hb:(Txt.partition y ⟨#[94]⟩).2.1=Str.empty
    ·rw[nV hb]at hps;exact kQ (mT (congrArg V.str hb)) ⟨_,_,rfl,rfl,l,_,_,j,rfl,rfl,e7,ix,fin H7 1 (Same.refl _) hps⟩
    ·rw[nU hb]at hps;refine kW (mR λe=>hb (by injection e)) ⟨_,rfl,_,rfl,t2,λH8 s8=>?_⟩;cases ep:rdW (Txt.partition y ⟨#[94]⟩).2.2 with
     | none=>
      rw[ep]at hps;have hps:zH ae ws (List.replicate ae 0)=none:=hps;rw[hps]at go;exact BT rfl (go H8 (s57.trans s8))
     | some p=>
      rw[ep]at hps;exact BS rfl ⟨_,_,rfl,rfl,l,_,_,j,rfl,rfl,s8 _ _ e7,ix,fin H8 p s8 hps⟩
  ·obtain⟨s5,e5,hps,hl⟩:=h;rename_i u0 v0 x0 y0 ps;refine⟨_,rfl,l,_,rfl,.inl ⟨SqL.of e5,λp np=>?_⟩⟩;rw[mQ,List.drop_length]at hps;rw[hps]at go;exact go p _ (s5.free np) (s5.trans (jW _ np)) jF
theorem scRdTerm:FnScope ["text","many","words"] ["text","many"] (jJ AN):=scK (by decide +kernel)
theorem QB{fN fP:Addr}{fdN fdP:FuncData}(F:Fun K "read_term" "read_term" AN f fd)(T:Txt mg)(DN:Df K mg "read_number" FE ["word"] fN fdN)(GN:FnOk P w K mg base (LwE.CXF P w) 4 fN fdN ["word"] (MN C))(DP:Df K mg "read_powers" MS ["words","many"] fP fdP)(GP:FnOk P w K mg base (LwE.CXF P w) 4 fP fdP ["words","many"] (SG C)) :
 FnOk P w K mg base (LwE.CXF P w) 5 f fd ["text","many"] (HR C):=by
 obtain⟨oc,od,kV,doc,pm',an,cdv,ct,osl,rfl,lk,hcd⟩:=F.ex;refine CO lk hcd scRdTerm (λvs H Q E h=>?_) (λA outer s H vs Q E hr h=>?_)
 ·obtain⟨ae,z,rfl,_⟩:=h
  rfl
 ·obtain⟨ae,z,rfl,tz,m1,m4,go⟩:=h;refine⟨_,jB (jL (i:=2) scRdTerm.nd rfl (Or.inl rfl) (qQ PySem.F.plainAttrs_str PySem.F.slot_str_split PySem.F.type_str_split yG (pv 0) (jA jO jD)))
   (jE (jK (qD (jA (jT GP hr rfl DP.m DP.F.kp DP.b .nil LwE.pass_fly (jA (kN AL (pv 2) (kR jC) qC) (jA (pv 1) jD))) (jA (jT GN hr rfl DN.m DN.F.kp DN.b .nil LwE.pass_fly (jA (kB kX (pv 2) jC (λ_ _=>rfl)) jD)) jD))))), ?_⟩
  try dsimp only[cxK]
  refine⟨_,rfl,rfl,_,_,rfl,rfl,rfl,nG (Nat.add_le_add_right tz.len 2) (by decide),λl H1 n1 s1 e1=>?_⟩;obtain⟨y,ws,es⟩:=qS z ⟨#[32]⟩;rw[show Txt.split z (Str.ofString " ")=y::ws from es]at e1;have tp:∀p∈y::ws,Tx p:=λp hp=>tz.sub (kS (y:=⟨#[32]⟩) (by rw[es];exact hp));unfold rdT at go;rw[es]at go;refine⟨_,rfl,_,rfl,l,_,rfl,SqL.of e1,λp np=>⟨_,rfl, ?_⟩⟩;have ec:xF ((y::ws).map V.str) (some 1) none=ws.map V.str:=by
   rw[CT]
   rfl
  rw[ec];refine⟨p,ae,ws,rfl,jF,λw hw=>tp w (gY _ hw),m1,m4, ?_⟩;have go:orX (match zH ae ws (List.replicate ae 0)with | none=>none | some ns=>(rdN y).map λq=>(⟨ns,q.1,q.2⟩:Trm)) (λx=>∀v H',Same H H'->TrmV H' v x->Q v H') (∀H',Same H H'->E (.ref C) none H'):=go;have s01:Same H (upd H1 p (.lst (ws.map V.str))):=s1.trans (jW _ np);cases e1':zH ae ws (List.replicate ae 0)with
  | none=>
   rw[e1']at go;exact BT rfl λH2 s2=>go H2 (s01.trans s2)
  | some ns=>
   rw[e1']at go;dsimp only at go;refine BS rfl λb H2 n2 s2 e2=>?_;have s12:Same H1 H2:=(jW _ np).trans s2;refine⟨_,rfl,l,_,0,_,rfl,rfl,SqL.of (s12 _ _ e1),kY (j:=0) rfl,y,rfl,tp y (mC ..), ?_⟩;cases e2':rdN y with
   | none=>
    rw[e2']at go;exact BT rfl λH3 s3=>go H3 (s01.trans (s2.trans s3))
   | some q=>
    rw[e2']at go;refine BS rfl λc H3 n3 s3 e3=>?_;refine⟨gF,λr H4 n4 s4 e4=>?_⟩;exact go _ H4 (s1.trans (s12.trans (s3.trans s4))) ⟨r,b,c,rfl,e4,s4 _ _ (s3 _ _ e2),s4 _ _ e3⟩
end
section
variable{X:Cx}
def tF3(m m2:Str)(ta:TE):TE:=fun σ H Q=>ta σ H λx H1=>∃i:Int,x=.int i/\i.natAbs.log2<1920/\(m++(toString i:Str)).length<=sizeLine/\(m++(toString i:Str)++m2).length<=sizeLine/\Q (.str (m++(toString i:Str)++m2)) H1
theorem NH{a:Expr}{ta:TE}{m m2:Str}{k k2:Nat}{p1 p2 p3 pos:Pos}(hm:m.length<=sizeLine)(ha:PE X a ta):PE X (.JoinedStr [.Constant (.str m) k p2,.FormattedValue a (-1) none p1,.Constant (.str m2) k2 p3] pos) (tF3 m m2 ta):=by
 intro af s σ H Q I h;have e1:Str.empty++m=m:=Str.empty_append m;refine JoinedStr_many (joinParts_cons (Calls.Constant_str ?_));show(Str.empty++m).length<=sizeLine/\wpAny _ _ (joinParts (Str.empty++m) _) _ _ { s with toks:=s.toks+1 };rw[e1];refine⟨hm,joinParts_cons (FormattedValue_plain (thn (ha af _ σ H _ (I.tok _) h) λv s1 ⟨x,H1,I1,r1,i,ex,f1,hl,hl2,q1⟩=>?_))⟩;subst ex;obtain⟨t,rfl⟩:=r1;refine formatField_int_small f1 ⟨hl,joinParts_cons (Calls.Constant_str ?_)⟩;exact⟨hl2,joinParts_nilE (joinParts_nil ⟨.str _,H1,((I1.tok _).tok _).tok _,⟨_,rfl⟩,q1⟩ hl2)⟩
end
theorem YM{m:Int}(h0:0<=m)(h1:m<=999999):m.natAbs.log2<1920:=by
 by_cases z:m.natAbs=0
 ·rw[z];decide
 ·exact(Nat.log2_lt z).mpr (hX (show m.natAbs<2^20 by lia) (gZ (by decide) (by decide)))
theorem CJ{a:Int}(h:a.natAbs<10^6):(toString a).length<=10:=by
 have:=int_text_length_le10 (k:=6) (by decide) h
 lia
def SF(C:Addr):Sp:=λvs H Q E=>∃(ae:Nat) (z:Str),vs=[.str z,.int ae]/\1<=ae/\ae<=4/\z.length<=100000/\(z.length<=4000->Tx z)/\orX (rdA ae z) (λts=>∀p H',Same H H'->Poly H' p ae ts->Q (.ref p) H') (∀H',Same H H'->E (.ref C) none H')
structure RdI(H:Hp)(l:Addr)(ae:Nat)(ps:List Str)(i:Nat)(ys:List V)(H2:Hp):Prop where
 s:Same H H2
 e:H2 l=some (.lst ys)
 y:∃xs,Paired (TrmV H2) ys xs/\wD ae ps=(wD ae (ps.drop i)).map (xs++·)
theorem Paired.snoc{α β:Type}{F:α->β->Prop} :∀{l₁:List α} {l₂:List β} {x:α} {y:β},Paired F l₁ l₂->F x y->Paired F (l₁++[x]) (l₂++[y])
 | _,_,_,_,.nil,h=>.cons h .nil
 | _,_,_,_,.cons h t,k=>.cons h (Paired.snoc t k)
theorem FT{H:Hp}{l:Addr}{ys:List V}{o:HO}(e:H l=some (.lst ys)):∀a xs,H a=some (.tup xs)->upd H l o a=some (.tup xs):=λa xs h=>by
 rw[jN (λz=>by rw[z,e]at h;cases h)];exact h
theorem HZ{ae:Nat} :∀(ws:List Str) (ps ns:List Int),zH ae ws ps=some ns->ns.length=ps.length
 | [],ps,ns,h=>by injection h with h;rw[h]
 | w::r,ps,ns,h=>by
  have h:(match rdQ ae w with | none=>none | some q=>zH ae r (uX ps q))=some ns:=h;split at h
  ·cases h
  ·rw[HZ r _ ns h,uX,List.length_set]
theorem HY{ae:Nat} :∀(ps:List Str) (ts:List Trm),wD ae ps=some ts->∀x∈ts,x.ns.length=ae
 | [],ts,h,x,hx=>by injection h with h;subst h;cases hx
 | z::r,ts,h,x,hx=>by
  have h:(match rdT ae z with | none=>none | some x=>(wD ae r).map (x::·))=some ts:=h;split at h
  ·cases h
  ·rename_i y e1;cases e2:wD ae r with
   | none=>rw[e2]at h;cases h
   | some us=>
    rw[e2]at h;have h:some (y::us)=some ts:=h;injection h with h
    subst h;rcases mY.mp hx with rfl | hx
    ·unfold rdT at e1;split at e1
     ·cases e1
     ·rename_i ns e3;have l:=HZ _ _ _ e3;rw[gT]at l;rw[Option.map_eq_some_iff]at e1;obtain⟨q,_,e1⟩:=e1;rw[<-e1];exact l
    ·exact HY r us e2 x hx
theorem WD{ae:Nat}{ts:List Trm}(m4:ae<=4)(h1:∀x∈ts,x.ns.length=ae)(h2:∀x∈ts,x.t.natAbs<2^1900/\x.b.natAbs<2^1900):suOk (wF ae ts):=by
 show ∀t∈ts.map vP,ZJ t;intro d hd;obtain⟨x,hx,rfl⟩:=nI.mp hd;refine⟨?_,λz hz=>?_⟩
 ·show(x.ns.map PyData.int).length<=1000;rw[mQ,h1 x hx]
  lia
 ·rcases mY.mp hz with rfl | hz
  ·exact(h2 x hx).1
  ·rw[mB]at hz;subst hz;exact(h2 x hx).2
section
variable{P:Program}{w:World}{K:nW}{mg:Str->Option Value}{base:Heap}{f fd:_}{C:Addr}
theorem scRead:FnScope ["text","many","one"] ["text","many"] (jJ MR):=scK (by decide +kernel)
theorem WZ{fT:Addr}{fdT:FuncData}(F:Fun K "read" "read" MR f fd)(T:Txt mg)(N:NoT P w K mg base C)(DT:Df K mg "read_term" AN ["text","many"] fT fdT)
 (GT:FnOk P w K mg base (LwE.CXF P w) 5 fT fdT ["text","many"] (HR C)) (GS:DG P w K mg base 5 "is_sum" WK ["thing"] spSum) (GH:DG P w K mg base 3 "shown" FC ["one"] spShown):FnOk P w K mg base (LwE.CXF P w) 6 f fd ["text","many"] (SF C):=by
 obtain⟨ts0,hsg⟩:=T.signs;obtain⟨⟨fI,fdI,bl,c,GI,bI⟩,hm⟩:=N;obtain⟨oc,od,kV,doc,pm',an,cdv,ct,osl,rfl,lk,hcd⟩:=F.ex;refine CO lk hcd scRead (λvs H Q E h=>?_) (λA outer s H vs Q E hr h=>?_)
 ·obtain⟨ae,z,rfl,_⟩:=h
  rfl
 ·obtain⟨ae,z,rfl,m1,m4,zl,tz,go⟩:=h;have hr3:Room 3 _:=hr.mono (by decide);have hr2:Room 2 _:=hr.mono (by decide);refine⟨_,jB (jX (jI yE (jU qN (by rfl) T.len PySem.boot_len (jA (pv 0) jD)) (qF (v:=.int 4000) (by rfl) hsg ⟨_,rfl⟩) (jR _)) (jE (LwE.ps_raise c GI bI hr2 rfl hm (Lw.NH (by decide) (jU qN (by rfl) T.len PySem.boot_len (jA (pv 0) jD))))) jM)
   (jB (jX (jI vC (pv 0) jO (jR _)) (jE (jK (qD (jA (pv 1) (jA (qD jD) jD))))) jM)
   (jB (jL (i:=2) scRead.nd rfl (Or.inl rfl) (qD (jA (pv 1) (jA (kP vE (by rfl) T.tup boot_tuple (jA
    (LwE.pe_compX (own:=1) (idx:=[1]) (N:=["part","many"]) rfl rfl (by decide +kernel) (by decide +kernel) (λ_ _ h=>h) (CL rfl) rfl (NP rfl ⟨rfl,rfl,rfl,rfl⟩)
     (zZ (IF (qQ PySem.F.plainAttrs_str PySem.F.slot_str_split PySem.F.type_str_split yG (pv 0) (jA jO jD)) (kR (wX yM jC))))
     (λC fp s2 H2=>jS (i:=0) (show List.Nodup (["part","many"]:List Str) by decide +kernel) rfl (Or.inl rfl)) (λC fp s2 H2=>jT GT hr rfl DT.m DT.F.kp DT.b .nil LwE.pass_comp (jA (pv 0) (jA (pv 1) jD)))) jD)) jD))))
   (jB (jX (PW.pt (vB (qZ (qM (cal GS hr (jA (pv 2) jD)))) (qT (jI wZ (cal GH hr3 (jA (pv 2) jD)) (pv 0) (jR _))))) (jE (LwE.ps_raise c GI bI hr2 rfl hm jO)) jM)
   (jE (jK (pv 2)))))), ?_⟩
  try dsimp only[cxK]
  have zs:z.length<=sizeLine:=nG zl (by decide);refine⟨_,rfl,_,rfl,zs,_,_,rfl,rfl,_,rfl, ?_⟩;unfold rdA at go;by_cases hl:4000<z.length
  ·rw[nV hl]at go;refine kQ (mT (by lia)) ?_;refine⟨_,rfl,_,rfl,zs,_,rfl,YM (by lia) (by lia), ?_, ?_,_,rfl,go H (Same.refl _)⟩;all_goals
    have tf:=CJ (a:=(z.length:Int)) (by lia);simp only[Str.length_append,PySem.ofString_length,sizeLine_eq]at tf ⊢;have z1: "a text of ".length=10:=by decide
    have z2: " signs".length=6:=by decide
    lia
  rw[nU hl]at go;have tz:=tz (by lia);refine kW (mR (by lia)) ⟨_,rfl,rfl,_,rfl, ?_⟩;by_cases hz:z=⟨#[48]⟩
  ·rw[nV hz]at go;refine kQ (mT (congrArg V.str hz)) ⟨_,rfl,gD,λq H1 n1 s1 e1=>⟨gF,λp H2 n2 s2 e2=>?_⟩⟩;exact go p H2 (s1.trans s2) ⟨q,[],e2,s2 _ _ e1,.nil⟩
  rw[nU hz]at go;refine kW (mR λe=>hz (by injection e)) ?_;refine⟨_,rfl,_,rfl,rfl,_,_,rfl,rfl,rfl,nG (Nat.add_le_add_right zl 2) (by decide),λa H1 n1 s1 e1=>?_⟩;have n5:(Txt.split z ⟨#[32,43,32]⟩).length<=z.length+2:=PyProof.Rows.split_le _ _;rw[show Txt.split z (Str.ofString " + ")=Txt.split z ⟨#[32,43,32]⟩from rfl]at e1;have tp:∀p∈(Txt.split z ⟨#[32,43,32]⟩).reverse,Tx p:=λp hp=>tz.sub (kS (List.mem_reverse.mp hp));rw[<-List.length_reverse]at n5;refine⟨1,rfl,_,rfl,rfl,a,_,rfl,SqL.of e1,λa2 H2 n2 s2 e2=>?_⟩;rw[<-List.map_reverse]at e2;generalize (Txt.split z ⟨#[32,43,32]⟩).reverse=ps at go tp n5 e2;refine⟨a2,rfl,⟨_,SqL.of e2⟩,λl H3 n3 s3 e3=>?_⟩;have s03:=s1.trans s2;refine LO (K:=K) (a:=a2) (xs:=ps.map V.str) (RdI H2 l ae ps) (by rw[mQ];exact hV n5 (hV (Nat.add_le_add_right zl 2) (by decide))) ⟨s3,e3,[],.nil,by simp⟩ (λi ys H4 h=>⟨SqL.of (h.s _ _ e2),h.e⟩) ?_ ?_
  ·rintro i m ys v H4 hv hm hy ⟨s4,e4,xs,hp,hx⟩;have hv':=hv;rw[mE]at hv;obtain⟨y,hy2,rfl⟩:=Option.map_eq_some_iff.mp hv;obtain⟨hi,gi⟩:=gI.mp hy2;rw[List.drop_eq_getElem_cons hi,gi]at hx;have hx:wD ae ps=(match rdT ae y with | none=>none | some x=>(wD ae (ps.drop (i+1))).map (x::·)).map (xs++·):=hx;refine⟨NY,_,rfl,_,rfl,ae,y,rfl,tp y (gX hy2),m1,m4, ?_⟩;cases ex:rdT ae y with
   | none=>
    rw[ex]at hx;rw[hx]at go;exact λH5 s5=>go H5 (s03.trans (s4.trans s5))
   | some x=>
    rw[ex]at hx;intro u H5 s5 hu;have e5:=s5 _ _ e4;refine xP hv' hm hy e5 ⟨kT (s4.trans s5) n3,jF,xs++[x], ?_, ?_⟩
    ·exact Paired.snoc (Paired.to (λ_ _ h=>(h.map λ_ _ e=>s5 _ _ e).map (FT e5)) hp) (hu.map (FT e5))
    ·rw[hx];simp only[Option.map_map]
     congr 1
     funext r
     simp
  ·rintro ys H4 hl2 ⟨s4,e4,xs,hp,hx⟩;rw[mQ,List.drop_length]at hx;have hx:wD ae ps=some xs:=by rw[hx];simp [wD]
   rw[hx]at go;have sz:=uS ps xs tp hx;refine⟨l,_,rfl,.inl ⟨SqL.of e4,λq nq=>⟨gF,λp H5 n5 s5 e5=>?_⟩⟩⟩;have s45:Same H4 H5:=(jW _ nq).trans s5;have P5:Poly H5 p ae xs:=⟨q,ys,e5,s5 _ _ jF,Paired.to (λ_ _ h=>h.map λ_ _ e=>s45 _ _ e) hp⟩;have s05:Same H H5:=s03.trans (s4.trans s45);refine⟨_,rfl,_,_,rfl,P5.dec,WD m4 (HY ps xs hx) sz,λH6 s6=>⟨_,rfl, ?_⟩⟩;have go:orX (if AD (wF ae xs)=true/\stx xs=z then some xs else none) (λts=>∀p H',Same H H'->Poly H' p ae ts->Q (.ref p) H') (∀H',Same H H'->E (.ref C) none H'):=go;by_cases hs:AD (wF ae xs)=true
   ·have gd:=OE hs sz;rw[hs];refine qV ⟨_,rfl,p,ae,xs,rfl,P5.same s6,gd,λH7 s7=>⟨_,rfl,rfl,_,rfl, ?_⟩⟩;by_cases ht:stx xs=z
    ·rw[nV ⟨hs,ht⟩]at go;refine kW (by rw[mT (congrArg V.str ht)];rfl) ⟨_,rfl, ?_⟩;exact go p H7 (s05.trans (s6.trans s7)) (P5.same (s6.trans s7))
    ·rw[nU λh=>ht h.2]at go;refine kQ (by rw[mR λe=>ht (by injection e)];rfl) ⟨_,rfl,go H7 (s05.trans (s6.trans s7))⟩
   ·rw[nU λh=>hs h.1]at go;rw[Bool.eq_false_iff.mpr hs];exact kD ⟨_,rfl,go H6 (s05.trans s6)⟩
end
open LwQ
def Ent.tm(e:Ent):Trm:=⟨e.ns,IT e.t e.b,IU e.t e.b⟩
theorem LL{H:Hp}{ae:Nat}{e:Ent}(h:EntOk H ae e)(k7:e.k<=7):TmOk ae e.tm:=by
 have hp:=h.pos;have g1:=LwM.AZ e.t e.b hp;have gp:0<Int.gcd e.t e.b:=by lia
 have eT:e.tm.t=e.t/(Int.gcd e.t e.b:Int):=BY hp;have eB:e.tm.b=e.b/(Int.gcd e.t e.b:Int):=BZ hp;have sb:e.b.natAbs<2^680:=hV (AH h.sb (show 97*e.k<=679 by lia)) (hJ (by decide) (by decide));have sb':e.b.natAbs<=2^679:=AH h.sb (show 97*e.k<=679 by lia);have st:e.t.natAbs<2^782:=by
  refine hV h.st ?_;refine hV (Nat.mul_le_mul k7 (gZ (by decide) (show 97*e.k+3<=682 by lia))) ?_
  decide +kernel
 refine⟨h.len,h.nn,h.deg, ?_, ?_, ?_, ?_, ?_⟩
 ·rw[eB];exact Int.ediv_pos_of_pos_of_dvd hp (by lia) (Int.gcd_dvd_right ..)
 ·rw[eT,eB];exact Int.gcd_ediv_gcd_ediv_gcd gp
 ·rw[eT];intro z;have:=Int.ediv_mul_cancel (Int.gcd_dvd_left e.t e.b);rw[z,Int.zero_mul]at this;exact h.nz this.symm
 ·rw[eT];exact vO (wC st g1) (by decide)
 ·rw[eB];exact vO (wC sb g1) (by decide)
theorem DE.k7{H:Hp}{d:Addr}{ae:Nat}{E:List Ent}(h:DE H d ae E){e:Ent}(he:e∈E):e.k<=7:=nG (FS (List.mem_map_of_mem he)) h.sum
def ptx(x:Trm)(j:Nat):Str:=Str.join ⟨#[32]⟩ (ntx x.t x.b::(wl 0 (x.ns.take j)).map wtx)
theorem EA(sep y:Str):∀(x:Str) (l:List Str),Str.join sep (x::l++[y])=Str.join sep (x::l)++(sep++y)
 | x,[]=>by show x++sep++y=x++(sep++y);exact Str.append_assoc ..
 | x,z::r=>by
  show x++sep++Str.join sep (z::r++[y])=x++sep++Str.join sep (z::r)++(sep++y);rw[EA sep y z r,Str.append_assoc (x++sep)]
theorem SX{x:Trm}{j:Nat}{n:Int}(h:x.ns[j]? = some n):ptx x (j+1)=if 1<=n then ptx x j++(⟨#[32]⟩++wtx (j,n))else ptx x j:=by
 have hj:=(gI.mp h).1;have et:x.ns.take (j+1)=x.ns.take j++[n]:=by rw[mG,h];rfl
 have ti:(x.ns.take j).length=j:=by rw[mK];lia
 unfold ptx;rw[et,AF,ti,Nat.zero_add];split
 ·rw[List.map_append,<-List.cons_append];exact EA ..
 ·rw[List.append_nil]
theorem WQ{ae:Nat}{x:Trm}(h:TmOk ae x)(hm:ae<=4)(j:Nat):(ptx x j).length<=1172:=by
 have h1:=StrLaws.join_length_le ⟨#[32]⟩ (ntx x.t x.b::(wl 0 (x.ns.take j)).map wtx);have h2:=SA (l:=(wl 0 (x.ns.take j)).map wtx) (B:=5) λy hy=>by
  obtain⟨q,hq,rfl⟩:=nI.mp hy;have:=h.le (List.mem_of_mem_take (uL hq).2.2.2);exact LW this.1 this.2
 have h3:=uM (x.ns.take j) 0;have h4:=FP h;have h5:=h.len;simp only[mX,nB,mN,mQ,mK]at h1 h2 h3;have e:(⟨#[32]⟩:Str).length=1:=rfl;rw[e]at h1;exact nG h1 (by lia)
theorem OT{q:Nat×Int}{c:Nat}(h:q.1<4)(hc:c∈(wtx q).cps.toList):c<200:=by
 unfold wtx at hc;split at hc
 ·have:c=97+q.1:=by simpa [ltr]using hc
  lia
 ·rw[jQ,jQ,List.append_assoc]at hc;rcases mS.mp hc with h | h
  ·have:c=97+q.1:=by simpa [ltr]using h
   lia
  ·rcases mS.mp h with h | h
   ·have:c=94:=by simpa using h
    lia
   ·have:=vW h;lia
theorem OZ{ae:Nat}{x:Trm}(h:TmOk ae x)(hm:ae<=4):PyData.strOk (ttx x)=true:=by
 unfold PyData.strOk;rw[<-Array.all_toList];refine List.all_eq_true.mpr λc hc=>mT ?_;rcases vH hc with h1 | ⟨y,hy,h1⟩
 ·have:c=32:=by simpa using h1
  lia
 ·rcases mY.mp hy with rfl | hy
  ·have:=yF h1;lia
  ·obtain⟨q,hq,rfl⟩:=nI.mp hy;have h2:=(uL hq).2.1;have:=OT (by have:=h.len;lia) h1
   lia
theorem YS{j c:Nat}(h:(Str.ofString "abcd").cps[j]? = some c):(⟨#[c]⟩:Str)=ltr j:=by
 have e:(Str.ofString "abcd").cps = #[97,98,99,100]:=by decide +kernel
 rw[e]at h
 match j,h with
 | 0,h=>cases Option.some.inj h;rfl
 | 1,h=>cases Option.some.inj h;rfl
 | 2,h=>cases Option.some.inj h;rfl
 | 3,h=>cases Option.some.inj h;rfl
 | n+4,h=>simp at h
theorem CS{H:Hp} :∀ss:List Str,DecVs H (ss.map V.str) (ss.map PyData.str)
 | []=>.nil
 | x::r=>.cons (.str x) (CS r)
theorem EY{ss:List Str}(h:∀y∈ss,PyData.strOk y=true):DataOk (.list (ss.map PyData.str)):=by
 have:∀l:List Str,(∀y∈l,PyData.strOk y=true)->PyData.canLayAll0 (l.map PyData.str)=true/\PyData.depthAll (l.map PyData.str)<=5:=by
  intro l;induction l with
  | nil=>exact λ_=>⟨by simp [PyData.canLayAll0],by simp [PyData.depthAll]⟩
  | cons x r ih=>
   intro h;have h1:=ih λy hy=>h y (gY _ hy);have h2:=h x (by simp);exact⟨by simp [PyData.canLayAll0,PyData.canLay0,h1.1,h2],by simp [PyData.depthAll,PyData.depth];lia⟩
 have h1:=this ss h;exact⟨by simp [PyData.canLay0,h1.1],by simp [PyData.depth];lia⟩
theorem JK(ss:List Str):PyData.eqv (.list (ss.map PyData.str)) (.list [])=ss.isEmpty:=by
 cases ss with
 | nil=>simp [PyData.eqv,PyData.eqvAll]
 | cons x r=>simp [PyData.eqv,PyData.eqvAll]
theorem WE(e:Ent)(r:List Ent):stx ((e::r).reverse.map Ent.tm)=Str.join ⟨#[32,43,32]⟩ ((e::r).map λe=>ttx e.tm):=by
 have h:stx ((e::r).reverse.map Ent.tm)=Str.join ⟨#[32,43,32]⟩ (((e::r).reverse.map Ent.tm).reverse.map ttx):=by
  cases q:(e::r).reverse.map Ent.tm with
  | nil=>simp at q
  | cons x y=>rfl
 rw[h,<-List.map_reverse,List.reverse_reverse,List.map_map]
 rfl
def spText:Sp:=λvs H Q _=>∃(d:Addr) (ae:Nat) (E:List Ent),vs=[.ref d]/\DE H d ae E/\1<=ae/\ae<=4/\∀(E':List Ent) (H':Hp),Same H H'->E'.Perm E->E'.Pairwise (λe e2=>LwD.kC e.ns e2.ns=true)->Q (.str (stx (E'.map Ent.tm))) H'
inductive TxI(H H2:Hp)(d l sl:Addr)(ys:List V)(E0:List Ent)(i:Nat):L2.St->Hp->Prop where
 | mk {u2 u3 u4 u5 u6 u7 u8:Option V} {H':Hp} (s:Same H H') (es:H' sl=some (.lst ys)) (kt:∀a xs,H2 a=some (.tup xs)->H' a=some (.tup xs)) (e:H' l=some (.lst (((E0.take i).map λe=>ttx e.tm).map V.str))) :
  TxI H H2 d l sl ys E0 i [some (.ref d),some (.ref l),u2,u3,u4,u5,u6,u7,u8] H'
inductive PtI(H:Hp)(d l b:Addr)(x:Trm)(j:Nat):L2.St->Hp->Prop where
 | mk {u6 u7 u8:Option V} {H':Hp} (s:Same H H'):PtI H d l b x j [some (.ref d),some (.ref l),some (.ref b),some (.int x.t),some (.int x.b),some (.str (ptx x j)),u6,u7,u8] H'
variable{P:Program}{w:World}{K:nW}{mg:Str->Option Value}{base:Heap}{f fd:_}
theorem scText:FnScope ["one","texts","powers","top","bottom","part","letter","power","some"] ["one"] (jJ MP):=scK (by decide +kernel)
theorem WX{fL:Addr}{fdL:FuncData}(F:Fun K "_law_text" "_law_text" MP f fd)(T:Txt mg)(DL:Df K mg "_law_low" FF ["top","bottom"] fL fdL):FnOk P w K mg base CX0 2 f fd ["one"] spText:=by
 have GL:FnOk P w K mg base CX0 1 fL fdL ["top","bottom"] spLow:=FO DL.F T;refine F.ok scText (λvs H Q E h=>?_) (λcdv A outer s H vs Q E hr h=>?_)
 ·obtain⟨d,ae,E',rfl,_⟩:=h
  rfl
 ·obtain⟨d,ae,EE,rfl,hD,m1,m4,go⟩:=h;have hu:_+1<cLine:=hV (Nat.add_le_add_left (by decide:1<=64) _) hr.units;refine⟨_,jB (jL (i:=1) scText.nd rfl (Or.inl rfl) (qE jD))
   (jB (qU PassesOwn.never rfl (zZ (LwD.TD rfl rfl (by rfl) T.sorted (jA (pv 0) jD) (WS xS pk_nil))) (jS (i:=2) scText.nd rfl (Or.inl rfl))
    (jB (vK (jT GL hr rfl DL.m DL.F.kp DL.b .nil kU (jA (kB kF (wY hu (pv 0) (pv 2) (λ_ _=>rfl)) jC (λ_ _=>rfl)) (jA (kB kF (wY hu (pv 0) (pv 2) (λ_ _=>rfl)) jC (λ_ _=>rfl)) jD))) (vS rfl (jZ (jS (i:=3) scText.nd rfl (Or.inl rfl)) (jZ (jS (i:=4) scText.nd rfl (Or.inl rfl)) qW))))
    (jB (jL (i:=5) scText.nd rfl (Or.inl rfl) (kP vN (by rfl) T.str boot_str (jA (pv 3) jD)))
    (jB (jX (jI yE (pv 4) jC (jR _)) (jE (jL (i:=5) scText.nd rfl (Or.inl rfl) (jH jP (jH jP (pv 5) jO) (kP vN (by rfl) T.str boot_str (jA (pv 4) jD))))) jM)
    (jB (qU PassesOwn.never rfl (NF (by rfl) T.zip (jA jO (jA (pv 2) jD))) (vS rfl (jZ (jS (i:=6) scText.nd rfl (Or.inl rfl)) (jZ (jS (i:=7) scText.nd rfl (Or.inl rfl)) qW)))
     (jB (jL (i:=8) scText.nd rfl (Or.inl rfl) (qE (jA jO (jA (jH jP jO (pv 6)) (jA (jH jP (jH jP (jH jP jO (pv 6)) jO) (kP vN (by rfl) T.str boot_str (jA (pv 7) jD))) jD)))))
     (jE (jL (i:=5) scText.nd rfl (Or.inl rfl) (jH jP (pv 5) (kB kX (pv 8) (jU (EK rfl) (by rfl) T.min JT (jA (pv 7) (jA jC jD))) (λ_ _=>rfl)))))))
    (jE (xH (qQ PySem.F.plainAttrs_list PySem.F.slot_list_append PySem.F.type_list_append qP (pv 1) (jA (pv 5) jD)))))))))
   (jB (jX (jI (KN hr.units) (pv 1) (qE jD) (jR _)) (jE (jK jO)) jM)
   (jE (jK (qQ PySem.F.plainAttrs_str PySem.F.slot_str_join PySem.F.type_str_join yR jO (jA (pv 1) jD)))))), ?_⟩
  try dsimp only[cxK]
  refine⟨gD,λl H1 n1 s1 e1=>?_⟩;have D1:=hD.same s1;refine⟨_,rfl,_,rfl,d,_,rfl,D1.at',by rw[mQ];exact hV hD.few (by decide),λp hp=>?_,λys zs pz ky pw sl H2 n2 s2 e2=>⟨sl,rfl,⟨ys,SqL.of e2⟩, ?_⟩⟩
  ·obtain⟨e,he,rfl⟩:=nI.mp hp;exact⟨e.ns,rfl,λz=>by have:=(hD.each e he).len;rw[z]at this;simp at this;lia⟩
  obtain⟨E0,pE,rfl⟩:=DV pz EE rfl;have pwE:E0.Pairwise (λe e2=>LwD.kC e2.ns e.ns=true):=by
   refine(List.pairwise_map.mp pw).imp fun {a b} h=>?_;have h':LwD.kC (LwD.qJ (LwD.ik b.ns)) (LwD.qJ (LwD.ik a.ns))=true:=h
   rwa [LwD.yH,LwD.yH]at h'
  have s12:Same H H2:=s1.trans s2;have ls:sl≠l:=λz=>by rw[z,e1]at n2;cases n2
  have yl:ys.length=E0.length:=by rw[ky.1,mQ]
  have l7:E0.length<=7:=by rw[pE.length_eq];exact hD.few
  have okE:∀e∈E0,TmOk ae e.tm:=λe he=>LL (hD.each e (pE.mem_iff.mp he)) (hD.k7 (pE.mem_iff.mp he));refine zS (K:=K) (a:=sl) (xs:=ys) (TxI H H2 d l sl ys E0) (.mk s12 e2 (λ_ _ e=>e) (s2 _ _ e1)) (λi σ H3 _ h=>?_) (λi y σ H3 hyi h=>?_) (fun σ H3 h=>?_)
  ·obtain⟨_,es,_,_⟩:=h;exact SqL.of es
  ·obtain⟨s3,es,kt,el⟩:=h;have hiy:i<ys.length:=(gI.mp hyi).1;have hie:i<E0.length:=by lia
   obtain⟨e,he⟩:∃e,E0[i]? = some e:=⟨E0[i],by simp [hie]⟩;obtain⟨b,ns,rfl,hb1,hk⟩:=ky.2 i y e.kv hyi (by rw[mE,he];rfl);have ens:e.ns=ns:=CK hk;subst ens;have eM:e∈E0:=gX he;have eE:e∈EE:=pE.mem_iff.mp eM;have D3:=hD.same s3;have hE:=D3.each e eE;have ok:=okE e eM;have hb3:H3 b=some (.tup (e.ns.map V.int)):=kt _ _ (s2 _ _ hb1);have g3:=D3.get eE hb3;have c3:=SqT.of (K:=K) hE.at';have k7:=hD.k7 eE;refine⟨_,rfl,_,rfl,d,_,rfl,g3,e.c,_,_,_,rfl,rfl,c3,rfl,_,rfl,_,rfl,d,_,rfl,g3,e.c,_,_,_,rfl,rfl,c3,rfl,e.t,e.b,rfl, ?_,.inl ?_,λr H4 n4 s4 e4=>?_⟩
   ·have:=hE.pos
    lia
   ·exact hV (AH hE.sb (show 97*e.k<=700 by lia)) (hJ (by decide) (by decide))
   refine⟨r,_,rfl,SqT.of e4,rfl,_,_,rfl,_,_,rfl,rfl, ?_⟩;have l1:=wJ ok.st (by decide) (by decide);have l2:=wJ ok.sb (by decide) (by decide);have t1:=xI (by decide) ok.t10;have t2:=xI (by decide) ok.b10;have hns:H4 b=some (.tup (e.tm.ns.map V.int)):=s4 _ _ hb3;have nl:(e.tm.ns.map V.int).length=ae:=by rw[mQ,ok.len]
   refine⟨_,rfl,_,rfl,l1, ?_⟩;dsimp only[qY];refine zD (t:=HP _ _ _) (PtI H4 d l b e.tm 0) (fun σ H5 h=>?_) (λgo2=>?_)
   ·obtain⟨s5⟩:=h;refine⟨_,rfl,_,b,rfl,(by decide +kernel),⟨_,SqT.of (s5 _ _ hns)⟩, ?_⟩;refine JH (w0:=Str.ofString "abcd") (ys:=e.tm.ns.map V.int) (PtI H4 d l b e.tm) (by rw[nl];exact m4) (.mk s5) (λj σ H6 _ h=>?_) (λj c v p σ H6 hc hv hp h=>?_) (fun σ H6 h=>?_)
    ·obtain⟨s6⟩:=h;exact SqT.of (s6 _ _ hns)
    ·obtain⟨s6⟩:=h;obtain⟨n,hn,rfl⟩:∃n,e.tm.ns[j]? = some n/\V.int n=v:=by
      rw[mE]at hv;cases q:e.tm.ns[j]? with
      | none=>rw[q]at hv;cases hv
      | some n=>rw[q]at hv;exact⟨n,rfl,Option.some.inj hv⟩
     have nb:=ok.le (gX hn);have ec:(⟨#[c]⟩:Str)=ltr j:=YS hc;rw[ec];refine⟨p,_,rfl,SqT.of jF,rfl,_,_,rfl,_,_,rfl,rfl, ?_⟩;have s7:Same H6 (upd H6 p (.tup [.str (ltr j),.int n])):=jW _ hp;have li:=xI (by decide) (AK nb.1 nb.2);have lp:=WQ ok m4 j;refine⟨_,rfl,_,_,rfl,rfl,(by show 1+1<=sizeLine;decide),_,rfl,_,_,rfl,rfl,(by show 1+1<=sizeLine;decide),_,_,rfl,rfl,(by show 1+1+1<=sizeLine;decide),_,rfl,n,rfl,wJ (k:=10) (by lia) (by decide) (by decide),_,_,rfl,rfl, ?_,(by show 3<=sizeLine;decide),λq H8 n8 s8 e8=>?_⟩
     ·show 1+1+1+(itx n).length<=sizeLine;exact nG (show _<=6 by lia) (by decide)
     have s48:=s6.trans (s7.trans s8);have pk:∃y:Str,atI ([V.str (Str.ofString ""),V.str (Str.ofString " "++ltr j),V.str (Str.ofString " "++ltr j++Str.ofString "^"++itx n)]) (if 2<n then 2 else n)=some (.str y)/\(ptx e.tm j).length+y.length<=sizeLine/\ptx e.tm j++y=ptx e.tm (j+1):=by
      rw[SX hn];rcases(by lia:n=0∨n=1∨1<n)with h | h | h
      ·subst h;exact⟨_,kY (j:=0) rfl,nG (show(ptx e.tm j).length+0<=1172 by lia) (by decide),by rw[nU (by decide)];exact Str.append_empty _⟩
      ·subst h;exact⟨_,kY (j:=1) rfl,nG (show(ptx e.tm j).length+2<=2471 by lia) (by decide),by rw[nV (by decide)];rfl⟩
      ·have e2:(if 2<n then 2 else n)=((2:Nat):Int):=by split<;>lia
       rw[e2];refine⟨_,kY (j:=2) rfl, ?_, ?_⟩
       ·rw[Str.length_append,Str.length_append,Str.length_append];exact nG (show(ptx e.tm j).length+(1+1+1+(itx n).length)<=2480 by lia) (by decide)
       ·rw[nV (by lia),show wtx (j,n)=ltr j++⟨#[94]⟩++itx n from nU (by show ¬n=1;lia)];rw[Str.append_assoc,Str.append_assoc,Str.append_assoc (ltr j)]
        rfl
     obtain⟨y,y1,y2,y3⟩:=pk;refine⟨_,rfl,_,rfl,_,rfl,n,2,rfl,q,_,_,_,rfl,rfl,SqL.of e8,y1,_,_,rfl,rfl,y2, ?_⟩;rw[y3];exact .mk s48
    ·obtain⟨s6⟩:=h;rw[nl,<-ok.len];have ep:ptx e.tm e.tm.ns.length=ttx e.tm:=by unfold ptx ttx;rw[mM]
     rw[ep];have el6:=s6 _ _ (s4 _ _ el);have few:(((E0.take i).map λe=>ttx e.tm).map V.str).length<sizeLine:=by
      rw[mQ,mQ,mK];exact hV (show _<=7 by lia) (by decide)
     refine⟨_,rfl,.inl ⟨rfl,_,SqL.of el6⟩,_,rfl,l,_,_,rfl,rfl,el6,few, ?_⟩;refine .mk (kT (s3.trans (s4.trans s6)) n1) ?_ (λa xs h=>FT el6 _ _ (s6 _ _ (s4 _ _ (kt _ _ h)))) ?_
     ·rw[jN ls];exact s6 _ _ (s4 _ _ es)
     ·rw[jF,mG,he,List.map_append,List.map_append]
      rfl
   ·refine⟨_,rfl,_,_,rfl,rfl,_,rfl, ?_⟩;have e0:ptx e.tm 0=ntx e.tm.t e.tm.b:=rfl;have mk0:∀(y:Str) (v6 v7 v8:Option V),y=ptx e.tm 0->PtI H4 d l b e.tm 0 [some (.ref d),some (.ref l),some (.ref b),some (.int e.tm.t),some (.int e.tm.b),some (.str y),v6,v7,v8] H4:=λy v6 v7 v8 hy=>by rw[hy];exact .mk (Same.refl _)
    by_cases hb:1<e.tm.b
    ·refine kQ (mT hb) ⟨_,rfl,_,_,rfl,rfl, ?_,_,rfl,_,rfl,l2,_,_,rfl,rfl, ?_,go2 _ _ (mk0 _ _ _ _ ?_)⟩
     ·show(itx e.tm.t).length+1<=sizeLine;exact nG (show _<=3000 by lia) (by decide)
     ·rw[Str.length_append];show(itx e.tm.t).length+1+(itx e.tm.b).length<=sizeLine;exact nG (show _<=3000 by lia) (by decide)
     ·rw[e0];exact(nU (show ¬e.tm.b=1 by lia)).symm
    ·refine kW (mR hb) (go2 _ _ (mk0 _ _ _ _ ?_));rw[e0];exact(nV (show e.tm.b=1 by have:=ok.pos;lia)).symm
  ·obtain⟨s3,es,kt,el⟩:=h;rw[yl,mM]at el;refine⟨_,rfl,gD,λz H4 n4 s4 e4=>?_⟩;have rv:E0.reverse.Perm EE:=(List.reverse_perm _).trans pE;have up:E0.reverse.Pairwise (λe e2=>LwD.kC e.ns e2.ns=true):=List.pairwise_reverse.mpr pwE;have fin:=go E0.reverse;have okS:∀y∈E0.map λe=>ttx e.tm,PyData.strOk y=true:=λy hy=>by
    obtain⟨e,he,rfl⟩:=nI.mp hy;exact OZ (okE e he) m4
   refine⟨_,_,.lst (s4 _ _ el) (CS _),.lst e4 .nil,EY okS,EY (ss:=[]) (λy h=>by cases h),_,rfl, ?_⟩;rw[JK];cases E0 with
   | nil=>exact kD (fin H4 (s3.trans s4) rv up)
   | cons e r=>
    refine qV ⟨rfl,_,rfl,⟨#[32,43,32]⟩,l,_,rfl,rfl,SqL.of (s4 _ _ el), ?_, ?_⟩
    ·refine FX (B:=1172) (λy hy=>?_) ?_
     ·obtain⟨z,hz,rfl⟩:=nI.mp hy;exact EU (okE z hz) m4
     ·have e3:(⟨#[32,43,32]⟩:Str).length=3:=rfl;rw[e3,mQ]
      lia
    ·have:=fin H4 (s3.trans s4) rv up;rw[WE]at this;exact this
end Lw
namespace Lw
open PySem PySem.Spec PyProof.Rows L2 LwS
def CW{α:Type}(xs:List α)(Pv:Nat->List V->Hp->Prop)(i m:Nat)(ys:List V)(H:Hp):Prop:=m=xs.length-i/\i<=xs.length/\Pv i ys H
theorem OO{α:Type}{xs:List α}{Pv:Nat->List V->Hp->Prop}{i m:Nat}{ys:List V}{H:Hp}{x:α}(h:xs[i]? = some x)(hm:m=xs.length-i)(q:Pv (i+1) ys H):∃m',m'<m/\CW xs Pv (i+1) m' ys H:=by
 have:=(gI.mp h).1;exact⟨_,by omega,rfl,this,q⟩
theorem LP{z:Str}{σ0:L2.St}{g:TG}{tt:TT}{te:TE}{Q:VK}{p:Addr}{H':Hp}(Pv:Nat->List V->Hp->Prop)(hz:z.length<sizeLine)(h0:Pv 0 [] H')
  (hl:∀i ys H2,Pv i ys H2->H2 p=some (.lst ys)/\ys.length<=i)
  (hs:∀i m ys c H2,z.cps.toList[i]? = some c->m=z.cps.toList.length-i->Pv i ys H2->g (.str ⟨#[c]⟩) σ0 H2 fun σ4 H4=>Keep σ0 σ4/\tt σ4 H4 λb H5=>if b=true then te σ4 H5 λy H6=>H6 p=some (.lst ys)/\∃m',m'<m/\CW z.cps.toList Pv (i+1) m' (ys++[y]) (upd H6 p (.lst (ys++[y])))else ∃m',m'<m/\CW z.cps.toList Pv (i+1) m' ys H5)
  (hd:∀ys H2,Pv z.length ys H2->Q (.ref p) H2):CompGoFI σ0 (Its z) g tt te Q p H':=by
 have el:=jG z;refine⟨CW z.cps.toList Pv,⟨_,rfl,nO _,h0⟩, ?_⟩;rintro i m ys H2 ⟨hm,hi,hp⟩;obtain⟨e,hy⟩:=hl i ys H2 hp;refine⟨e,by omega, ?_⟩;by_cases hlt:i<z.length
 ·refine .inr ⟨hlt, ?_⟩;rintro x H3 ⟨rfl,c,hc,rfl⟩;exact hs i m ys c _ hc hm hp
 ·obtain rfl:i=z.length:=by omega
  exact .inl ⟨nN _,hd ys H2 hp⟩
theorem XI(x:Str)(c:Nat):(Builtin.Str.occurrences x ⟨#[c]⟩ 0 x.length 1).isEmpty = !decide (c∈x.cps.toList):=by
 rcases StrLaws.occ_head x ⟨#[c]⟩ 1 gC with⟨h0,hn⟩ | ⟨i,r,h0,hA,_⟩
 ·rw[h0,mR]
  ·rfl
  ·intro hm;obtain⟨i,hi⟩:=gW.mp hm;obtain⟨hl,hg⟩:=gI.mp hi;refine hn i ⟨by rw[jG]at hl;exact hl, ?_⟩;rw[StrLaws.subAt_eq,List.drop_eq_getElem_cons hl,hg];exact beq_self_eq_true _
 ·rw[h0,mT (gX (ER (k:=0) (c:=c) hA rfl))]
  rfl
theorem YH(c:Nat):decide (c∈(Str.ofString "0123456789").cps.toList)=isD c:=by
 have e:(Str.ofString "0123456789").cps.toList=[48,49,50,51,52,53,54,55,56,57]:=by decide +kernel
 rw[e,Bool.eq_iff_iff,decide_eq_true_eq,isD_of];simp only[mY,mL,or_false];omega
theorem xJ(z w y:Str)(h:w=y):decide (V.str z=V.str w)=decide (z=y):=by
 subst h;exact decide_eq_decide.mpr ⟨λe=>by injection e,λe=>congrArg V.str e⟩
def optV:Option Int->V
 | none=>.non
 | some i=>.int i
def spFigs:Sp:=λvs H Q _=>∃(z:Str) (l:Int),vs=[.str z,.int l]/\Tx z/\∀H',Same H H'->Q (optV (vV z l)) H'
theorem WF{c:Nat}(h:c<128):PyData.strOk ⟨#[c]⟩=true:=by
 show([c]:List Nat).toArray.all (· < 0x110000)=true;rw[<-Array.all_toList];simp;omega
theorem XN:DataOk (.list []):=⟨by simp [PyData.canLay0,PyData.canLayAll0],by simp [PyData.depth,PyData.depthAll]⟩
variable{P:Program}{w:World}{K:nW}{mg:Str->Option Value}{base:Heap}{f fd:_}
theorem scFigs:FnScope ["word","least"] ["word","least"] (jJ HV):=scK (by decide +kernel)
theorem XE(F:Fun K "_law_figures" "_law_figures" HV f fd)(T:Txt mg):FnOk P w K mg base CX0 1 f fd ["word","least"] spFigs:=by
 refine F.ok scFigs (λvs H Q E h=>?_) (λcdv A outer s H vs Q E hr h=>?_)
 ·obtain⟨z,l,rfl,_⟩:=h
  rfl
 ·obtain⟨z,l,rfl,tz,go⟩:=h;refine⟨_,jB (jX (PW.pt (vB (jI vC (pv 0) jO (jR _)) (qT (jI (op_neD hr.units) (PY (own:=1) (idx:=[]) (N:=["sign"]) rfl rfl rfl (by decide +kernel) (by decide +kernel) (λ_ _ h=>nomatch h) (CL rfl) rfl (λ_ _ _ h=>nomatch h) (TC (pv 0)) (λC fp s2 H2=>(jS (i:=0) (show List.Nodup (["sign"]:List Str) by decide +kernel) rfl (Or.inl rfl))) (λC fp s2 H2=>jI (show OpR (jV _ ["sign"] _ _ C fp s2 H2) (compareOp .NotIn) _ from FM) (pv 0) jO rfl) (λC fp s2 H2=>pv 0)) (qE jD) (jR _))))) (jE (jK xC)) jM) (jB (jX (PW.pt (vB (PW.pt (KH (jI wZ (pv 0) jO (jR _)) (FJ (jI vC (kB LC (pv 0) jC (λ_ _=>rfl)) jO (jR _))))) (qT (jI zL (kP uV (by rfl) T.int boot_int (jA (pv 0) jD)) (pv 1) (jR _))))) (jE (jK xC)) jM) (jE (jK (kP uV (by rfl) T.int boot_int (jA (pv 0) jD))))), ?_⟩;try dsimp only[cxK]
  have zl:z.length<sizeLine:=hV tz.len (by decide);refine⟨_,rfl,rfl,_,rfl, ?_⟩;rw[MM];have fin:∀{H'},yY z.cps.toList=false->Same H H'->Q .non H':=fun {H'} hn s=>by
   have:=go H' s;unfold vV at this;rw[hn]at this;exact this
  by_cases h0:z.cps.toList.isEmpty=true
  ·refine kQ h0 ?_;exact fin (by unfold yY;rw[h0];rfl) (Same.refl _)
  refine kW (by simpa using h0) ?_;have a128:z.cps.all (· < 128)=true:=by
   rw[<-Array.all_toList];exact List.all_eq_true.mpr λc hc=>mT (tz.asc c hc)
  refine⟨_,rfl,z,rfl,a128,λl1 H1 n1 s1 e1=>?_⟩;refine LP (λi ys H2=>Same H H2/\H2 l1=some (.lst ys)/\ys=((z.cps.toList.take i).filter λc=>!isD c).map λc=>V.str ⟨#[c]⟩) zl ⟨s1,e1,rfl⟩ (λi ys H2 h=>⟨h.2.1, ?_⟩) ?_ ?_
  ·rw[h.2.2,mQ];have:=List.length_filter_le (λc=>!isD c) (z.cps.toList.take i);rw[mK]at this;omega
  ·rintro i m ys c H2 hc hm ⟨k1,k2,k3⟩;have ti:(z.cps.toList.take (i+1)).filter (λc=>!isD c)=(z.cps.toList.take i).filter (λc=>!isD c)++(if (!isD c)=true then [c]else []):=by
    rw[mG,hc,List.filter_append]
    congr 1
    show [c].filter _=_;rw[mP]
    rfl
   refine⟨NY,_,rfl,_,_,rfl,rfl,_,rfl, ?_⟩;rw[XI,YH,Bool.not_not];refine uE (λh=>⟨_,rfl,k2,OO hc hm ⟨kT k1 n1,jF, ?_⟩⟩) (λh=>OO hc hm ⟨k1,k2, ?_⟩)
   ·rw[ti,nV h,List.map_append,k3]
    rfl
   ·rw[ti,nU h,List.append_nil,k3]
  ·rintro ys H2 ⟨k1,k2,k3⟩;rw[<-jG,mM]at k3;have nn:=k3;refine⟨by show 0<=sizeLine;decide,λl2 H3 n3 s3 e3=>?_⟩;have k4:=s3 _ _ k2;rw[k3,show(λc:Nat=>V.str ⟨#[c]⟩)=V.str ∘ (λc:Nat=>(⟨#[c]⟩:Str))from rfl,<-List.map_map]at k4;refine⟨_,.list [],.lst k4 (CS _),.lst e3 .nil,EY (λy hy=>?_),XN,_,rfl, ?_⟩
   ·obtain⟨c,hc,rfl⟩:=nI.mp hy;exact WF (tz.asc c ((List.mem_filter.mp hc).1))
   rw[JK];have s03:=k1.trans s3;by_cases ha:z.cps.toList.all isD=true
   ·have fe:(z.cps.toList.filter λc=>!isD c)=[]:=List.filter_eq_nil_iff.mpr λc hc=>by simp [List.all_eq_true.mp ha c hc]
    rw[fe];have hn:yY z.cps.toList=true:=by unfold yY;rw[ha];simpa using h0
    have go:=go H3 s03;unfold vV at go;rw[nV hn]at go;have lD:=tz.run _ (List.infix_refl _) ha;have nm:LwI.Nml z.cps.toList (LwI.valD z.cps.toList:Int):=⟨_,λc hc=>isD_of.mp (List.all_eq_true.mp ha c hc),by simpa using h0,nG lD (by decide),.inl ⟨rfl,rfl⟩⟩;refine qV ?_;cases ez:z.cps.toList with
    | nil=>rw[ez]at h0;exact absurd rfl h0
    | cons a r=>
     have hd:(z.cps.toList.head? ==some 48)=decide (a=48):=by rw[ez,Bool.eq_iff_iff];simp
     rw[hd]at go;have e0:=xJ z (Str.ofString "0") ⟨#[48]⟩ rfl;have ea:decide (V.str ⟨#[a]⟩=V.str (Str.ofString "0"))=decide (a=48):=by
      rw[xJ _ (Str.ofString "0") ⟨#[48]⟩ rfl];exact decide_eq_decide.mpr ⟨λe=>by have:[a]=[48]:=congrArg (λs:Str=>s.cps.toList) e;injection this,λe=>by rw[e]⟩
     have rest:(!decide (z=⟨#[48]⟩)&&decide (a=48))=false->DQ (tOp (rI0 λi j=>V.bl (decide (i<j))) (tCB (λxs H Q=>∃(x:Str) (i:Int),xs=[V.str x]/\LwI.Nml x.cps.toList i/\Q (V.int i) H) (xG (kG 0) tNil)) (kG 1)) (L2.start ["word","least"] [V.str z,V.int l]) H3
       (λb H1=>if b=true then EX (tC V.non) { nx:=λx H'=>Q V.non H',rt:=Q } (L2.start ["word","least"] [V.str z,V.int l]) H1 else tNext { nx:=EX (tCB (λxs H Q=>∃(x:Str) (i:Int),xs=[V.str x]/\LwI.Nml x.cps.toList i/\Q (V.int i) H) (xG (kG 0) tNil)) { nx:=λx H'=>Q V.non H',rt:=Q },rt:=Q } (L2.start ["word","least"] [V.str z,V.int l]) H1):=λhk=>by
      rw[hk,Bool.false_or]at go;refine⟨_,rfl,_,_,rfl,nm,_,rfl,_,_,rfl,rfl,_,rfl, ?_⟩;by_cases hl:(LwI.valD z.cps.toList:Int)<l
      ·rw[mT hl]at go;exact kQ (mT hl) go
      ·rw[mR hl]at go;exact kW (mR hl) ⟨_,rfl,_,_,rfl,nm,go⟩
     refine⟨_,rfl,rfl,_,rfl, ?_⟩;rw[e0];by_cases hz:z=⟨#[48]⟩
     ·rw[mT hz];exact qV (rest (by rw[mT hz];rfl))
     ·rw[mR hz];refine kD ⟨_,rfl,_,0,a,rfl,rfl,nJ zl,by rw[ez];exact kY (j:=0) rfl,rfl,_,rfl, ?_⟩;rw[ea];by_cases ha:a=48
      ·rw[mT ha,mR hz]at go;rw[mT ha];exact kD go
      ·rw[mR ha];exact qV (rest (by rw[mR ha,Bool.and_false]))
   ·have hn:yY z.cps.toList=false:=by unfold yY;rw[Bool.eq_false_iff.mpr ha,Bool.and_false]
    have fe:(((z.cps.toList.filter λc=>!isD c).map λc=>(⟨#[c]⟩:Str)).isEmpty)=false:=by
     refine Bool.eq_false_iff.mpr λh=>ha ?_;rw[List.isEmpty_iff,List.map_eq_nil_iff,List.filter_eq_nil_iff]at h;exact List.all_eq_true.mpr λc hc=>by simpa using h c hc
    rw[fe];exact kD (fin hn s03)
end Lw
namespace LwS
open PySem PySem.Builtin.Str LwI
theorem yZ(x:Str)(k:Nat):(Txt.slice x none (some (k:Int))).cps.toList=x.cps.toList.take k:=by
 have key:∀m:Nat,m<=x.length->(StrLaws.sliceText x (some 0) (some (m:Int))).cps.toList=x.cps.toList.take m:=λm hm=>by
  have:=StrLaws.sliceText_nat x (a:=0) (b:=m) (nO _) hm;rw[Nat.sub_zero,List.drop_zero]at this;exact(congrArg (λs:Str=>s.cps.toList) this).trans rfl
 by_cases h:k<=x.length
 ·have e:Txt.slice x none (some (k:Int))=StrLaws.sliceText x (some 0) (some (k:Int)):=by
   unfold Txt.slice StrLaws.sliceText;rw[StrLaws.sliceIdx_none_lo]
  rw[e,key k h]
 ·have e:Txt.slice x none (some (k:Int))=StrLaws.sliceText x (some 0) (some (x.length:Int)):=by
   unfold Txt.slice StrLaws.sliceText;rw[PyProof.Rows.sliceIdx_hi_beyond _ (by lia),StrLaws.sliceIdx_none_lo]
  rw[e,key _ gC,gQ (by rw[jG];exact nN _),gQ (by rw[jG];lia)]
theorem wG(x:Str)(k:Nat):(Txt.slice x (some (k:Int)) none).cps.toList=x.cps.toList.drop k:=by
 by_cases h:k<=x.length
 ·exact wQ h
 ·have e:Txt.slice x (some (k:Int)) none=Txt.slice x (some (x.length:Int)) none:=by
   unfold Txt.slice;rw[PyProof.Rows.sliceIdx_lo_beyond _ (by lia)]
  rw[e,wQ gC,List.drop_eq_nil_of_le (by rw[jG];exact nN _),List.drop_eq_nil_of_le (by rw[jG];lia)]
theorem PM(z:Str):decide (Txt.slice z none (some 1)=⟨#[45]⟩)=neg z:=by
 have e:=yZ z 1;have e:(Txt.slice z none (some 1)).cps.toList=z.cps.toList.take 1:=e;unfold neg;cases ez:z.cps.toList with
 | nil=>
  rw[ez]at e;exact mR λh=>by rw[h]at e;cases e
 | cons a r=>
  rw[ez]at e;rw[Bool.eq_iff_iff,decide_eq_true_eq];refine⟨λh=>by rw[h]at e;injection e with e;rw[<-e];rfl,λh=>vJ ?_⟩;have:a=45:=by simpa using h
  rw[e,this]
  rfl
end LwS
namespace Lw
open PySem PySem.Spec PyProof.Rows L2 LwS
def spFr:Sp:=λvs H Q _=>∃z:Str,vs=[.str z]/\Tx z/\orX (lFr z) (λq=>∀p H',H p=none->Same H H'->At2 H' p q.1 q.2->Q (.ref p) H') (∀H',Same H H'->Q .non H')
theorem zX{v:V}{i:Nat}{k:TS}{D:Ends}{σ:L2.St}{H:Hp}(h:k D (σ.set i (some v)) H):yA (yO (tC v) (qY i)) k D σ H:=h
theorem gset{i:Nat}{v:V}{σ:L2.St}{H:Hp}{Q:L2.St->Hp->Prop}(h:Q (σ.set i (some v)) H):qY i v σ H Q:=h
theorem ne_low{t b:Int}(ht:1<=t)(hb:1<=b):LwT.lexNe [IT t b,IU t b] [t,b] = !decide (Int.gcd t b=1):=by
 obtain⟨e1,e2⟩:=AW (t:=t) (b:=b) (by lia);rw[e1,e2];show(if t/(Int.gcd t b:Int)=t then(if b/(Int.gcd t b:Int)=b then(0 != 0)else true)else true)=_;have g1:=LwM.AZ t b (by lia);by_cases h:Int.gcd t b=1
 ·rw[h];simp
 ·rw[mR h];have g2:2<=(Int.gcd t b:Int):=by lia
  have:t/(Int.gcd t b:Int)≠t:=λz=>by
   have:=Int.ediv_mul_cancel (Int.gcd_dvd_left t b);rw[z]at this;have h2:t*2<=t*(Int.gcd t b:Int):=Int.mul_le_mul_of_nonneg_left g2 (by lia)
   lia
  rw[nU this]
  rfl
variable{P:Program}{w:World}{K:nW}{mg:Str->Option Value}{base:Heap}{f fd:_}
theorem scFr:FnScope ["word","sign","two","bottom","top"] ["word"] (jJ AQ):=scK (by decide +kernel)
theorem ok_fr(F:Fun K "_law_fraction_read" "_law_fraction_read" AQ f fd)(T:Txt mg)(GF:DG P w K mg base 1 "_law_figures" HV ["word","least"] spFigs)(GL:DG P w K mg base 1 "_law_low" FF ["top","bottom"] spLow) :
 FnOk P w K mg base CX0 2 f fd ["word"] spFr:=by
 refine F.ok scFr (λvs H Q E h=>?_) (λcdv A outer s H vs Q E hr h=>?_)
 ·obtain⟨z,rfl,_⟩:=h
  rfl
 ·obtain⟨z,rfl,tz,go⟩:=h;refine⟨_,jB (jL (i:=1) scFr.nd rfl (Or.inl rfl) (jC)) (jB (jX (jI vC (kN xB (pv 0) qC (kR jC)) jO (jR _)) (jB (jL (i:=1) scFr.nd rfl (Or.inl rfl) (wX yM jC)) (jE (jL (i:=0) scFr.nd rfl (Or.inl rfl) (kN xB (pv 0) (kR jC) qC)))) jM) (jB (jL (i:=2) scFr.nd rfl (Or.inl rfl) (qQ PySem.F.plainAttrs_str PySem.F.slot_str_split PySem.F.type_str_split yG (pv 0) (jA jO jD))) (jB (jL (i:=3) scFr.nd rfl (Or.inl rfl) (jC)) (jB (jX (jI vC (jU kL (by rfl) T.len PySem.boot_len (jA (pv 2) jD)) jC (jR _)) (jE (jL (i:=3) scFr.nd rfl (Or.inl rfl) (cal GF hr (jA (kB kX (pv 2) jC (λ_ _=>rfl)) (jA jC jD))))) jM) (jB (jL (i:=4) scFr.nd rfl (Or.inl rfl) (cal GF hr (jA (kB kX (pv 2) jC (λ_ _=>rfl)) (jA jC jD)))) (jB (jX (PW.pt (vB (jI yE (jU kL (by rfl) T.len PySem.boot_len (jA (pv 2) jD)) jC (jR _)) (vB (zI (uT (pv 4))) (vB (zI (uT (pv 3))) (qT (jI (LwT.op_neT hr.units0) (cal GL hr (jA (pv 4) (jA (pv 3) jD))) (qD (jA (pv 4) (jA (pv 3) jD))) (jR _))))))) (jE (jK xC)) jM) (jE (jK (qD (jA (jH xE (pv 1) (pv 4)) (jA (pv 3) jD))))))))))), ?_⟩
  try dsimp only[cxK]
  refine zX ?_;have tu:Tx (vY z):=tz.sub (by rw[zT];exact yL z);refine zD (t:=HP _ _ _) (fun σ H'=>σ=[some (.str (vY z)),some (.int (if neg z then -1 else 1)),none,none,none]/\H'=H) (fun σ H' h=>?_) (λgo2=>?_);case refine_2=>
   refine⟨_,rfl,_,rfl,_,rfl,nG tz.len (by decide),rfl,_,rfl, ?_⟩;rw[xJ _ (Str.ofString "-") ⟨#[45]⟩ rfl,PM];by_cases hn:neg z=true
   ·refine kQ hn ⟨_,rfl,_,rfl,_,rfl,_,rfl,nG tz.len (by decide),go2 _ _ ⟨?_,rfl⟩⟩;unfold vY;rw[nV hn,nV hn]
    rfl
   ·refine kW (by simpa using hn) (go2 _ _ ⟨?_,rfl⟩);unfold vY;rw[nU hn,nU hn]
    rfl
  obtain⟨rfl,hH⟩:=h;rw[hH];obtain⟨a,ps,es⟩:=qS (vY z) ⟨#[47]⟩;have tp:∀p∈a::ps,Tx p:=λp hp=>tu.sub (kS (y:=⟨#[47]⟩) (by rw[es];exact hp));refine⟨_,rfl,rfl,_,_,rfl,rfl,rfl,nG (Nat.add_le_add_right tu.len 2) (by decide),λl H1 n1 s1 e1=>?_⟩;rw[show Txt.split (vY z) (Str.ofString "/")=a::ps from es]at e1;refine gset ?_;dsimp only;refine zX ?_;obtain⟨hlF,tlF⟩:vV ((a::ps).headD Str.empty) 1=vV a 1/\(a::ps).headD Str.empty=a:=⟨rfl,rfl⟩;have go:orX (match vV a 1,IY (a::ps)with
   | some t,some b=>if (a::ps).length<=2/\Int.gcd t b=1 then some (if neg z then -t else t,b)else none
   | _,_=>none) (λq=>∀p H',H p=none->Same H H'->At2 H' p q.1 q.2->Q (.ref p) H') (∀H',Same H H'->Q .non H'):=by
   unfold lFr at go;rw[es]at go;exact go
  refine zD (t:=HP _ _ _) (fun σ H'=>σ=[some (.str (vY z)),some (.int (if neg z then -1 else 1)),some (.ref l),some (optV (IY (a::ps))),none]/\Same H1 H') (fun σ H2 h=>?_) (λgo2=>?_);case refine_2=>
   refine⟨_,rfl,l,_,rfl,.inl (SqL.of e1),rfl,_,rfl, ?_⟩
   match ps,tp,e1,go2 with
   | [],_,_,go2=>exact kW (mR λh=>by injection h with h;simp at h) (go2 _ _ ⟨rfl,Same.refl _⟩)
   | [c],tp,e1,go2=>
    refine kQ (mT rfl) ⟨_,rfl,l,_,1,_,rfl,rfl,SqL.of e1,kY (j:=1) rfl,c,2,rfl,tp c (by simp),λH2 s2=>?_⟩;exact go2 _ _ ⟨rfl,s2⟩
   | c::d::r,_,_,go2=>
    refine kW (mR λh=>?_) (go2 _ _ ⟨?_,Same.refl _⟩)
    ·injection h with h
     simp at h
     lia
    ·have:IY (a::c::d::r)=some 1:=nU (by simp);rw[this]
     rfl
  obtain⟨rfl,s2⟩:=h;refine⟨_,rfl,l,_,0,_,rfl,rfl,SqL.of (s2 _ _ e1),kY (j:=0) rfl,a,1,rfl,tp a (by simp),λH3 s3=>?_⟩;have s03:=s1.trans (s2.trans s3);refine⟨_,rfl,l,_,rfl,.inl (SqL.of (s3 _ _ (s2 _ _ e1))),_,_,rfl,rfl,_,rfl, ?_⟩;have out:(∀q,(match vV a 1,IY (a::ps)with
   | some t,some b=>if (a::ps).length<=2/\Int.gcd t b=1 then some (if neg z then -t else t,b)else none
   | _,_=>none)≠some q)->∀H',Same H H'->Q .non H':=λhn H' s=>by
   generalize (match vV a 1,IY (a::ps)with
    | some t,some b=>if (a::ps).length<=2/\Int.gcd t b=1 then some (if neg z then -t else t,b)else none
    | _,_=>none)=o at go hn
   cases o with
   | none=>exact go H' s
   | some q=>exact absurd rfl (hn q)
  rw[mQ];by_cases h2:2<(a::ps).length
  ·refine kQ (mT (by lia)) (out (λq hq=>?_) H3 s03);split at hq
   ·rw[nU λz=>by lia]at hq;cases hq
   ·cases hq
  refine kW (mR (by lia)) ?_;cases ea:vV a 1 with
  | none=>
   refine⟨_,rfl,_,rfl,kQ (mT rfl) (out (λq hq=>?_) H3 s03)⟩;rw[ea]at hq;cases hq
  | some t=>
   refine⟨_,rfl,_,rfl,kW (mR λh=>nomatch h) ?_⟩;cases eb:IY (a::ps)with
   | none=>
    refine⟨_,rfl,_,rfl,kQ (mT rfl) (out (λq hq=>?_) H3 s03)⟩;rw[ea,eb]at hq;cases hq
   | some b=>
    refine⟨_,rfl,_,rfl,kW (mR λh=>nomatch h) ?_⟩;have t1:=(yJ ea).2.1;have tz':=JJ (tp a (by simp)) ea;have b1:1<=b/\b.natAbs<2^1900:=by
     unfold IY at eb;split at eb
     ·rename_i hl;obtain⟨c,rfl⟩:∃c,ps=[c]:=by
       match ps,hl with
       | [c],_=>exact⟨c,rfl⟩
      have eb:vV c 2=some b:=eb;have:=(yJ eb).2.1;exact⟨by lia,JJ (tp c (by simp)) eb⟩
     ·injection eb with eb
      rw[<-eb];exact⟨by decide,by decide +kernel⟩
    rw[ea,eb]at go;dsimp only at go;refine⟨_,rfl,_,rfl,t,b,rfl,by lia,.inl (Nat.lt_trans b1.2 (hJ (by decide) (by decide))),λp1 H4 n4 s4 e4=>?_⟩;refine⟨_,rfl,_,rfl,gF,λp2 H5 n5 s5 e5=>⟨p1,p2,[_,_],[_,_],rfl,rfl,SqT.of (s5 _ _ e4),SqT.of e5,_,rfl, ?_⟩⟩;rw[ne_low t1 b1.1];have s05:=s03.trans (s4.trans s5);by_cases hg:Int.gcd t b=1
    ·rw[nV ⟨by lia,hg⟩]at go;refine kW (by rw[mT hg];rfl) ?_;have go:∀p H',H p=none->Same H H'->At2 H' p (if neg z then -t else t) b->Q (.ref p) H':=go;refine⟨_,rfl,_,rfl,_,_,rfl,rfl,.inl (by split<;>decide),_,rfl,gF,λp3 H6 n6 s6 e6=>?_⟩;refine go p3 H6 (s05.free n6) (s05.trans s6) ?_;rw[At2,e6];by_cases hn:neg z=true
     ·rw[nV hn,nV hn];show some (HO.tup [V.int (-1*t),V.int b])=_;rw[show(-1:Int)*t = -t by lia]
     ·rw[nU hn,nU hn];show some (HO.tup [V.int (1*t),V.int b])=_;rw[Int.one_mul]
    ·rw[nU λh=>hg h.2]at go;exact kQ (by rw[mR hg];rfl) (go H5 s05)
def spPwR:Sp:=λvs H Q _=>∃(a:Addr) (ae:Nat) (ws:List Str),vs=[.ref a,.int ae]/\H a=some (.lst (ws.map V.str))/\(∀w∈ws,Tx w)/\1<=ae/\ae<=4/\
 orX (lPw ae ws) (λns=>∀p H',H p=none->Same H H'->H' p=some (.tup (ns.map V.int))->Q (.ref p) H') (∀H',Same H H'->Q .non H')
theorem RE{ae:Nat}(m4:ae<=4):(Txt.slice (Str.ofString "abcd") none (some (ae:Int))).cps.toList=(List.range ae).map (97 + ·):=by
 rw[yZ];have e:(Str.ofString "abcd").cps.toList=[97,98,99,100]:=by decide +kernel
 rw[e]
 match ae,m4 with
 | 0,_=>rfl
 | 1,_=>rfl
 | 2,_=>rfl
 | 3,_=>rfl
 | 4,_=>rfl
theorem YG{ae:Nat}(m4:ae<=4)(w:Str):Txt.find (Txt.slice (Str.ofString "abcd") none (some (ae:Int))) (Txt.slice w none (some 1))=lAt ae w:=by
 have ex:=RE m4;generalize Txt.slice (Str.ofString "abcd") none (some (ae:Int))=x at ex;have ey:(Txt.slice w none (some 1)).cps.toList=w.cps.toList.take 1:=yZ w 1;generalize Txt.slice w none (some 1)=y at ey;have lx:x.length=ae:=by rw[<-jG,ex];simp
 unfold lAt;cases ew:w.cps.toList with
 | nil=>
  rw[ew]at ey;have hy:y=Str.empty:=vJ ey;subst hy;have h0:StrLaws.At x Str.empty x.length 0:=⟨nO _,by rw[StrLaws.subAt_eq];rfl⟩;rcases PyProof.Rows.find_whole x Str.empty with⟨_,hn⟩ | ⟨i,hi,_,hk⟩
  ·exact absurd h0 (hn 0)
  ·have:i=0:=by
    by_cases z:i=0
    ·exact z
    ·exact absurd h0 (hk 0 (by lia))
   rw[hi,this]
   rfl
 | cons c r=>
  rw[ew]at ey;have hy:y=⟨#[c]⟩:=vJ ey;subst hy;dsimp only;have key:∀i,StrLaws.At x ⟨#[c]⟩ x.length i->i<ae/\c=97+i:=λi h=>by
   have:=ER (k:=0) (c:=c) h rfl;rw[ex,mE,nK]at this;obtain⟨j,hj,e⟩:=Option.map_eq_some_iff.mp this;obtain⟨h1,h2⟩:=gI.mp hj;rw[List.getElem_range]at h2;rw[List.length_range]at h1;exact⟨h1,by lia⟩
  rcases PyProof.Rows.find_whole x ⟨#[c]⟩with⟨h1,hn⟩ | ⟨i,hi,hA,_⟩
  ·rw[h1,nU];rintro⟨g1,g2⟩;refine hn (c-97) ⟨by rw[lx];show c-97+1<=ae;lia, ?_⟩;have hl:c-97<x.cps.toList.length:=by rw[jG,lx];lia
   have hg:x.cps.toList[c-97]? = some c:=by
    rw[ex,mE,List.getElem?_range (by lia)];show some (97+(c-97))=_
    congr 1
    lia
   rw[StrLaws.subAt_eq,List.drop_eq_getElem_cons hl,(gI.mp hg).2];exact beq_self_eq_true _
  ·obtain⟨g1,g2⟩:=key i hA;rw[hi,nV ⟨by lia,by lia⟩]
   lia
theorem at_lt{ae:Nat}{w:Str}(h:w≠Str.empty)(h2: -1<lAt ae w):0<=lAt ae w/\lAt ae w<ae:=by
 unfold lAt at *;cases e:w.cps.toList with
 | nil=>exact absurd (vJ e) h
 | cons c r=>
  rw[e]at h2;dsimp only at *;by_cases hc:97<=c/\c<97+ae
  ·rw[nV hc];lia
  ·rw[nU hc]at h2;lia
inductive PrI(H:Hp)(a l:Addr)(ae:Nat)(ws:List Str)(i:Nat):L2.St->Hp->Prop where
 | mk {u v x:Option V} {H':Hp} {ps:List Int} {last:Int} (s:Same H H') (e:H' l=some (.lst (ps.map V.int))) (n:lPs ae ws (-1) (List.replicate ae 0)=lPs ae (ws.drop i) last ps) (hl:ps.length=ae) (h1: -1<=last):PrI H a l ae ws i [some (.ref a),some (.int ae),some (.ref l),some (.int last),u,v,x] H'
theorem scPwR:FnScope ["words","many","powers","last","word","at","power"] ["words","many"] (jJ AO):=scK (by decide +kernel)
theorem ok_pwr(F:Fun K "_law_powers_read" "_law_powers_read" AO f fd)(T:Txt mg)(GF:DG P w K mg base 1 "_law_figures" HV ["word","least"] spFigs):FnOk P w K mg base CX0 2 f fd ["words","many"] spPwR:=by
 refine F.ok scPwR (λvs H Q E h=>?_) (λcdv A outer s H vs Q E hr h=>?_)
 ·obtain⟨a,ae,ws,rfl,_⟩:=h
  rfl
 ·obtain⟨a,ae,ws,rfl,ha,tw,m1,m4,go⟩:=h;refine⟨_,jB (jL (i:=2) scPwR.nd rfl (Or.inl rfl) (jH KM (qE (jA jC jD)) (pv 1))) (jB (jL (i:=3) scPwR.nd rfl (Or.inl rfl) (wX yM jC)) (jB (qU PassesOwn.never rfl (zZ (pv 0)) (jS (i:=4) scPwR.nd rfl (Or.inl rfl)) (jB (jL (i:=5) scPwR.nd rfl (Or.inl rfl) (qQ PySem.F.plainAttrs_str PySem.F.slot_str_find PySem.F.type_str_find XS (kN xB jO qC (kR (pv 1))) (jA (kN xB (pv 4) qC (kR jC)) jD))) (jB (jX (PW.pt (vB (jI vC (pv 4) jO (jR _)) (qT (jI YX (pv 5) (pv 3) (jR _))))) (jE (jK xC)) jM) (jB (jL (i:=6) scPwR.nd rfl (Or.inl rfl) (jC)) (jB (jX (jI yE (jU qN (by rfl) T.len PySem.boot_len (jA (pv 4) jD)) jC (jR _)) (jB (jL (i:=6) scPwR.nd rfl (Or.inl rfl) (xC)) (jE (jX (PW.pt (KH (jI vC (kB LC (pv 4) jC (λ_ _=>rfl)) jO (jR _)) (FJ (jI zL (jU qN (by rfl) T.len PySem.boot_len (jA (pv 4) jD)) jC (jR _))))) (jE (jL (i:=6) scPwR.nd rfl (Or.inl rfl) (cal GF hr (jA (kN xB (pv 4) (kR jC) qC) (jA jC jD))))) jM))) jM) (jB (jX (zI (uT (pv 6))) (jE (jK xC)) jM) (jB (vK (pv 6) (wI (pv 2) (pv 5) vZ)) (jE (jL (i:=3) scPwR.nd rfl (Or.inl rfl) (pv 5)))))))))) (jB (jX (jI yE (jU (EJ rfl) (by rfl) T.sum boot_sum (jA (pv 2) jD)) jC (jR _)) (jE (jK xC)) jM) (jE (jK (kP vE (by rfl) T.tup boot_tuple (jA (pv 2) jD))))))), ?_⟩
  try dsimp only[cxK]
  refine⟨gE,λz0 H3 n3 s3 e3=>⟨_,rfl,z0,ae,[.int 0],rfl,rfl,e3,by lia,by lia, ?_,λl nl=>?_⟩⟩
  ·show 1*(ae:Int).toNat<=sizeLine;exact nG (show 1*(ae:Int).toNat<=4 by lia) (by decide)
  have hl0:(List.replicate (ae:Int).toNat [V.int 0]).flatten=(List.replicate ae (0:Int)).map V.int:=by simp
  rw[hl0];have nl0:H l=none:=s3.free nl;have s4:Same H (upd H3 l (.lst ((List.replicate ae (0:Int)).map V.int))):=kT s3 nl0;unfold lPw at go;refine⟨_,rfl,_,rfl,a,rfl,⟨_,SqL.of (s4 _ _ ha)⟩, ?_⟩;refine zS (K:=K) (a:=a) (xs:=ws.map V.str) (PrI H a l ae ws) (.mk s4 jF rfl (by simp) (by decide)) (λi σ H5 _ h=>?_) (λi v σ H5 hv h=>?_) (fun σ H5 h=>?_)
  ·obtain⟨s5,_,_,_,_⟩:=h;exact SqL.of (s5 _ _ ha)
  ·obtain⟨s5,e5,hps,hl,hla⟩:=h;rename_i u0 v0 x0 ps last;rw[mE]at hv;obtain⟨y,hy,rfl⟩:=Option.map_eq_some_iff.mp hv;have ty:=tw y (gX hy);obtain⟨hi,gi⟩:=gI.mp hy;have ed:lPs ae (ws.drop i) last ps=(if y=Str.empty∨lAt ae y<=last then none else match CG y with | none=>none | some p=>lPs ae (ws.drop (i+1)) (lAt ae y) (ps.set (lAt ae y).toNat p)):=by
    rw[List.drop_eq_getElem_cons hi,gi]
    rfl
   rw[ed]at hps;have yl:y.length<=sizeLine:=nG ty.len (by decide);have bad:∀H',Same H H'->lPs ae ws (-1) (List.replicate ae 0)=none->Q .non H':=λH' s e=>by
    rw[e]at go;exact go H' s
   have abl:(Str.ofString "abcd").length<=sizeLine:=by decide
   refine⟨_,rfl,_,rfl,_,rfl,abl,rfl,_,rfl,_,rfl,_,rfl,yl,_,_,rfl,rfl, ?_⟩;rw[YG m4];refine⟨_,rfl,rfl,_,rfl, ?_⟩;rw[xJ y (Str.ofString "") Str.empty rfl];by_cases hy0:y=Str.empty
   ·rw[nV (.inl hy0)]at hps;exact kQ (mT hy0) (bad H5 s5 hps)
   refine kW (mR hy0) ⟨_,rfl,_,rfl,_,_,rfl,rfl,_,rfl, ?_⟩;by_cases hla2:lAt ae y<=last
   ·rw[nV (.inr hla2)]at hps;exact kQ (mT hla2) (bad H5 s5 hps)
   rw[nU λz=>z.elim hy0 hla2]at hps;refine kW (mR hla2) ?_;obtain⟨a0,am⟩:=at_lt hy0 (show -1<lAt ae y by lia);dsimp only[tNext];refine zX ?_;refine zD (t:=HP _ _ _) (fun σ H'=>σ=[some (.ref a),some (.int ae),some (.ref l),some (.int last),some (.str y),some (.int (lAt ae y)),some (optV (CG y))]/\Same H5 H') (fun σ H6 h=>?_) (λgo2=>?_);case refine_2=>
    refine⟨_,rfl,_,rfl,yl,_,_,rfl,rfl,_,rfl, ?_⟩;by_cases h1:y.length<=1
    ·refine kW (mR (by lia)) (go2 _ _ ⟨?_,Same.refl _⟩);have:CG y=some 1:=nV h1;rw[this]
     rfl
    refine kQ (mT (by lia)) ?_;refine zX ?_;have l1:1<y.cps.toList.length:=by rw[jG];lia
    have g1:y.cps.toList[1]? = some y.cps.toList[1]:=gK l1;generalize y.cps.toList[1]=c at g1;have ep:CG y=if c=94/\y.length<5 then vV (Txt.slice y (some 2) none) 2 else none:=by
     unfold CG;rw[nU h1,g1];by_cases hk:c=94/\y.length<5
     ·rw[nV hk,nV ⟨by rw[hk.1],hk.2⟩]
     ·rw[nU hk,nU λz=>hk ⟨by have:=z.1;injection this,z.2⟩]
    rw[ep]at go2;refine⟨_,rfl,_,1,c,rfl,rfl,yl,kY (j:=1) g1,rfl,_,rfl, ?_⟩;have ec:decide (V.str ⟨#[c]⟩=V.str (Str.ofString "^"))=decide (c=94):=by
     rw[xJ _ (Str.ofString "^") ⟨#[94]⟩ rfl];exact decide_eq_decide.mpr ⟨λe=>by have:[c]=[94]:=congrArg (λs:Str=>s.cps.toList) e;injection this,λe=>by rw[e]⟩
    rw[ec];by_cases hc:c=94
    ·rw[mT hc];refine kD ⟨_,rfl,_,rfl,yl,_,_,rfl,rfl,_,rfl, ?_⟩;by_cases h5:y.length<5
     ·rw[nV ⟨hc,h5⟩]at go2;refine kQ (mT (by lia)) ⟨_,rfl,_,rfl,_,rfl,yl,_,2,rfl,ty.sub ?_,λH6 s6=>go2 _ _ ⟨rfl,s6⟩⟩;rw[KE (by lia)];exact(List.drop_suffix 2 _).isInfix
     ·rw[nU λz=>h5 z.2]at go2;exact kW (mR (by lia)) (go2 _ _ ⟨rfl,Same.refl _⟩)
    ·rw[mR hc];rw[nU λz=>hc z.1]at go2;exact qV (go2 _ _ ⟨rfl,Same.refl _⟩)
   obtain⟨rfl,s6⟩:=h;cases ep:CG y with
   | none=>
    rw[ep]at hps;exact⟨_,rfl,_,rfl,kQ (mT rfl) (bad H6 (s5.trans s6) hps)⟩
   | some p=>
    rw[ep]at hps;refine⟨_,rfl,_,rfl,kW (mR λh=>nomatch h) ?_⟩;obtain⟨k,hk⟩:∃k:Nat,lAt ae y=(k:Int):=⟨(lAt ae y).toNat,by lia⟩;rw[hk,mJ]at hps;rw[hk];have ix:ixN ((ps.map V.int).length) (k:Int)=some k:=by
     unfold ixN;rw[nV (by lia),nV (by rw[mQ];lia)];simp
    refine⟨_,rfl,_,rfl,_,rfl,l,_,(k:Int),k,rfl,rfl,s6 _ _ e5,ix,_,rfl, ?_⟩;exact .mk (ps:=ps.set k p) (kT (s5.trans s6) nl0) (by rw[jF,List.map_set];rfl) hps (by rw[List.length_set];exact hl) (by lia)
  ·obtain⟨s5,e5,hps,hl,hla⟩:=h;rename_i u0 v0 x0 ps last;rw[mQ,List.drop_length]at hps;have hps:lPs ae ws (-1) (List.replicate ae 0)=some ps:=hps;rw[hps]at go;refine⟨_,rfl,l,ps,rfl,.inr (SqL.of e5),_,_,rfl,rfl,_,rfl, ?_⟩;have go:orX (if 16<ps.sum then none else some ps) (λns=>∀p H',H p=none->Same H H'->H' p=some (.tup (ns.map V.int))->Q (.ref p) H') (∀H',Same H H'->Q .non H'):=go;by_cases h16:16<ps.sum
   ·rw[nV h16]at go;exact kQ (mT h16) (go H5 s5)
   ·rw[nU h16]at go;refine kW (mR h16) ⟨_,rfl,l,_,rfl,.inl ⟨SqL.of e5,λp np=>?_⟩⟩;exact go p _ (s5.free np) (s5.trans (jW _ np)) jF
open LwQ
def KvT(H:Hp)(p:List Key×V)(x:Trm):Prop:=∃c,p=(LwD.ik x.ns,.ref c)/\At2 H c x.t x.b
theorem KvT.map{H H':Hp}{p:List Key×V}{x:Trm}(h:KvT H p x)(k:∀a xs,H a=some (.tup xs)->H' a=some (.tup xs)):KvT H' p x:=by
 obtain⟨c,e,h⟩:=h;exact⟨c,e,k _ _ h⟩
def spLRead:Sp:=λvs H Q _=>∃(ae:Nat) (z:Str),vs=[.str z,.int ae]/\1<=ae/\ae<=4/\z.length<=100000/\(z.length<=4000->Tx z)/\
 orX (lrA ae z) (λus=>∀d H' ai,H d=none->Same H H'->H' d=some (.dT ai)->Paired (KvT H') ai us->Q (.ref d) H') (∀H',Same H H'->Q .non H')
def LastV(H:Hp)(ae:Nat):Option (List Int)->V->Prop
 | none,v=>v=.non
 | some ns,v=>∃b,v=.ref b/\H b=some (.tup (ns.map V.int))/\ns.length=ae
theorem LastV.map{H H':Hp}{ae:Nat}{o:Option (List Int)}{v:V}(h:LastV H ae o v)(k:∀a xs,H a=some (.tup xs)->H' a=some (.tup xs)):LastV H' ae o v:=by
 cases o with
 | none=>exact h
 | some ns=>
  obtain⟨b,e,h,l⟩:=h;exact⟨b,e,k _ _ h,l⟩
inductive LrI(H:Hp)(z:Str)(ae:Nat)(d a:Addr)(ps:List Str)(i:Nat):L2.St->Hp->Prop where
 | mk {u4 u5 u6 u7:Option V} {H':Hp} {ai:List (List Key×V)} {xs:List Trm} {last:Option (List Int)} {v:V} (s:Same H H') (ea:H' a=some (.lst (ps.map V.str))) (e:H' d=some (.dT ai)) (p:Paired (KvT H') ai xs) (n:xs.length<=i) (lv:LastV H' ae last v)
  (q:lTs ae ps none=(lTs ae (ps.drop i) last).map (xs++·)) (low:∀x∈xs,∃l,last=some l/\(x.ns=l∨LwD.kC l x.ns=true)):LrI H z ae d a ps i [some (.str z),some (.int ae),some (.ref d),some v,u4,u5,u6,u7] H'
theorem IV(a:List Int):LwD.kC a a=false:=by
 by_cases h:LwD.kC a a=true
 ·exact LwD.uB _ _ h
 ·exact Bool.eq_false_iff.mpr h
theorem XX{ae:Nat}{ws:List Str}{ns:List Int}(h:lPw ae ws=some ns):ns.length=ae:=by
 unfold lPw at h;split at h
 ·cases h
 ·rename_i ns' e3;split at h
  ·cases h
  ·injection h with h
   subst h;exact(CF ws (-1) _ ns' 0 rfl (nO _) (gT ..) (λi _ hi=>by rw[List.getElem?_replicate,nV hi]) e3).1
theorem scLR:FnScope ["text","many","found","last","part","words","number","powers"] ["text","many"] (jJ FH):=scK (by decide +kernel)
theorem TV(F:Fun K "_law_read" "_law_read" FH f fd)(T:Txt mg)(GN:DG P w K mg base 2 "_law_fraction_read" AQ ["word"] spFr)(GP:DG P w K mg base 2 "_law_powers_read" AO ["words","many"] spPwR) :
 FnOk P w K mg base CX0 3 f fd ["text","many"] spLRead:=by
 refine F.ok scLR (λvs H Q E h=>?_) (λcdv A outer s H vs Q E hr h=>?_)
 ·obtain⟨ae,z,rfl,_⟩:=h
  rfl
 ·obtain⟨ae,z,rfl,m1,m4,zl,tz,go⟩:=h;have hu:_+1<cLine:=hV (Nat.add_le_add_left (by decide:1<=64) _) hr.units;refine⟨_,jB (jX (jI yE (jU qN (by rfl) T.len PySem.boot_len (jA (pv 0) jD)) jC (jR _)) (jE (jK xC)) jM) (jB (jX (jI vC (pv 0) jO (jR _)) (jE (jK (BP))) jM) (jB (jL (i:=2) scLR.nd rfl (Or.inl rfl) (BP)) (jB (jL (i:=3) scLR.nd rfl (Or.inl rfl) (xC)) (jB (qU PassesOwn.never rfl (zZ (qQ PySem.F.plainAttrs_str PySem.F.slot_str_split PySem.F.type_str_split yG (pv 0) (jA jO jD))) (jS (i:=4) scLR.nd rfl (Or.inl rfl)) (jB (jL (i:=5) scLR.nd rfl (Or.inl rfl) (qQ PySem.F.plainAttrs_str PySem.F.slot_str_split PySem.F.type_str_split yG (pv 4) (jA jO jD))) (jB (jL (i:=6) scLR.nd rfl (Or.inl rfl) (cal GN hr (jA (kB kX (pv 5) jC (λ_ _=>rfl)) jD))) (jB (jL (i:=7) scLR.nd rfl (Or.inl rfl) (cal GP hr (jA (kN AL (pv 5) (kR jC) qC) (jA (pv 1) jD)))) (jB (jX (PW.pt (vB (zI (uT (pv 6))) (vB (zI (uT (pv 7))) (qT (PW.pt (KH (zI (NJ (pv 3))) (FJ (jI (LwT.op_geT hr.units0) (pv 7) (pv 3) (jR _))))))))) (jE (jK xC)) jM) (jB (NC hu (pv 2) (pv 7) (pv 6) rfl) (jE (jL (i:=3) scLR.nd rfl (Or.inl rfl) (pv 7))))))))) (jE (jK (pv 2))))))), ?_⟩
  try dsimp only[cxK]
  have zs:z.length<=sizeLine:=nG zl (by decide);refine⟨_,rfl,_,rfl,zs,_,_,rfl,rfl,_,rfl, ?_⟩;unfold lrA at go;by_cases hl:4000<z.length
  ·rw[nV hl]at go;exact kQ (mT (by lia)) (go H (Same.refl _))
  rw[nU hl]at go;have tz:=tz (by lia);refine kW (mR (by lia)) ⟨_,rfl,rfl,_,rfl, ?_⟩;rw[xJ z (Str.ofString "0") ⟨#[48]⟩ rfl];by_cases hz:z=⟨#[48]⟩
  ·rw[nV hz]at go;refine kQ (mT hz) λd nd=>?_;exact go d _ [] nd (jW _ nd) jF .nil
  rw[nU hz]at go;refine kW (mR hz) λd nd=>?_;have s1:=jW (o:=.dT []) nd;refine zX ?_;refine⟨_,rfl,rfl,_,_,rfl,rfl,rfl,nG (Nat.add_le_add_right zl 2) (by decide),λa H1 n1 s2 e1=>?_⟩;rw[show Txt.split z (Str.ofString " + ")=Txt.split z ⟨#[32,43,32]⟩from rfl]at e1;have tp:∀p∈Txt.split z ⟨#[32,43,32]⟩,Tx p:=λp hp=>tz.sub (kS hp);have nps:(Txt.split z ⟨#[32,43,32]⟩).length<=z.length+2:=PyProof.Rows.split_le _ _;generalize Txt.split z ⟨#[32,43,32]⟩=ps at go tp nps e1;have ad:a≠d:=λy=>by rw[y,jF]at n1;cases n1
  refine⟨a,rfl,⟨_,SqL.of e1⟩, ?_⟩;refine zS (K:=K) (a:=a) (xs:=ps.map V.str) (LrI H z ae d a ps) (.mk (s1.trans s2) e1 (s2 _ _ jF) .nil (nO _) (last:=none) rfl (by simp) (λ_ h=>nomatch h)) (λi σ H5 _ h=>?_) (λi v σ H5 hv h=>?_) (fun σ H5 h=>?_)
  ·obtain⟨_,ea,_,_,_,_,_,_⟩:=h;exact SqL.of ea
  ·obtain⟨s5,ea,ed,pr,xl,lv,hq,low⟩:=h;rename_i u4 u5 u6 u7 ai xs last lV;rw[mE]at hv;obtain⟨y,hy,rfl⟩:=Option.map_eq_some_iff.mp hv;have ty:=tp y (gX hy);obtain⟨hi,gi⟩:=gI.mp hy;have eq:lTs ae (ps.drop i) last=(match lT ae y with
    | none=>none
    | some x=>if (last.any λl=>!LwT.lexLt x.ns l)=true then none else(lTs ae (ps.drop (i+1)) (some x.ns)).map (x::·)):=by
    rw[List.drop_eq_getElem_cons hi,gi]
    rfl
   rw[eq]at hq;have bad:∀H',Same H H'->lTs ae ps none=none->Q .non H':=λH' s e=>by
    rw[e]at go;exact go H' s
   obtain⟨w0,ws,es⟩:=qS y ⟨#[32]⟩;have tw:∀p∈w0::ws,Tx p:=λp hp=>ty.sub (kS (y:=⟨#[32]⟩) (by rw[es];exact hp));have eT:lT ae y=match lFr w0,lPw ae ws with
    | some q,some ns=>some ⟨ns,q.1,q.2⟩
    | _,_=>none:=by
    unfold lT;rw[es]
    rfl
   rw[eT]at hq;refine⟨_,rfl,rfl,_,_,rfl,rfl,rfl,nG (Nat.add_le_add_right ty.len 2) (by decide),λb H6 n6 s6 e6=>?_⟩;rw[show Txt.split y (Str.ofString " ")=w0::ws from es]at e6;have s06:=s5.trans s6;refine⟨_,rfl,b,_,0,_,rfl,rfl,SqL.of e6,kY (j:=0) rfl,w0,rfl,tw w0 (by simp), ?_⟩;have ec:xF ((w0::ws).map V.str) (some 1) none=ws.map V.str:=by
    rw[CT]
    rfl
   cases ef:lFr w0 with
   | none=>
    rw[ef]at hq;have hq:lTs ae ps none=none:=hq;intro H7 s7;refine⟨_,rfl,_,rfl,b,_,rfl,SqL.of (s7 _ _ e6),λp np=>⟨_,rfl, ?_⟩⟩;rw[ec];refine⟨p,ae,ws,rfl,jF,λw hw=>tw w (gY _ hw),m1,m4, ?_⟩;have s07:=s06.trans (s7.trans (jW (o:=.lst (ws.map V.str)) np));have fin:∀H8,Same H H8->Q .non H8:=λH8 s=>bad H8 s hq;cases ep:lPw ae ws with
    | none=>exact λH8 s8=>⟨_,rfl,_,rfl,kQ (mT rfl) (fin H8 (s07.trans s8))⟩
    | some ns=>exact λp2 H8 n8 s8 e8=>⟨_,rfl,_,rfl,kQ (mT rfl) (fin H8 (s07.trans s8))⟩
   | some q=>
    rw[ef]at hq;intro c H7 n7 s7 e7;refine⟨_,rfl,_,rfl,b,_,rfl,SqL.of (s7 _ _ e6),λp np=>⟨_,rfl, ?_⟩⟩;rw[ec];refine⟨p,ae,ws,rfl,jF,λw hw=>tw w (gY _ hw),m1,m4, ?_⟩;have s07:=s06.trans (s7.trans (jW (o:=.lst (ws.map V.str)) np));cases ep:lPw ae ws with
    | none=>
     rw[ep]at hq;have hq:lTs ae ps none=none:=hq;exact λH8 s8=>⟨_,rfl,_,rfl,kW (mR λh=>nomatch h) ⟨_,rfl,_,rfl,kQ (mT rfl) (bad H8 (s07.trans s8) hq)⟩⟩
    | some ns=>
     rw[ep]at hq;have ln:=XX ep;intro r H8 n8 s8 e8;have s08:=s07.trans s8;have s58:Same H5 H8:=s6.trans (s7.trans ((jW _ np).trans s8));refine⟨_,rfl,_,rfl,kW (mR λh=>nomatch h) ⟨_,rfl,_,rfl,kW (mR λh=>nomatch h) ?_⟩⟩;dsimp only at hq;have fin:(last.any λl=>!LwT.lexLt ns l)=false->∀D:Ends,D.nx=LrI H z ae d a ps (i+1)->yA (YU (kG 2) (kG 7) (kG 6)) (yO (kG 7) (qY 3)) D [some (.str z),some (.int ae),some (.ref d),some lV,some (.str y),some (.ref b),some (.ref c),some (.ref r)] H8:=λhk D eD=>by
      rw[hk,nU hW]at hq;have hd8:=s58 _ _ ed;have p8:Paired (KvT H8) ai xs:=Paired.to (λ_ _ h=>h.map λ_ _ e=>s58 _ _ e) pr;have kl:ai.length=xs.length:=Paired.length pr;have lt:∀l,last=some l->LwD.kC ns l=true:=λl e=>by
       rw[e]at hk lv;obtain⟨_,_,_,ll⟩:=lv;exact AV (by rw[ln,ll]) (by simpa using hk)
      have nw:∀x∈xs,LwD.kC ns x.ns=true:=λx hx=>by
       obtain⟨l,e1,e2⟩:=low x hx;rcases e2 with e2 | e2
       ·rw[e2];exact lt l e1
       ·exact LwD.wA _ _ _ (lt l e1) e2
      have out:∀p∈ai,p.1≠LwD.ik ns:=λp hp e=>by
       obtain⟨j,hj⟩:=gW.mp hp;obtain⟨x,hx,c',rfl,_⟩:=Paired.at pr hj;have:=CK e;have h2:=nw x (gX hx);rw[this,IV]at h2;cases h2
      refine⟨_,rfl,_,rfl,_,rfl,d,_,rfl,DPut.t (k:=LwD.ik ns) hd8 (by rw[LwD.zR];exact e8) (by rw[kl];exact hV xl (hX hi (nG nps (nG (Nat.add_le_add_right zl 2) (by decide))))),_,rfl, ?_⟩;show D.nx _ _;rw[eD];have tu:∀(o:HO) a xs,H8 a=some (.tup xs)->upd H8 d o a=some (.tup xs):=λo a xs h=>by
       rw[jN (λy=>by rw[y,hd8]at h;cases h)];exact h
      rw[NB out];refine .mk (xs:=xs++[⟨ns,q.1,q.2⟩]) (last:=some ns) ?_ ?_ jF ?_ ?_ ⟨r,rfl,tu _ _ _ e8,ln⟩ ?_ ?_
      ·exact kT s08 nd
      ·rw[jN ad];exact s58 _ _ ea
      ·exact Paired.snoc (Paired.to (λ_ _ h=>h.map (tu _)) p8) ⟨c,rfl,tu _ _ _ (s8 _ _ (by rw[jN (λy=>by have e9:H7 c=some _:=e7;rw[y,np]at e9;cases e9)];exact e7))⟩
      ·rw[List.length_append];show xs.length+1<=i+1;lia
      ·rw[hq];simp only[Option.map_map]
       congr 1
       funext r
       simp
      ·intro x hx;rcases mS.mp hx with hx | hx
       ·exact⟨ns,rfl,.inr (nw x hx)⟩
       ·rw[mB]at hx;exact⟨ns,rfl,.inl (by rw[hx])⟩
     have lv8:=lv.map (H':=H8) λ_ _ e=>s58 _ _ e;cases last with
     | none=>
      obtain rfl:lV=.non:=lv;exact⟨_,rfl,_,rfl,qV (fin rfl _ rfl)⟩
     | some l=>
      obtain⟨b2,rfl,h2,l2⟩:=lv8;refine⟨_,rfl,_,rfl,kD ⟨_,rfl,_,rfl,r,b2,ns,l,rfl,rfl,SqT.of e8,SqT.of h2,_,rfl, ?_⟩⟩;rw[LwT.lexGe_eq];by_cases hk:LwT.lexLt ns l=true
      ·refine kW (by rw[hk];rfl) (fin (by simp [hk]) _ rfl)
      ·refine kQ (by rw[Bool.eq_false_iff.mpr hk];rfl) (bad H8 s08 ?_);rw[hq,nV (by simp [Bool.eq_false_iff.mpr hk])]
       rfl
  ·obtain⟨s5,ea,ed,pr,xl,lv,hq,low⟩:=h;rename_i u4 u5 u6 u7 ai xs last lV;rw[mQ,List.drop_length]at hq;have hq:lTs ae ps none=some xs:=by
    rw[hq];show some (xs++[])=_;rw[List.append_nil]
   rw[hq]at go;exact⟨_,rfl,go d H5 ai nd s5 ed pr⟩
def spParts:Sp:=λvs H Q _=>∃(p:Addr) (ae:Nat) (ts:List Trm),vs=[.ref p]/\Poly H p ae ts/\Good ae ts/\∀H',Same H H'->Q (.bl true) H'
inductive PaI(H:Hp)(p:Addr):L2.St->Hp->Prop where
 | mk {u v x:Option V} {H':Hp} (s:Same H H'):PaI H p [some (.ref p),u,v,x] H'
theorem scParts:FnScope ["made","powers","number","one"] ["made"] (jJ wR):=scK (by decide +kernel)
theorem TU(F:Fun K "_law_whole_parts" "_law_whole_parts" wR f fd)(T:Txt mg):FnOk P w K mg base CX0 1 f fd ["made"] spParts:=by
 refine F.ok scParts (λvs H Q E h=>?_) (λcdv A outer s H vs Q E hr h=>?_)
 ·obtain⟨p,ae,ts,rfl,_⟩:=h
  rfl
 ·obtain⟨p,ae,ts,rfl,hp,ok,go⟩:=h;refine⟨_,jB (qU PassesOwn.never rfl (BN (kB kF (pv 0) jC (λ_ _=>rfl))) (vS rfl (jZ (jS (i:=1) scParts.nd rfl (Or.inl rfl)) (jZ (jS (i:=2) scParts.nd rfl (Or.inl rfl)) qW)))
    (jE (qU PassesOwn.never rfl (BN (jH WV (pv 1) (pv 2))) (jS (i:=3) scParts.nd rfl (Or.inl rfl))
     (jE (jX (PW.pt (vB (qZ (qM (xD GA T.isi T.int boot_int (pv 3)))) (qT (qM (xD uG T.isi T.bool boot_bool (pv 3)))))) (jE (jK xS)) jM)))))
   (jE (jK (KL (xD uG T.isi T.bool boot_bool (kB kF (pv 0) jC (λ_ _=>rfl)))))), ?_⟩
  try dsimp only[cxK]
  obtain⟨q,xs,e1,e2,e3⟩:=hp.ex;refine⟨_,rfl,p,_,_,_,rfl,rfl,SqT.of e1,rfl,q,rfl,⟨_,SqT.of e2⟩, ?_⟩;refine OF (K:=K) (a:=q) (xs:=xs) (λ_=>PaI H p) (.mk (Same.refl _)) (λi σ H2 _ h=>?_) (λi v σ H2 hv h=>?_) (fun σ H2 h=>?_)
  ·obtain⟨s2⟩:=h;exact SqT.of (s2 _ _ e2)
  ·obtain⟨s2⟩:=h;obtain⟨x,hx,⟨r,b,c,rfl,t1,t2⟩⟩:=Paired.at e3 hv;have okx:=ok.each x (gX hx);refine⟨r,_,rfl,SqT.of (s2 _ _ t1),rfl,_,_,rfl,_,_,rfl,rfl, ?_⟩;have z4:(x.ns.map V.int).length + [V.int x.t,V.int x.b].length<=sizeLine:=by
    rw[mQ,okx.len];exact nG (show _<=6 by have:=ok.m4;simp;lia) (by decide)
   refine⟨_,rfl,_,rfl,b,c,_,_,rfl,rfl,s2 _ _ t2.pw,s2 _ _ t2.nb,z4,λa2 H3 s3 e4=>⟨a2,rfl,⟨_,SqT.of e4⟩, ?_⟩⟩;have ei:x.ns.map V.int++[V.int x.t,V.int x.b]=(x.ns++[x.t,x.b]).map V.int:=by rw[List.map_append];rfl
   rw[ei]at e4;refine OF (K:=K) (a:=a2) (xs:=(x.ns++[x.t,x.b]).map V.int) (λ_ σ H4=>PaI H p σ H4/\Same H3 H4) ⟨.mk (s2.trans s3),Same.refl _⟩ (λj σ H4 _ h=>?_) (λj u σ H4 hu h=>?_) (fun σ H4 h=>?_)
   ·exact SqT.of (h.2 _ _ e4)
   ·obtain⟨⟨s4⟩,s5⟩:=h;rw[mE]at hu;obtain⟨n,rfl⟩:∃n,V.int n=u:=by
     cases q:(x.ns++[x.t,x.b])[j]? with
     | none=>rw[q]at hu;cases hu
     | some n=>rw[q]at hu;exact⟨n,Option.some.inj hu⟩
    exact⟨_,rfl,rfl,.int,.int n,_,rfl,qV ⟨_,rfl,rfl,.int,.int n,_,rfl,qV ⟨.mk s4,s5⟩⟩⟩
   ·exact h.1
  ·obtain⟨s2⟩:=h;refine⟨_,rfl,p,_,_,_,rfl,rfl,SqT.of (s2 _ _ e1),rfl,rfl,.int,.int ae,_,rfl,go H2 s2⟩
def kvf(e:Trm×Addr):List Key×V:=(LwD.ik e.1.ns,.ref e.2)
theorem NX{H:Hp} :∀{ai:List (List Key×V)} {us:List Trm},Paired (KvT H) ai us->∃E:List (Trm×Addr),us=E.map (·.1)/\ai=E.map kvf/\∀e∈E,At2 H e.2 e.1.t e.1.b
 | _,_,.nil=>⟨[],rfl,rfl,λ_ h=>nomatch h⟩
 | _,_,.cons (b:=x) ⟨c,h1,h2⟩ t=>by
  obtain⟨E,e1,e2,e3⟩:=NX t;exact⟨(x,c)::E,by rw[e1];rfl,by rw[h1,e2];rfl,λe he=>(mY.mp he).elim (λz=>by rw[z];exact h2) (e3 e)⟩
theorem UD{t b:Int}(hb:0<b)(hg:Int.gcd t b=1):IT t b=t/\IU t b=b:=by
 obtain⟨e1,e2⟩:=AW (t:=t) hb;rw[e1,e2,hg];exact⟨Int.ediv_one t,Int.ediv_one b⟩
theorem kv_get{E:List (Trm×Addr)}(nd:(E.map λe=>e.1.ns).Nodup){e:Trm×Addr}(he:e∈E):xV (E.map kvf) (LwD.ik e.1.ns)=some (.ref e.2):=by
 obtain⟨L,R,rfl⟩:=List.append_of_mem he;rw[List.map_append,mX]at nd ⊢;refine ET λp hp y=>?_;obtain⟨e',he',rfl⟩:=nI.mp hp;exact(mI.mp nd).2.2 _ (List.mem_map_of_mem he') _ (mC ..) (CK y)
def spDSum:Sp:=λvs H Q _=>∃(d:Addr) (ae:Nat) (E:List (Trm×Addr)),vs=[.int ae,.ref d]/\Rd H d (.dT (E.map kvf))/\(∀e∈E,At2 H e.2 e.1.t e.1.b/\TmOk ae e.1)/\(E.Pairwise λa b=>LwD.kC b.1.ns a.1.ns=true)/\E.length<=500/\1<=ae/\
 ∀p H',H p=none->Same H H'->Poly H' p ae (E.map (·.1)).reverse->Q (.ref p) H'
inductive DsI(H:Hp)(ae:Nat)(d l sl:Addr)(ys:List V)(E0:List (Trm×Addr))(i:Nat):L2.St->Hp->Prop where
 | mk {u v:Option V} {H':Hp} {xs:List V} (s:Same H H') (es:H' sl=some (.lst ys)) (el:H' l=some (.lst xs)) (p:Paired (TrmV H') xs ((E0.take i).map (·.1))) (kb:∀(j:Nat) (e:Trm×Addr) (y:V),E0[j]? = some e->ys[j]? = some y->∃b,y=.ref b/\H' b=some (.tup (e.1.ns.map V.int))):DsI H ae d l sl ys E0 i [some (.int ae),some (.ref d),some (.ref l),u,v] H'
theorem XF(F:Fun K "_law_sum" "_law_sum" MU f fd)(T:Txt mg)(GL:DG P w K mg base 1 "_law_low" FF ["top","bottom"] spLow):FnOk P w K mg base CX0 2 f fd ["many","one"] spDSum:=by
 refine F.ok scLSum (λvs H Q E h=>?_) (λcdv A outer s H vs Q E hr h=>?_)
 ·obtain⟨d,ae,E',rfl,_⟩:=h
  rfl
 ·obtain⟨d,ae,EE,rfl,hD,hE,pw,few,m1,go⟩:=h;have hu:_+1<cLine:=hV (Nat.add_le_add_left (by decide:1<=64) _) hr.units;refine⟨_,jB (jL (i:=2) scLSum.nd rfl (Or.inl rfl) (qE jD)) (jB (qU PassesOwn.never rfl (zZ (jU (LwD.JS rfl) (by rfl) T.sorted boot_sorted (jA (pv 1) jD))) (jS (i:=3) scLSum.nd rfl (Or.inl rfl)) (jE (jX (jI wZ (kB kF (wY hu (pv 1) (pv 3) (λ_ _=>rfl)) jC (λ_ _=>rfl)) jC (jR _)) (jB (jL (i:=4) scLSum.nd rfl (Or.inl rfl) (cal GL hr (jA (kB kF (wY hu (pv 1) (pv 3) (λ_ _=>rfl)) jC (λ_ _=>rfl)) (jA (kB kF (wY hu (pv 1) (pv 3) (λ_ _=>rfl)) jC (λ_ _=>rfl)) jD)))) (jE (xH (qQ PySem.F.plainAttrs_list PySem.F.slot_list_append PySem.F.type_list_append qP (pv 2) (jA (qD (jA (pv 3) (jA (pv 4) jD))) jD))))) jM))) (jE (jK (qD (jA (pv 0) (jA (kP vE (by rfl) T.tup boot_tuple (jA (pv 2) jD)) jD)))))), ?_⟩;try dsimp only[cxK]
  have nd:(EE.map λe=>e.1.ns).Nodup:=List.pairwise_map.mpr (pw.imp fun {a b} h e=>by rw[e,IV]at h;cases h);refine⟨gD,λl H1 n1 s1 e1=>?_⟩;refine⟨_,rfl,d,_,rfl,Rd.same hD s1,λp hp=>?_,λys zs pz ky pwz sl H2 n2 s2 e2=>⟨sl,rfl,⟨ys,SqL.of e2⟩, ?_⟩⟩
  ·obtain⟨e,he,rfl⟩:=nI.mp hp;exact⟨e.1.ns,rfl,λz=>by have:=(hE e he).2.len;rw[z]at this;simp at this;lia⟩
  obtain⟨E0,pE,rfl⟩:=DV pz EE rfl;have pw0:E0.Pairwise λa b=>LwD.kC a.1.ns b.1.ns=true:=by
   refine(List.pairwise_map.mp pwz).imp fun {a b} h=>?_;have h':LwD.kC (LwD.qJ (LwD.ik a.1.ns)) (LwD.qJ (LwD.ik b.1.ns))=true:=h
   rwa [LwD.yH,LwD.yH]at h'
  have er:E0=EE.reverse:=(pE.trans (List.reverse_perm EE).symm).eq_of_pairwise (λa b _ _ h1 h2=>by rw[LwD.uB _ _ h1]at h2;cases h2) pw0 (List.pairwise_reverse.mpr pw);have s12:Same H H2:=s1.trans s2;have ls:sl≠l:=λz=>by rw[z,e1]at n2;cases n2
  have yl:ys.length=E0.length:=by rw[ky.1,mQ]
  have l5:E0.length<=500:=by rw[pE.length_eq];exact few
  have kb2:∀(j:Nat) (e:Trm×Addr) (y:V),E0[j]? = some e->ys[j]? = some y->∃b,y=.ref b/\H2 b=some (.tup (e.1.ns.map V.int)):=λj e y he hy=>by
   obtain⟨b,ns,rfl,hb1,hk⟩:=ky.2 j y (kvf e) hy (by rw[mE,he];rfl);have:=CK hk;exact⟨b,rfl,by rw[this];exact s2 _ _ hb1⟩
  refine zS (K:=K) (a:=sl) (xs:=ys) (DsI H ae d l sl ys E0) (.mk s12 e2 (s2 _ _ e1) .nil kb2) (λi σ H3 _ h=>?_) (λi y σ H3 hyi h=>?_) (fun σ H3 h=>?_)
  ·obtain⟨_,es,_,_,_⟩:=h;exact SqL.of es
  ·obtain⟨s3,es,el,pr,kb⟩:=h;rename_i u v xs;have hiy:i<ys.length:=(gI.mp hyi).1;have hie:i<E0.length:=by lia
   obtain⟨e,he⟩:∃e,E0[i]? = some e:=⟨E0[i],by simp [hie]⟩;obtain⟨b,rfl,hb3⟩:=kb i e y he hyi;have eE:e∈EE:=pE.mem_iff.mp (gX he);obtain⟨c0,ok⟩:=hE e eE;have g3:DGet H3 d (.ref b) (some (.ref e.2)):=.inr ⟨_,LwD.ik e.1.ns,b,Rd.same hD s3,rfl,by rw[LwD.zR];exact hb3,(kv_get nd eE).symm⟩;have c3:=SqT.of (K:=K) (s3 _ _ c0);have xl:xs.length=i:=by
    have:=Paired.length pr;rw[mQ,mK]at this
    lia
   refine⟨_,rfl,_,rfl,d,_,rfl,g3,e.2,_,_,_,rfl,rfl,c3,rfl,rfl,_,rfl, ?_⟩;refine kQ ?_ ?_
   ·rw[Bool.not_eq_true',mR];intro z;injection z with z
    exact ok.nz z
   ·refine⟨_,rfl,_,rfl,d,_,rfl,g3,e.2,_,_,_,rfl,rfl,c3,rfl,_,rfl,_,rfl,d,_,rfl,g3,e.2,_,_,_,rfl,rfl,c3,rfl,e.1.t,e.1.b,rfl, ?_,.inl ?_,λr H4 n4 s4 e4=>?_⟩
    ·have:=ok.pos
     lia
    ·exact Nat.lt_trans ok.sb (hJ (by decide) (by decide))
    rw[(UD ok.pos ok.low).1,(UD ok.pos ok.low).2]at e4;refine⟨_,rfl,.inl ⟨rfl,_,SqL.of (s4 _ _ el)⟩,_,rfl,_,rfl,gF,λq H5 n5 s5 e5=>?_⟩;have s45:=s4.trans s5;have el5:=s45 _ _ el;refine⟨l,_,_,rfl,rfl,el5,hV (show xs.length<=500 by lia) (by decide), ?_⟩;have ku:∀(o:HO) a xs,H5 a=some (.tup xs)->upd H5 l o a=some (.tup xs):=λo a xs e=>by
     rw[jN (λz=>by rw[z,el5]at e;cases e)];exact e
    refine .mk (kT (s3.trans s45) n1) (by rw[jN ls];exact s45 _ _ es) jF ?_ λj e' y' h1 h2=>?_
    ·rw[mG,he,List.map_append];refine Paired.snoc (Paired.to (λ_ _ h=>h.map λ_ _ e=>ku _ _ _ (s45 _ _ e)) pr) ⟨q,b,r,rfl,ku _ _ _ e5,ku _ _ _ (s45 _ _ hb3),ku _ _ _ (s5 _ _ e4)⟩
    ·obtain⟨b',h3,h4⟩:=kb j e' y' h1 h2;exact⟨b',h3,ku _ _ _ (s45 _ _ h4)⟩
  ·obtain⟨s3,es,el,pr,kb⟩:=h;rename_i u v xs;refine⟨_,rfl,_,rfl,l,_,rfl,.inl ⟨SqL.of el,λq nq=>⟨gF,λp H5 n5 s5 e5=>?_⟩⟩⟩;have s4:Same H3 (upd H3 q (.tup xs)):=jW _ nq;rw[yl,mM]at pr;refine go p H5 ((s3.trans s4).free n5) (s3.trans (s4.trans s5)) ?_;rw[<-List.map_reverse,<-er];exact⟨q,xs,e5,s5 _ _ jF,Paired.to (λ_ _ h=>h.map λa xs e=>s5 _ _ (s4 _ _ e)) pr⟩
structure Cls8(K:nW)(mg:Str->Option Value)(fI C D c1 c2 c3 c4 c5 c6 c7:Addr)(bl bd:List Value):Prop where
 q:LwE.XCls K C fI bl "ValueError.__new__"
 d:LwE.XCls K D fI bd "ValueError.__new__"
 up:bl.contains (.ref D)=true
 ve:PySem.W.kitOne K (.ref C) (.type "ValueError")=some true
 no:PySem.W.kitAny K (.ref C) [.ref c1,.ref c2,.ref c3,.ref c4,.ref c5,.ref c6,.ref c7]=some false
 mq:mg "NoText" = some (.ref C)
 md:mg "LowwaterError" = some (.ref D)
 m1:mg "NoLine" = some (.ref c1)
 m2:mg "NoQuotient" = some (.ref c2)
 m3:mg "NoRow" = some (.ref c3)
 m4:mg "NotSecond" = some (.ref c4)
 m5:mg "NotStraight" = some (.ref c5)
 m6:mg "TooGreat" = some (.ref c6)
 m7:mg "TooMany" = some (.ref c7)
structure TxR(z:Str):Prop where
 len:z.length<=100000
 tx:z.length<=4000->Tx z/\(Txt.split z ⟨#[32,43,32]⟩).length<=500
def spRight:Sp:=λvs H Q _=>∃(ae:Nat) (z:Str),vs=[.str z,.int ae]/\1<=ae/\ae<=4/\TxR z/\∀H',Same H H'->Q (.bl true) H'
theorem scRt:FnScope ["text","many","due","caught","found","e"] ["text","many"] (jJ FD):=scK (by decide +kernel)
theorem TQ{fR fI C D c1 c2 c3 c4 c5 c6 c7:Addr}{fdR:FuncData}{bl bd:List Value}(F:Fun K "_law_right" "_law_right" FD f fd)(T:Txt mg)(c:Cls8 K mg fI C D c1 c2 c3 c4 c5 c6 c7 bl bd)(GL:DG P w K mg base 3 "_law_read" FH ["text","many"] spLRead)
 (DR:Df K mg "read" MR ["text","many"] fR fdR) (GR:FnOk P w K mg base (LwE.CXF P w) 6 fR fdR ["text","many"] (SF C)) (GS:DG P w K mg base 2 "_law_sum" MU ["many","one"] spDSum) (GW:DG P w K mg base 1 "_law_whole_parts" wR ["made"] spParts) :
 FnOk P w K mg base CX0 7 f fd ["text","many"] spRight:=by
 refine F.ok scRt (λvs H Q E h=>?_) (λcdv A outer s H vs Q E hr h=>?_)
 ·obtain⟨ae,z,rfl,_⟩:=h
  rfl
 ·obtain⟨ae,z,rfl,m1,m4,tz,go⟩:=h;have hr1:Room 1 _:=hr.mono (by decide);have hr2:Room 2 _:=hr.mono (by decide);have hr3:Room 3 _:=hr.mono (by decide);refine⟨_,jB (jL (i:=2) scRt.nd rfl (Or.inl rfl) (cal GL hr3 (jA (pv 0) (jA (pv 1) jD)))) (jB (jL (i:=3) scRt.nd rfl (Or.inl rfl) (xC)) (jB (jL (i:=4) scRt.nd rfl (Or.inl rfl) (xC)) (jB (LwE.ps_catch (j:=5) rfl rfl rfl rfl c.d rfl c.md scRt.nd rfl rfl (LwE.pbx_set (i:=4) rfl scRt.nd rfl rfl GR hr rfl DR.m DR.F.kp DR.b (jA (pv 0) (jA (pv 1) jD))) (λe=>jE (jL (i:=3) scRt.nd rfl (Or.inl rfl) (pv 5)))) (jB (jX (zI (NJ (pv 2))) (jE (jK (zJ (pe_cmp (uT (pv 3))) (zJ (xW (KN hr.units) (pv 4) (cal GS hr2 (jA (pv 1) (jA (pv 2) jD))) (jR _)) (BO (cal GW hr1 (jA (pv 4) jD))))))) jM) (jB (jX (qM (jU LwE.call_isXT (by rfl) T.isi boot_isinstance (jA (pv 3) (jA (qD (jA (qF (v:=.ref c1) rfl c.m1 rfl) (jA (qF (v:=.ref c2) rfl c.m2 rfl) (jA (qF (v:=.ref c3) rfl c.m3 rfl) (jA (qF (v:=.ref c4) rfl c.m4 rfl) (jA (qF (v:=.ref c5) rfl c.m5 rfl) (jA (qF (v:=.ref c6) rfl c.m6 rfl) (jA (qF (v:=.ref c7) rfl c.m7 rfl) jD)))))))) jD)))) (jE (jK xS)) jM) (jE (jK (zJ (jU LwE.call_isX (by rfl) T.isi boot_isinstance (jA (pv 3) (jA (qF (v:=.ref C) rfl c.mq rfl) jD))) (BO (jU LwE.call_isX (by rfl) T.isi boot_isinstance (jA (pv 3) (jA (NI (v:=.ty "ValueError") rfl T.verr PyProof.Rows.Boot.«ValueError» rfl) jD)))))))))))), ?_⟩
  try dsimp only[cxK]
  have er:=WN (z:=z) m1 m4 tz.tx;refine⟨_,rfl,_,rfl,ae,z,rfl,m1,m4,tz.len,λh=>(tz.tx h).1, ?_⟩;cases el:lrA ae z with
  | none=>
   rw[el]at er;intro H1 s1;refine⟨λx _ H'=>x=.ref C/\Same H1 H',⟨_,rfl,_,rfl,ae,z,rfl,m1,m4,tz.len,λh=>(tz.tx h).1,BT er λH' s'=>⟨rfl,s'⟩⟩, ?_⟩;rintro x H' ⟨rfl,s'⟩;refine⟨C,fI,bl,_,rfl,c.q,c.up,λe hn=>?_⟩;have s2:Same H' (upd H' e (LwE.excH e C)):=jW _ hn;have e1:(upd H' e (LwE.excH e C)) e=some (LwE.excH e C):=jF;generalize upd H' e (LwE.excH e C)=H2 at s2 e1;refine⟨_,rfl,_,rfl,_,rfl,kW (by rfl) ?_⟩;refine⟨_,rfl,(by show 7<=sizeLine;decide),λtp H3 n3 s3 e3=>?_⟩;refine⟨e,C,fI,tp,bl,_,_,_,false,rfl,s3 _ _ e1,c.q,e3,.cons rfl (.cons rfl (.cons rfl (.cons rfl (.cons rfl (.cons rfl (.cons rfl .nil)))))),c.no, ?_⟩;refine⟨_,rfl,qV ?_⟩;refine⟨_,rfl,e,C,fI,bl,_,_,_,true,rfl,s3 _ _ e1,c.q,rfl,(by unfold PySem.W.kitOne;simp),⟨_,rfl,kD ?_⟩⟩;refine⟨_,rfl,e,C,fI,bl,_,_,_,true,rfl,s3 _ _ e1,c.q,rfl,c.ve, ?_⟩;exact go H3 (s1.trans (s'.trans (s2.trans s3)))
  | some us=>
   rw[el]at er;have er:rdA ae z=some us.reverse:=er;obtain⟨gd,ez⟩:=IB m1 m4 (λh=>(tz.tx h).1) er;intro d H1 ai nd s1 ed pr;refine⟨λ_ _ _=>False, ?_,λ_ _ h=>h.elim⟩;refine⟨_,rfl,_,rfl,ae,z,rfl,m1,m4,tz.len,λh=>(tz.tx h).1,BS er λp H2 s2 hp=>?_⟩;refine⟨_,rfl,_,rfl,kQ (by rfl) ?_⟩;obtain⟨EE,rfl,rfl,hE⟩:=NX pr;refine⟨_,rfl,_,rfl,kD ?_⟩;have pw:EE.Pairwise λa b=>LwD.kC b.1.ns a.1.ns=true:=by
    have:=gd.up;rw[List.pairwise_reverse,List.pairwise_map]at this;exact this
   refine⟨_,rfl,_,rfl,_,rfl,d,ae,EE,rfl,.inl (s2 _ _ ed),λe he=>⟨s2 _ _ (hE e he),gd.each _ (List.mem_reverse.mpr (List.mem_map_of_mem he))⟩,pw,by have:=gd.few;rw[List.length_reverse,mQ]at this;exact this,m1,λp2 H3 n3 s3 hp2=>?_⟩;refine⟨_,_,(hp.same s3).dec,hp2.dec,FK _ _,FK _ _,_,rfl, ?_⟩;rw[SeqAt.eqv_refl _ (FK _ _).1];refine kD ⟨_,rfl,p,ae,_,rfl,hp.same s3,gd,λH4 s4=>?_⟩;exact go H4 (s1.trans (s2.trans (s3.trans s4)))
end Lw
namespace LwS
open PySem PySem.Builtin.Str LwI
def Rn(r:Nat)(L:List Nat):Prop:=∀D:List Nat,D <:+:L->D.all isD=true->D.length<=r
def sgn(c:Nat):Bool:=decide (c=32)||decide (c=43)
def tD(L:List Nat):Nat:=L.countP isD
def sD(L:List Nat):Nat:=L.countP sgn
theorem Rn.mono{r s:Nat}{L:List Nat}(h:Rn r L)(k:r<=s):Rn s L:=λD d a=>nG (h D d a) k
theorem Rn.sub{r:Nat}{L M:List Nat}(h:Rn r L)(s:M <:+:L):Rn r M:=λD d a=>h D (d.trans s) a
theorem xR{r:Nat}{L:List Nat}(h:tD L<=r):Rn r L:=λD d a=>by
 have e:D.countP isD=D.length:=List.countP_eq_length.mpr λc hc=>List.all_eq_true.mp a c hc;rw[<-e];exact nG (d.sublist.countP_le) h
theorem SO{a b:Nat}{A B:List Nat}(ha:Rn a A)(hb:Rn b B):Rn (a+b) (A++B):=λD ⟨s,t,e⟩ d=>by
 rw[List.append_eq_append_iff]at e;rcases e with⟨v,e1,e2⟩ | ⟨v,e1,e2⟩
 ·exact nG (ha D ⟨s,v,e1.symm⟩ d) (Nat.le_add_right _ _)
 ·rw[List.append_eq_append_iff]at e1;rcases e1 with⟨u,e3,e4⟩ | ⟨u,e3,e4⟩
  ·subst e4;rw[List.all_append,mO]at d;have h1:=ha u ⟨s,[],by rw[List.append_nil];exact e3.symm⟩ d.1;have h2:=hb v ⟨[],t,by rw[List.nil_append];exact e2.symm⟩ d.2;rw[List.length_append]
   lia
  ·refine nG (hb D ⟨u,t, ?_⟩ d) (Nat.le_add_left _ _);rw[e2,e4]
theorem BK{r:Nat}{A B:List Nat}{c:Nat}(hc:isD c=false)(ha:Rn r A)(hb:Rn r B):Rn r (A++c::B):=λD ⟨s,t,e⟩ d=>by
 have no:c∉D:=λh=>by rw[List.all_eq_true.mp d c h]at hc;cases hc
 rw[List.append_eq_append_iff]at e;rcases e with⟨v,e1,e2⟩ | ⟨v,e1,e2⟩
 ·exact ha D ⟨s,v,e1.symm⟩ d
 ·cases v with
  | nil=>
   rw[List.append_nil]at e1;exact ha D ⟨s,[],by rw[List.append_nil];exact e1⟩ d
  | cons x v=>
   injection e2 with e2 e5
   subst e2;rw[List.append_eq_append_iff]at e1;rcases e1 with⟨u,e3,e4⟩ | ⟨u,e3,e4⟩
   ·exact absurd (by rw[e4];simp) no
   ·cases u with
    | nil=>exact absurd (by rw[List.nil_append]at e4;rw[<-e4];simp) no
    | cons y u=>
     injection e4 with e4 e6
     exact hb D ⟨u,t,by rw[e5,e6];rfl⟩ d
structure Bent(z w:List Nat):Prop where
 asc:(∀c∈z,c<128)->∀c∈w,c<128
 s:sD w<=5*sD z+8
 l:w.length<=3*z.length+30
 r:∀r,2<=r->Rn r z->Rn r w∨(Rn (2*r+1) w/\tD w<=tD z+1)
theorem uW{z x:List Nat}{a b:Nat}(hab:a<=b)(hx:x.length<=1)(ax:∀c∈x,c<128):Bent z (z.take a++x++z.drop b):=by
 have sub:(z.take a++z.drop b).Sublist z:=by
  have h1:(z.drop b).Sublist (z.drop a):=by
   rw[show b=a+(b-a) by lia,<-List.drop_drop];exact List.drop_sublist _ _
  have:=(List.Sublist.refl (z.take a)).append h1
  rwa [List.take_append_drop]at this
 have cnt:∀p:Nat->Bool,(z.take a++x++z.drop b).countP p<=z.countP p+1:=λp=>by
  have h1:=sub.countP_le (p:=p);have h2:=List.countP_le_length (p:=p) (l:=x);rw[List.countP_append]at h1;rw[List.countP_append,List.countP_append]
  lia
 refine⟨λh c hc=>?_, ?_, ?_,λr _ hr=>.inr ⟨?_,cnt _⟩⟩
 ·rcases mS.mp hc with hc | hc
  ·rcases mS.mp hc with hc | hc
   ·exact h c (List.mem_of_mem_take hc)
   ·exact ax c hc
  ·exact h c (List.mem_of_mem_drop hc)
 ·have:=cnt sgn;unfold sD
  lia
 ·have:=sub.length_le;rw[List.length_append]at this;rw[List.length_append,List.length_append]
  lia
 ·have h1:=hr.sub (List.take_prefix a z).isInfix;have h2:=hr.sub (List.drop_suffix b z).isInfix;have:=SO (SO h1 (xR (r:=1) (nG List.countP_le_length hx))) h2;exact this.mono (by lia)
theorem EQ{z p q:List Nat}(hp:p=[]∨∃p' c,p=p'++[c]/\isD c=false)(hq:q=[]∨∃c q',q=c::q'/\isD c=false)(tp:tD p<=2)(tq:tD q<=2)(lp:p.length<=15)(lq:q.length<=15)(sp:sD p<=4)(sq:sD q<=4)(ap:∀c∈p,c<128)(aq:∀c∈q,c<128):Bent z (p++z++q):=by
 refine⟨λh c hc=>?_, ?_, ?_,λr r2 hr=>.inl ?_⟩
 ·rcases mS.mp hc with hc | hc
  ·exact(mS.mp hc).elim (ap c) (h c)
  ·exact aq c hc
 ·unfold sD at *;rw[List.countP_append,List.countP_append]
  lia
 ·rw[List.length_append,List.length_append]
  lia
 ·have rq:Rn r (z++q):=by
   rcases hq with rfl | ⟨c,q',rfl,hc⟩
   ·rw[List.append_nil];exact hr
   ·refine BK hc hr (xR (nG ?_ (nG tq r2)));exact(List.sublist_cons_self c q').countP_le
  rcases hp with rfl | ⟨p',c,rfl,hc⟩
  ·exact rq
  ·rw[List.append_assoc,List.append_assoc];refine BK hc (xR (nG ?_ (nG tp r2))) rq;exact(List.sublist_append_left p' [c]).countP_le
theorem LU{z w:List Nat}(t:tD w<=2)(l:w.length<=30)(s:sD w<=8)(a:∀c∈w,c<128):Bent z w:=
 ⟨λ_=>a,by lia,by lia,λr r2 _=>.inl (xR (nG t r2))⟩
def sepL:Str:=⟨#[32,43,32]⟩
theorem SN{r:Nat}{B:List Nat}(hb:Rn r B):∀(Y:List Nat),(∀c∈Y,isD c=false)->Rn r (Y++B)
 | [],_=>hb
 | c::Y,h=>BK (A:=[]) (h c (by simp)) (xR (nO _)) (SN hb Y λx hx=>h x (gY _ hx))
theorem wU{r:Nat}{y:Str}{c:Nat}{Y:List Nat}(ey:y.cps.toList=c::Y)(hy:∀x∈c::Y,isD x=false):∀(ps:List Str),(∀p∈ps,Rn r p.cps.toList)->Rn r (Str.join y ps).cps.toList
 | [],_=>xR (nO _)
 | [p],h=>h p (by simp)
 | p::q::t,h=>by
  rw[vG,jQ,jQ,List.append_assoc,ey];have h2:=wU ey hy (q::t) λx hx=>h x (gY _ hx);exact BK (hy c (by simp)) (h p (by simp)) (SN h2 Y λx hx=>hy x (gY _ hx))
theorem xQ(p:Nat->Bool)(y:Str):∀(x:Str) (ps:List Str),(Str.join y (x::ps)).cps.toList.countP p=x.cps.toList.countP p+(ps.map λq=>y.cps.toList.countP p+q.cps.toList.countP p).sum
 | x,[]=>by show x.cps.toList.countP p=_;simp
 | x,q::r=>by
  rw[vG,jQ,jQ,List.countP_append,List.countP_append,xQ p y q r,mX,nB]
  lia
theorem uC(y:Str):∀(x:Str) (ps:List Str),(Str.join y (x::ps)).cps.toList.length=x.cps.toList.length+(ps.map λq=>y.cps.toList.length+q.cps.toList.length).sum
 | x,[]=>by show x.cps.toList.length=_;simp
 | x,q::r=>by
  rw[vG,jQ,jQ,List.length_append,List.length_append,uC y q r,mX,nB]
  lia
theorem vR(f:Str->Nat)(k:Nat):∀l:List Str,(l.map λq=>k+f q).sum=k*l.length+(l.map f).sum
 | []=>by simp
 | q::r=>by
  rw[mX,nB,vR f k r,mX,nB,mN,Nat.mul_succ]
  lia
theorem MK(f:Str->Nat)(l:List Str):(l.reverse.map f).sum=(l.map f).sum:=(List.Perm.map f (List.reverse_perm l)).sum_nat
theorem whole(p:Nat->Bool)(z y:Str):((Txt.split z y).map λq=>q.cps.toList.countP p).sum+y.cps.toList.countP p*((Txt.split z y).length-1)=z.cps.toList.countP p:=by
 obtain⟨x,ps,e⟩:=qS z y;have h:=xQ p y x ps;rw[<-e,StrLaws.join_split,vR]at h;rw[e,mX,nB,mN,Nat.add_sub_cancel,h]
 lia
theorem OU(z y:Str):((Txt.split z y).map λq=>q.cps.toList.length).sum+y.cps.toList.length*((Txt.split z y).length-1)=z.cps.toList.length:=by
 obtain⟨x,ps,e⟩:=qS z y;have h:=uC y x ps;rw[<-e,StrLaws.join_split,vR]at h;rw[e,mX,nB,mN,Nat.add_sub_cancel,h]
 lia
theorem LB(ps:List Str)(n:ps≠[]):sD (Str.join sepL ps).cps.toList=(ps.map λq=>sD q.cps.toList).sum+3*(ps.length-1)/\(Str.join sepL ps).cps.toList.length=(ps.map λq=>q.cps.toList.length).sum+3*(ps.length-1):=by
 cases ps with
 | nil=>exact absurd rfl n
 | cons x r=>
  unfold sD;rw[xQ,uC,vR,vR];simp only[mX,nB,mN,Nat.add_sub_cancel];have e1:sepL.cps.toList.countP sgn=3:=by decide
  have e2:sepL.cps.toList.length=3:=rfl;rw[e1,e2]
  lia
theorem CZ{z y:Str}(hy:1<=sD y.cps.toList){ps:List Str}(hm:∀p∈ps,p∈Txt.split z y)(n:ps≠[])(f0:Str)(hf0:f0∈Txt.split z y)(hs:∀f:Str->Nat,(ps.map f).sum<=((Txt.split z y).map f).sum+f f0)(hl:ps.length<=(Txt.split z y).length+1):Bent z.cps.toList (Str.join sepL ps).cps.toList:=by
 have w1:=whole sgn z y;have w2:=OU z y;obtain⟨j1,j2⟩:=LB ps n;have l1:=(qS z y);have lp:1<=(Txt.split z y).length:=by obtain⟨_,_,e⟩:=l1;rw[e];simp
 have hy1:1<=y.cps.toList.countP sgn:=hy;have hy2:1<=y.cps.toList.length:=nG hy1 List.countP_le_length;have m1:(Txt.split z y).length-1<=y.cps.toList.countP sgn*((Txt.split z y).length-1):=Nat.le_mul_of_pos_left _ hy1;have m2:(Txt.split z y).length-1<=y.cps.toList.length*((Txt.split z y).length-1):=Nat.le_mul_of_pos_left _ hy2;have f1:f0.cps.toList.countP sgn<=((Txt.split z y).map λq=>q.cps.toList.countP sgn).sum:=Lw.FS (List.mem_map_of_mem (f:=λq:Str=>q.cps.toList.countP sgn) hf0);have f2:f0.cps.toList.length<=((Txt.split z y).map λq=>q.cps.toList.length).sum:=Lw.FS (List.mem_map_of_mem (f:=λq:Str=>q.cps.toList.length) hf0);have s1:=hs λq=>sD q.cps.toList;have s2:=hs λq=>q.cps.toList.length;refine⟨λh c hc=>?_, ?_, ?_,λr r2 hr=>.inl (wU (y:=sepL) rfl (by decide) ps λp hp=>hr.sub (kS (hm p hp)))⟩
 ·rcases vH hc with hc | ⟨x,hx,hc⟩
  ·have:c=32∨c=43:=by
    simp [sepL]at hc
    lia
   lia
  ·exact h c ((kS (hm x hx)).subset hc)
 ·unfold sD at *
  lia
 ·lia
end LwS
namespace Lw
open PySem PySem.Spec PyProof.Rows L2 LwS LwQ
structure In0(z:List Nat):Prop where
 asc:∀c∈z,c<128
 s:sD z<=46
 l:z.length<=8300
 r:Rn 240 z
 t:tD z<=510
theorem RZ{D:List Nat}(h:LwI.Dig D):tD D=D.length:=List.countP_eq_length.mpr λc hc=>isD_of.mpr (h c hc)
theorem SK{L:List Nat}(h:∀c∈L,sgn c=false):sD L=0:=List.countP_eq_zero.mpr λc hc=>by rw[h c hc];decide
theorem JY{i:Int}{k:Nat}(hk:0<k)(h:i.natAbs<10^k):tD (itx i).cps.toList<=k:=by
 have:=GQ hk h;rcases wB i with⟨_,e⟩ | ⟨_,e⟩<;>rw[e]
 ·rw[RZ (wO _)];exact this
 ·show(45::dg i.natAbs).countP isD<=k;rw[List.countP_cons_of_neg (by decide)];have e2:=RZ (wO i.natAbs);unfold tD at e2
  lia
theorem RY{q:Nat×Int}(h0:0<=q.2)(h:q.2<=16):tD (wtx q).cps.toList<=2:=by
 have l1:isD (97+q.1)=false:=by
  refine Bool.eq_false_iff.mpr λz=>?_;have:=isD_of.mp z
  lia
 have h2:=JY (i:=q.2) (k:=2) (by decide) (AK h0 h);unfold wtx;split
 ·show [97+q.1].countP isD<=2;exact nG List.countP_le_length (show 1<=2 by decide)
 ·rw[jQ,jQ];unfold tD at *;rw[List.countP_append,List.countP_append];have e1:(ltr q.1).cps.toList.countP isD=0:=by
   show [97+q.1].countP isD=0;rw[List.countP_cons_of_neg (by rw[l1];decide)]
   rfl
  have e2:(⟨#[94]⟩:Str).cps.toList.countP isD=0:=by decide
  lia
theorem VS{q:Nat×Int}{c:Nat}(h:q.1<4)(hc:c∈(wtx q).cps.toList):c<128/\48<=c∨c=45:=by
 unfold wtx at hc;split at hc
 ·have:c=97+q.1:=by simpa [ltr]using hc
  lia
 ·rw[jQ,jQ,List.append_assoc]at hc;rcases mS.mp hc with h | h
  ·have:c=97+q.1:=by simpa [ltr]using h
   lia
  ·rcases mS.mp h with h | h
   ·have:c=94:=by simpa using h
    lia
   ·have:=vW h;lia
theorem FB{c:Nat}(h:45<=c):sgn c=false:=by
 unfold sgn;rw[mR (by lia),mR (by lia)]
 rfl
theorem qI{α:Type}{f:α->Nat}{B:Nat} :∀{l:List α},(∀x∈l,f x<=B)->(l.map f).sum<=B*l.length
 | [],_=>nO _
 | x::r,h=>by
  have:=qI λy hy=>h y (gY _ hy);have h1:=h x (by simp);rw[mX,nB,mN,Nat.mul_succ]
  lia
structure In1(k:Nat)(z:List Nat):Prop where
 asc:∀c∈z,c<128
 s:sD z<=4
 r:Rn 240 z
 t:tD z<=60*k+12
theorem in_ntx{t b:Int}{m n:Nat}(hm:0<m)(hn:0<n)(h1:t.natAbs<10^m)(h2:b.natAbs<10^n)(m2:m<=240)(n2:n<=240):Rn 240 (ntx t b).cps.toList/\tD (ntx t b).cps.toList<=m+n:=by
 have a:=JY hm h1;have c:=JY hn h2;unfold ntx;split
 ·exact⟨xR (nG a m2),by lia⟩
 ·rw[jQ,jQ];refine⟨?_, ?_⟩
  ·rw[List.append_assoc];exact BK (c:=47) (by decide) (xR (nG a m2)) (xR (nG c n2))
  ·unfold tD at *;rw[List.countP_append,List.countP_append];have e2:(⟨#[47]⟩:Str).cps.toList.countP isD=0:=by decide
   lia
theorem in_ttx{ae:Nat}{x:Trm}(ok:TmOk ae x)(m4:ae<=4){m n k:Nat}(hm:0<m)(hn:0<n)(h1:x.t.natAbs<10^m)(h2:x.b.natAbs<10^n)(m2:m<=240)(n2:n<=240)(hk:m+n+8<=60*k+12):In1 k (ttx x).cps.toList:=by
 obtain⟨r1,t1⟩:=in_ntx hm hn h1 h2 m2 n2;have wl4:=uM x.ns 0;have ln:=ok.len;have wq:∀q∈wl 0 x.ns,q.1<4/\0<=q.2/\q.2<=16:=λq hq=>by
  have h3:=uL hq;have:=ok.le h3.2.2.2
  lia
 refine⟨λc hc=>?_, ?_, ?_, ?_⟩
 ·rcases vH hc with h | ⟨y,hy,h⟩
  ·have:c=32:=by simpa using h
   lia
  ·rcases mY.mp hy with rfl | hy
   ·have:=yF h;lia
   ·obtain⟨q,hq,rfl⟩:=nI.mp hy;have:=VS (wq q hq).1 h
    lia
 ·unfold sD ttx;rw[xQ];have e1:(ntx x.t x.b).cps.toList.countP sgn=0:=SK λc hc=>FB (yF hc).1;have e2:=qI (f:=λq:Str=>(⟨#[32]⟩:Str).cps.toList.countP sgn+q.cps.toList.countP sgn) (B:=1) (l:=(wl 0 x.ns).map wtx) λy hy=>by
   obtain⟨q,hq,rfl⟩:=nI.mp hy;have:(wtx q).cps.toList.countP sgn=0:=SK λc hc=>FB (by have:=uK hc;lia);rw[this]
   decide
  rw[mQ]at e2
  lia
 ·refine wU (y:=⟨#[32]⟩) (c:=32) (Y:=[]) rfl (by decide) _ λp hp=>?_;rcases mY.mp hp with rfl | hp
  ·exact r1
  ·obtain⟨q,hq,rfl⟩:=nI.mp hp;exact xR (nG (RY (wq q hq).2.1 (wq q hq).2.2) (by decide))
 ·unfold tD ttx at *;rw[xQ];have e2:=qI (f:=λq:Str=>(⟨#[32]⟩:Str).cps.toList.countP isD+q.cps.toList.countP isD) (B:=2) (l:=(wl 0 x.ns).map wtx) λy hy=>by
   obtain⟨q,hq,rfl⟩:=nI.mp hy;have:=RY (wq q hq).2.1 (wq q hq).2.2;unfold tD at this;have e0:(⟨#[32]⟩:Str).cps.toList.countP isD=0:=by decide
   rw[e0]
   lia
  rw[mQ]at e2
  lia
theorem YW{a k j:Nat}(h:a<=2^(97*k+j))(hj:2^j<10^2):a<10^(30*k+2):=by
 have h1:(2^97)^k<=(10^30)^k:=Nat.pow_le_pow_left (by decide) k;rw[<-Nat.pow_mul,<-Nat.pow_mul]at h1;rw[Nat.pow_add]at h ⊢;exact hV (nG h (Nat.mul_le_mul_right _ h1)) (Nat.mul_lt_mul_of_pos_left hj (Nat.pow_pos (by decide)))
theorem ent_in{H:Hp}{ae:Nat}{e:Ent}(h:EntOk H ae e)(k7:e.k<=7)(m4:ae<=4):In1 e.k (ttx e.tm).cps.toList:=by
 have hp:=h.pos;have g1:=LwM.AZ e.t e.b hp;have eT:e.tm.t=e.t/(Int.gcd e.t e.b:Int):=BY hp;have eB:e.tm.b=e.b/(Int.gcd e.t e.b:Int):=BZ hp;refine in_ttx (m:=30*e.k+2) (n:=30*e.k+2) (LL h k7) m4 (by lia) (by lia) ?_ ?_ (by lia) (by lia) (by lia)
 ·rw[eT];refine YW (j:=6) (nG (LwM.CP _ _ g1) (nG h.st ?_)) (by decide);rw[show 97*e.k+6=3+(97*e.k+3) by lia,Nat.pow_add 2 3];exact Nat.mul_le_mul_right _ (nG k7 (by decide))
 ·rw[eB];exact YW (j:=0) (nG (LwM.CP _ _ g1) h.sb) (by decide)
theorem ML{f:Ent->Nat} :∀{L:List Ent},(∀e∈L,f e<=60*e.k+12)->(L.map f).sum<=60*(L.map Ent.k).sum+12*L.length
 | [],_=>nO _
 | e::r,h=>by
  have:=ML λx hx=>h x (gY _ hx);have h1:=h e (by simp);simp only[mX,nB,mN]
  lia
theorem ZT{H:Hp}{d:Addr}{ae:Nat}{E E':List Ent}(h:DE H d ae E)(m4:ae<=4)(p:E'.Perm E):In0 (stx (E'.map Ent.tm)).cps.toList:=by
 cases er:E'.reverse with
 | nil=>
  have e0:E'=[]:=List.reverse_eq_nil_iff.mp er;subst e0;exact⟨by decide,by decide,by decide,xR (by decide),by decide⟩
 | cons x0 r=>
  have e1:stx (E'.map Ent.tm)=Str.join sepL ((x0::r).map λe=>ttx e.tm):=by
   cases e2:E' with
   | nil=>rw[e2]at er;cases er
   | cons a t=>
    show Str.join sepL (((a::t).map Ent.tm).reverse.map ttx)=_;rw[<-List.map_reverse,<-e2,er,List.map_map]
    rfl
  have hm:∀e∈x0::r,In1 e.k (ttx e.tm).cps.toList/\TmOk ae e.tm:=λe he=>by
   have he:e∈E:=p.mem_iff.mp (List.mem_reverse.mp (by rw[er];exact he));exact⟨ent_in (h.each e he) (h.k7 he) m4,LL (h.each e he) (h.k7 he)⟩
  have ln:(x0::r).length<=7:=by rw[<-er,List.length_reverse,p.length_eq];exact h.few
  have sk:((x0::r).map Ent.k).sum<=7:=by
   rw[<-er,List.map_reverse,List.sum_reverse];exact nG (nM (p.map Ent.k).sum_nat) h.sum
  rw[e1];have cj:∀p:Nat->Bool,(Str.join sepL ((x0::r).map λe=>ttx e.tm)).cps.toList.countP p=((x0::r).map λe=>(ttx e.tm).cps.toList.countP p).sum+sepL.cps.toList.countP p*r.length:=λp=>by
   rw[mX,xQ,vR,List.map_map,mQ,mX,nB];show _+(_+(r.map λe=>(ttx e.tm).cps.toList.countP p).sum)=_
   lia
  have lj:(Str.join sepL ((x0::r).map λe=>ttx e.tm)).cps.toList.length=((x0::r).map λe=>(ttx e.tm).cps.toList.length).sum+3*r.length:=by
   rw[mX,uC,vR,List.map_map,mQ,mX,nB];show _+(3*_+(r.map λe=>(ttx e.tm).cps.toList.length).sum)=_
   lia
  have l6:r.length<=6:=by rw[mN]at ln;lia
  refine⟨λc hc=>?_, ?_, ?_, ?_, ?_⟩
  ·rcases vH hc with hc | ⟨y,hy,hc⟩
   ·have:c=32∨c=43:=by
     simp [sepL]at hc
     lia
    lia
   ·obtain⟨e,he,rfl⟩:=nI.mp hy;exact(hm e he).1.asc c hc
  ·unfold sD;rw[cj];have:=qI (f:=λe:Ent=>(ttx e.tm).cps.toList.countP sgn) (B:=4) (l:=x0::r) λe he=>(hm e he).1.s;have e2:sepL.cps.toList.countP sgn=3:=by decide
   rw[e2]
   lia
  ·rw[lj];have:=qI (f:=λe:Ent=>(ttx e.tm).cps.toList.length) (B:=1172) (l:=x0::r) λe he=>by rw[jG];exact EU (hm e he).2 m4
   lia
  ·refine wU (y:=sepL) rfl (by decide) _ λp hp=>?_;obtain⟨e,he,rfl⟩:=nI.mp hp;exact(hm e he).1.r
  ·unfold tD;rw[cj];have:=ML (f:=λe=>(ttx e.tm).cps.toList.countP isD) (L:=x0::r) λe he=>(hm e he).1.t;have e2:sepL.cps.toList.countP isD=0:=by decide
   rw[e2]
   lia
structure Mid(z:List Nat):Prop where
 asc:∀c∈z,c<128
 s:sD z<=238
 l:z.length<=25000
 r:∃r,2<=r/\Rn r z/\(r<=240∨tD z<=511)
theorem In0.mid{z w:List Nat}(h:In0 z)(b:Bent z w):Mid w:=by
 refine⟨b.asc h.asc,nG b.s (by have:=h.s;lia),nG b.l (by have:=h.l;lia), ?_⟩;rcases b.r 240 (by decide) h.r with r | ⟨r,t⟩
 ·exact⟨240,by decide,r,.inl gC⟩
 ·exact⟨481,by decide,r,.inr (nG t (by have:=h.t;lia))⟩
theorem JV{z:Str}(asc:∀c∈z.cps.toList,c<128)(s:sD z.cps.toList<=1400)(l:z.cps.toList.length<=100000)(r:Rn 570 z.cps.toList):TxR z:=by
 rw[jG]at l;refine⟨l,λh=>⟨⟨asc,by lia,r⟩, ?_⟩⟩;have w:=whole sgn z ⟨#[32,43,32]⟩;have e:(⟨#[32,43,32]⟩:Str).cps.toList.countP sgn=3:=by decide
 rw[e]at w;unfold sD at s
 lia
theorem Mid.txr{z:Str}(h:Mid z.cps.toList):TxR z:=by
 obtain⟨r,r2,hr,k⟩:=h.r;refine JV h.asc (nG h.s (by decide)) (nG h.l (by decide)) ?_;rcases k with k | k
 ·exact hr.mono (by lia)
 ·exact(xR k).mono (by decide)
theorem Mid.bent{z w:Str}(h:Mid z.cps.toList)(b:Bent z.cps.toList w.cps.toList):TxR w:=by
 obtain⟨r,r2,hr,k⟩:=h.r;refine JV (b.asc h.asc) (nG b.s (by have:=h.s;lia)) (nG b.l (by have:=h.l;lia)) ?_;have two:∀q,2<=q->q<=511->Rn q z.cps.toList->(q<=240∨tD z.cps.toList<=511)->Rn 570 w.cps.toList:=λq q2 q5 hq k=>by
  rcases b.r q q2 hq with h1 | ⟨h1,t⟩
  ·exact h1.mono (by lia)
  ·rcases k with k | k
   ·exact h1.mono (by lia)
   ·exact(xR (nG t (by lia:tD z.cps.toList+1<=512))).mono (by decide)
 rcases k with k | k
 ·exact two r r2 (by lia) hr (.inl k)
 ·exact two 511 (by decide) gC (xR k) (.inr k)
def okQ(L:List Nat):Bool:=(match L with | []=>true | c::_=>!isD c)&&(decide (tD L<=2)&&(decide (L.length<=15)&&(decide (sD L<=4)&&L.all λc=>decide (c<128))))
theorem bentR{z q:Str}(h:okQ q.cps.toList=true):Bent z.cps.toList (z++q).cps.toList:=by
 unfold okQ at h;simp only[mO,decide_eq_true_eq,List.all_eq_true]at h;obtain⟨h1,h2,h3,h4,h5⟩:=h;rw[jQ];have:=EQ (z:=z.cps.toList) (p:=[]) (q:=q.cps.toList) (.inl rfl) (by
  cases e:q.cps.toList with
  | nil=>exact .inl rfl
  | cons c r=>rw[e]at h1;exact .inr ⟨c,r,rfl,by simpa using h1⟩) (nO _) h2 (nO _) h3 (nO _) h4 (λ_ h=>nomatch h) h5
 exact this
theorem bentL{z p:Str}(h:okQ p.cps.toList.reverse=true):Bent z.cps.toList (p++z).cps.toList:=by
 unfold okQ at h;simp only[mO,decide_eq_true_eq,List.all_eq_true,List.mem_reverse,List.length_reverse]at h;obtain⟨h1,h2,h3,h4,h5⟩:=h;rw[jQ];have:=EQ (z:=z.cps.toList) (p:=p.cps.toList) (q:=[]) (by
  cases e:p.cps.toList.reverse with
  | nil=>exact .inl (List.reverse_eq_nil_iff.mp e)
  | cons c r=>rw[e]at h1;exact .inr ⟨r.reverse,c,by rw[<-List.reverse_reverse p.cps.toList,e];simp,by simpa using h1⟩) (.inl rfl) (by unfold tD at *;rwa [List.countP_reverse]at h2) (nO _) h3 (nO _) (by unfold sD at *;rwa [List.countP_reverse]at h4) (nO _) h5 (λ_ h=>nomatch h)
 rwa [List.append_nil]at this
def items(z:Str):List Str:=[z++Str.ofString " ",Str.ofString " "++z,z++Str.ofString " + ",Str.ofString " + "++z,z++Str.ofString " + 0",Str.ofString "",z++Str.ofString " a",z++Str.ofString " a^1",Str.ofString "-0",
 Str.ofString "00",z++Str.ofString " a^17",z++Str.ofString " d^2",Str.ofString "-"++z,Str.ofString "+"++z,z++Str.ofString "/1",Str.ofString "1 "++z,Str.ofString "a",z++Str.ofString "\n",z++Str.ofString "\t",z++Str.ofString "^2\n"]
theorem LD(z:Str):∀w∈items z,Bent z.cps.toList w.cps.toList:=by
 intro w hw;simp only[items,mY,mL,or_false]at hw;rcases hw with rfl | rfl | rfl | rfl | rfl | rfl | rfl | rfl | rfl | rfl | rfl | rfl | rfl | rfl | rfl | rfl | rfl | rfl | rfl | rfl
 all_goals first | exact bentR (by decide +kernel) | exact bentL (by decide +kernel) | exact LU (by decide +kernel) (by decide +kernel) (by decide +kernel) (by decide +kernel)
theorem VQ{α:Type}{l:List α}{i:Int}(h0:0<=i)(h1:i<l.length):∃c,atI l i=some c/\c∈l:=by
 obtain⟨j,rfl⟩:=gN h0;have hj:j<l.length:=by lia
 have e:l[j]? = some l[j]:=gK hj;exact⟨l[j],kY e,List.getElem_mem hj⟩
theorem zE{p:Addr}{H H':Hp}(s:Same H H'):But p H H':=λc o h _=>s c o h
theorem VW{H:Hp}{q r:Addr}{o:HO}(h:upd H q o r=none):H r=none:=by
 by_cases e:r=q
 ·rw[e,jF]at h;cases h
 ·rwa [jN e]at h
theorem EZ(z:Str)(k:Nat):(Txt.slice z none (some (k:Int))).length<=z.length:=by
 rw[<-jG,yZ,<-jG,mK];exact Nat.min_le_right _ _
theorem zC(z:Str)(k:Nat):(Txt.slice z (some (k:Int)) none).length<=z.length:=by
 rw[<-jG,wG,<-jG,List.length_drop];exact Nat.sub_le _ _
theorem UL{ps:List Str}{z y:Str}(hy:1<=y.length)(hz:z.length<=30000)(hs:(ps.map (·.length)).sum+ps.length<=2*(((Txt.split z y).map (·.length)).sum+(Txt.split z y).length)):JoinOk sepL ps=true:=by
 have:=PyProof.Rows.split_weight z y hy;exact PyProof.Rows.joinOk_of_weight (by lia) (by decide)
def spBent:Sp:=λvs H Q _=>∃(tp:Addr) (z:Str) (B:Int),vs=[.ref tp,.str z]/\∃cl,Tape cl H tp B/\B<2^38/\(∀c∈z.cps.toList,c<128)/\z.length<=30000/\
 ∀(w:Str) (H':Hp),Tape cl H' tp (B+5)->But tp H H'->Bent z.cps.toList w.cps.toList->Q (.str w) H'
variable{P:Program}{w:World}{K:nW}{mg:Str->Option Value}{base:Heap}{f fd:_}
theorem scBt:FnScope ["tape","text","at","sign","way","texts","some"] ["tape","text"] (jJ MV):=scK (by decide +kernel)
theorem XG(F:Fun K "_law_bent_text" "_law_bent_text" MV f fd)(T:Txt mg)(GD:DG P w K mg base 1 "_law_draw" uY ["tape","many"] spDraw):FnOk P w K mg base CX0 2 f fd ["tape","text"] spBent:=by
 refine F.ok scBt (λvs H Q E h=>?_) (λcdv A outer s H vs Q E hr h=>?_)
 ·obtain⟨tp,z,B,rfl,_⟩:=h
  rfl
 ·obtain⟨tp,z,B,rfl,cl,hT,hB,asc,zl,go⟩:=h;have hr1:Room 1 _:=hr.mono (by decide);refine⟨_,jB (jL (i:=2) scBt.nd rfl (Or.inl rfl) (cal GD hr1 (jA (pv 0) (jA (jH qB (jU qN (by rfl) T.len PySem.boot_len (jA (pv 1) jD)) jC) jD)))) (jB (jL (i:=3) scBt.nd rfl (Or.inl rfl) (kB LC jO (cal GD hr1 (jA (pv 0) (jA jC jD))) (λ_ _=>rfl))) (jB (jL (i:=4) scBt.nd rfl (Or.inl rfl) (cal GD hr1 (jA (pv 0) (jA jC jD)))) (jB (jX (jI zL (pv 4) jC (jR _)) (jE (jK (jH jP (kN xB (pv 1) qC (kR (pv 2))) (kN xB (pv 1) (kR (jH qB (pv 2) jC)) qC)))) jM) (jB (jX (jI zL (pv 4) jC (jR _)) (jE (jK (jH jP (jH jP (kN xB (pv 1) qC (kR (pv 2))) (pv 3)) (kN xB (pv 1) (kR (pv 2)) qC)))) jM) (jB (jX (jI zL (pv 4) jC (jR _)) (jE (jK (jH jP (jH jP (kN xB (pv 1) qC (kR (pv 2))) (pv 3)) (kN xB (pv 1) (kR (jH qB (pv 2) jC)) qC)))) jM) (jB (jL (i:=5) scBt.nd rfl (Or.inl rfl) (qQ PySem.F.plainAttrs_str PySem.F.slot_str_split PySem.F.type_str_split yG (pv 1) (jA (kB kX (qE (jA jO (jA jO jD))) (cal GD hr1 (jA (pv 0) (jA jC jD))) (λ_ _=>rfl)) jD))) (jB (jX (jI vC (pv 4) jC (jR _)) (jE (jK (qQ PySem.F.plainAttrs_str PySem.F.slot_str_join PySem.F.type_str_join yR jO (jA (IF (pv 5) (kR (wX yM jC))) jD)))) jM) (jB (jX (jI vC (pv 4) jC (jR _)) (jE (jK (qQ PySem.F.plainAttrs_str PySem.F.slot_str_join PySem.F.type_str_join yR jO (jA (jH KO (kN AL (pv 5) qC (kR jC)) (pv 5)) jD)))) jM) (jB (jL (i:=6) scBt.nd rfl (Or.inl rfl) (qE (jA (jH jP (pv 1) jO) (jA (jH jP jO (pv 1)) (jA (jH jP (pv 1) jO) (jA (jH jP jO (pv 1)) (jA (jH jP (pv 1) jO) (jA jO (jA (jH jP (pv 1) jO) (jA (jH jP (pv 1) jO) (jA jO jD))))))))))) (jB (jL (i:=6) scBt.nd rfl (Or.inl rfl) (jH KO (pv 6) (qE (jA jO (jA (jH jP (pv 1) jO) (jA (jH jP (pv 1) jO) (jA (jH jP jO (pv 1)) (jA (jH jP jO (pv 1)) (jA (jH jP (pv 1) jO) (jA (jH jP jO (pv 1)) (jA jO jD))))))))))) (jB (jL (i:=6) scBt.nd rfl (Or.inl rfl) (jH KO (pv 6) (qE (jA (jH jP (pv 1) jO) (jA (jH jP (pv 1) jO) (jA (jH jP (pv 1) jO) jD)))))) (jE (jK (kB kX (pv 6) (cal GD hr1 (jA (pv 0) (jA jC jD))) (λ_ _=>rfl))))))))))))))), ?_⟩
  try dsimp only[cxK]
  have hz:∀k,k<=100->z.length+k<=sizeLine:=λk hk=>nG (Nat.add_le_add zl hk) (by decide);have hz':∀k,k<=100->k+z.length<=sizeLine:=λk hk=>by rw[Nat.add_comm];exact hz k hk
  have zs:z.length<=sizeLine:=hz 0 (by decide);refine⟨_,rfl,_,rfl,_,rfl,zs,_,_,rfl,rfl,tp,_,B,rfl,cl,hT,by lia,by lia,by lia,λat' H1 a0 a1 T1 b1=>?_⟩;refine⟨_,rfl,tp,_,_,rfl,cl,T1,by lia,by decide,by decide,λk2 H2 c0 c1 T2 b2=>?_⟩;obtain⟨c,hc,hcm⟩:=VQ (l:=(Str.ofString "0123456789abcde -/+^.*A_\n\t").cps.toList) c0 (Int.lt_of_lt_of_le c1 (by decide +kernel));have c128:c<128:=by
   have:(Str.ofString "0123456789abcde -/+^.*A_\n\t").cps.toList.all (λc=>decide (c<128))=true:=by decide +kernel
   exact mH (List.all_eq_true.mp this c hcm)
  refine⟨_,_,c,rfl,rfl,by decide +kernel,hc, ?_⟩;refine⟨_,rfl,tp,_,_,rfl,cl,T2,by lia,by decide,by decide,λway H3 w0 w1 T3 b3=>?_⟩;have b03:But tp H H3:=b1.trans (b2.trans b3);obtain⟨a,rfl⟩:=gN a0;have fin:∀(w:Str) (H':Hp),Tape cl H' tp (B+5)->But tp H H'->Bent z.cps.toList w.cps.toList->Q (.str w) H':=go;have wv:∀n:Int,decide (V.int way=V.int n)=decide (way=n):=λn=>decide_eq_decide.mpr ⟨λe=>by injection e,λe=>by rw[e]⟩;have la:(Txt.slice z none (some (a:Int))).length<=z.length:=EZ z a;have lb:(Txt.slice z (some (a:Int)) none).length<=z.length:=zC z a;have lc:(Txt.slice z (some ((a:Int)+1)) none).length<=z.length:=zC z (a+1);have ea:(Txt.slice z none (some (a:Int))).cps.toList=z.cps.toList.take a:=yZ z a;have eb:(Txt.slice z (some (a:Int)) none).cps.toList=z.cps.toList.drop a:=wG z a;have ec:(Txt.slice z (some ((a:Int)+1)) none).cps.toList=z.cps.toList.drop (a+1):=wG z (a+1);have big2:∀x y:Str,x.length<=z.length+1->y.length<=z.length->x.length+y.length<=sizeLine:=λx y hx hy=>nG (show _<=60001 by lia) (by decide);have c1l:(⟨#[c]⟩:Str).length=1:=rfl;have one:∀x∈[c],x<128:=λx hx=>by rw[mB.mp hx];exact c128
  have T35:=T3.mono (Same.refl _) (show B+1+1+1<=B+5 by lia);refine⟨_,rfl,_,_,rfl,rfl,_,rfl, ?_⟩;by_cases w3:way<3
  ·refine kQ (mT w3) ⟨_,rfl,_,rfl,_,rfl,_,rfl,zs,_,rfl,_,rfl,_,_,rfl,rfl,_,rfl,_,rfl,zs,_,_,rfl,rfl,big2 _ _ (by lia) lc,fin _ H3 T35 b03 ?_⟩;rw[jQ,ea,ec];have:=uW (z:=z.cps.toList) (x:=[]) (Nat.le_succ a) (nO _) (λ_ h=>nomatch h)
   rwa [List.append_nil]at this
  refine kW (mR w3) ⟨_,rfl,_,_,rfl,rfl,_,rfl, ?_⟩;have l1:(Txt.slice z none (some (a:Int))++(⟨#[c]⟩:Str)).length<=z.length+1:=by rw[Str.length_append,c1l];lia
  by_cases w6:way<6
  ·refine kQ (mT w6) ⟨_,rfl,_,rfl,_,rfl,_,rfl,zs,_,rfl,_,_,rfl,rfl,nG (Nat.add_le_add_right la 1) (hz 1 (by decide)),_,rfl,_,rfl,_,rfl,_,rfl,zs,_,_,rfl,rfl,big2 _ _ l1 lb,fin _ H3 T35 b03 ?_⟩;rw[jQ,jQ,ea,eb];exact uW (nN a) (nN 1) one
  refine kW (mR w6) ⟨_,rfl,_,_,rfl,rfl,_,rfl, ?_⟩;by_cases w8:way<8
  ·refine kQ (mT w8) ⟨_,rfl,_,rfl,_,rfl,_,rfl,zs,_,rfl,_,_,rfl,rfl,nG (Nat.add_le_add_right la 1) (hz 1 (by decide)),_,rfl,_,rfl,_,_,rfl,rfl,_,rfl,_,rfl,zs,_,_,rfl,rfl,big2 _ _ l1 lc,fin _ H3 T35 b03 ?_⟩;rw[jQ,jQ,ea,ec];exact uW (Nat.le_succ a) (nN 1) one
  refine kW (mR w8) ?_;refine⟨_,rfl,rfl,gF,λl H4 n4 s4 e4=>⟨_,rfl,tp,_,_,rfl,cl,T3.mono s4 (nP _),by lia,by decide,by decide,λk H5 k0 k1 T5 b5=>?_⟩⟩;have lt:l≠tp:=(T3.off n4).1;have e5:=b5 _ _ e4 lt;have b05:But tp H H5:=b03.trans ((zE s4).trans b5);obtain⟨y,hy0,hyS,hyk⟩:∃y:Str,1<=y.length/\1<=sD y.cps.toList/\atI [V.str (Str.ofString " + "),V.str (Str.ofString " ")] k=some (.str y):=by
   rcases(by lia:k=0∨k=1)with rfl | rfl
   ·exact⟨Str.ofString " + ",by decide,by decide +kernel,kY (j:=0) rfl⟩
   ·exact⟨Str.ofString " ",by decide,by decide +kernel,kY (j:=1) rfl⟩
  refine⟨l,_,k,_,rfl,rfl,SqL.of e5,hyk,_,_,rfl,rfl,beq_eq_false_iff_ne.mpr (by lia),hz 2 (by decide),λp H6 n6 s6 e6=>?_⟩;have b06:But tp H H6:=b05.trans (zE s6);obtain⟨x0,xr,es⟩:=qS z y;have sw:∀f:Str->Nat,((Txt.split z y).map f).sum=f x0+(xr.map f).sum:=λf=>by rw[es,mX,nB]
  refine⟨_,rfl,rfl,_,rfl, ?_⟩;rw[wv];by_cases we:way=8
  ·refine kQ (mT we) ⟨rfl,_,rfl,1,rfl,_,rfl,rfl,p,_,rfl,SqL.of e6,λp2 H7 n7 s7 e7=>?_⟩;rw[<-List.map_reverse]at e7;refine⟨_,p2,_,rfl,rfl,SqL.of e7,UL hy0 zl ?_,fin _ H7 (T5.mono (s6.trans s7) (by lia)) (b06.trans (zE s7)) ?_⟩
   ·rw[MK,List.length_reverse]
    lia
   ·exact CZ hyS (λq hq=>List.mem_reverse.mp hq) (by rw[es];simp) x0 (by rw[es];simp) (λf=>by rw[MK];lia) (by rw[List.length_reverse];lia)
  refine kW (mR we) ⟨_,rfl,rfl,_,rfl, ?_⟩;rw[wv];by_cases wn:way=9
  ·refine kQ (mT wn) ⟨rfl,_,rfl,_,rfl,p,_,rfl,SqL.of e6,λq nq=>?_⟩;have qp:p≠q:=λh=>by rw[<-h,e6]at nq;cases nq
   have ln:xr.length<=30000:=by
    have:=PyProof.Rows.split_le z y;have w:=PyProof.Rows.split_weight z y hy0;rw[es,mN]at w
    lia
   rw[es]at e6;refine⟨_,rfl,q,p,_,_,rfl,rfl,jF,by rw[jN qp];exact e6, ?_,λr nr=>?_⟩
   ·have ec1:(xF ((Txt.split z y).map V.str) none (some 1)).length<=1:=by
     rw[xF,HT.sIx_none,show(1:Int)=((1:Nat):Int)from rfl,HT.sIx_nat,mK,Nat.sub_zero]
     lia
    rw[mQ,mN];exact nG (show _<=30002 by lia) (by decide)
   have ecut:xF ((Txt.split z y).map V.str) none (some 1)=[V.str x0]:=by
    rw[es,xF,HT.sIx_none,show(1:Int)=((1:Nat):Int)from rfl,HT.sIx_nat,mX,List.drop_zero,Nat.sub_zero,mN,show min 1 ((xr.map V.str).length+1)=1 by lia]
    rfl
   have s7:Same H6 (upd (upd H6 q (.lst (xF ((Txt.split z y).map V.str) none (some 1)))) r (.lst (xF ((Txt.split z y).map V.str) none (some 1)++(x0::xr).map V.str))):=kT (jW _ nq) (VW nr);refine⟨_,r,x0::x0::xr,rfl,rfl,SqL.of (by rw[jF,ecut];rfl),UL hy0 zl ?_,fin _ _ (T5.mono (s6.trans s7) (by lia)) (b06.trans (zE s7)) ?_⟩
   ·rw[es];simp only[mX,nB,mN]
    lia
   ·refine CZ hyS (λw hw=>?_) (by simp) x0 (by rw[es];simp) (λf=>?_) ?_
    ·rw[es];rcases mY.mp hw with rfl | hw
     ·simp
     ·exact hw
    ·rw[sw];simp only[mX,nB]
     lia
    ·rw[es];simp
  refine kW (mR wn) ?_;refine⟨_,rfl,_,_,rfl,rfl,hz _ (by decide),_,rfl,_,_,rfl,rfl,hz' _ (by decide),_,rfl,_,_,rfl,rfl,hz _ (by decide),_,rfl,_,_,rfl,rfl,hz' _ (by decide),_,rfl,_,_,rfl,rfl,hz _ (by decide),_,rfl,_,_,rfl,rfl,hz _ (by decide),_,rfl,_,_,rfl,rfl,hz _ (by decide),(by show 9<=sizeLine;decide),λl1 H7 n7 s7 e7=>?_⟩;refine⟨_,rfl,_,rfl,_,_,rfl,rfl,hz _ (by decide),_,rfl,_,_,rfl,rfl,hz _ (by decide),_,rfl,_,_,rfl,rfl,hz' _ (by decide),_,rfl,_,_,rfl,rfl,hz' _ (by decide),_,rfl,_,_,rfl,rfl,hz _ (by decide),_,rfl,_,_,rfl,rfl,hz' _ (by decide),(by show 8<=sizeLine;decide),λl2 H8 n8 s8 e8=>⟨l1,l2,_,_,rfl,rfl,s8 _ _ e7,e8,(by show 9+8<=sizeLine;decide),λr1 nr1=>?_⟩⟩;have s68:Same H6 (upd H8 r1 _):=(s7.trans s8).trans (jW (.lst ([V.str (z++Str.ofString " "),V.str (Str.ofString " "++z),V.str (z++Str.ofString " + "),V.str (Str.ofString " + "++z),V.str (z++Str.ofString " + 0"),V.str (Str.ofString ""),V.str (z++Str.ofString " a"),V.str (z++Str.ofString " a^1"),V.str (Str.ofString "-0")]++[V.str (Str.ofString "00"),V.str (z++Str.ofString " a^17"),V.str (z++Str.ofString " d^2"),V.str (Str.ofString "-"++z),V.str (Str.ofString "+"++z),V.str (z++Str.ofString "/1"),V.str (Str.ofString "1 "++z),V.str (Str.ofString "a")])) nr1);refine⟨_,rfl,_,rfl,_,_,rfl,rfl,hz _ (by decide),_,rfl,_,_,rfl,rfl,hz _ (by decide),_,rfl,_,_,rfl,rfl,hz _ (by decide),(by show 3<=sizeLine;decide),λl3 H9 n9 s9 e9=>⟨r1,l3,_,_,rfl,rfl,s9 _ _ jF,e9,(by show 17+3<=sizeLine;decide),λr2 nr2=>?_⟩⟩
  have e10:(upd H9 r2 (.lst ((items z).map V.str))) r2=some (.lst ((items z).map V.str)):=jF;have s610:Same H6 (upd H9 r2 (.lst ((items z).map V.str))):=(s68.trans s9).trans (jW _ nr2);have T10:=T5.mono (s6.trans s610) (nP _);have nt:r2≠tp:=((T5.mono (s6.trans (s68.trans s9)) (nP _)).off nr2).1;refine⟨_,rfl,_,rfl,tp,_,_,rfl,cl,T10,by lia,by decide,by decide,λj H11 j0 j1 T11 b11=>?_⟩;obtain⟨v,hv,hm⟩:=VQ (l:=(items z).map V.str) j0 j1;obtain⟨w,hw,rfl⟩:=nI.mp hm;refine⟨r2,_,j,_,rfl,rfl,SqL.of (b11 _ _ e10 nt),hv,fin w H11 (T11.mono (Same.refl _) (by lia)) (b06.trans ((zE s610).trans b11)) (LD z w hw)⟩
structure Lt(k:Nat)(z:List Nat):Prop where
 asc:∀c∈z,c<128
 s:sD z<=k
 l:z.length<=5*k
 t:tD z<=2*k
def spLet:Sp:=λvs H Q _=>∃(p:Addr) (a b:Nat),vs=[.ref p]/\H p=some (.tup [.int a,.int b])/\a<=16/\b<=16/\∀w H',Same H H'->Lt 2 w.cps.toList->Q (.str w) H'
inductive LtI(H:Hp)(p:Addr)(i:Nat):L2.St->Hp->Prop where
 | mk {H':Hp} {z:Str} {u v:Option V} (s:Same H H') (z':Lt i z.cps.toList):LtI H p i [some (.ref p),some (.str z),u,v] H'
theorem Lt.add{i:Nat}{z y:Str}(h:Lt i z.cps.toList)(a:∀c∈y.cps.toList,c<128)(s:sD y.cps.toList<=1)(l:y.cps.toList.length<=5)(t:tD y.cps.toList<=2):Lt (i+1) (z++y).cps.toList:=by
 rw[jQ];refine⟨λc hc=>(mS.mp hc).elim (h.asc c) (a c), ?_, ?_, ?_⟩
 ·have:=h.s;unfold sD at *;rw[List.countP_append]
  lia
 ·have:=h.l;rw[List.length_append]
  lia
 ·have:=h.t;unfold tD at *;rw[List.countP_append]
  lia
theorem scLt:FnScope ["powers","text","letter","power"] ["powers"] (jJ wT):=scK (by decide +kernel)
theorem KQ(F:Fun K "_law_letters" "_law_letters" wT f fd)(T:Txt mg):FnOk P w K mg base CX0 1 f fd ["powers"] spLet:=by
 refine F.ok scLt (λvs H Q E h=>?_) (λcdv A outer s H vs Q E hr h=>?_)
 ·obtain⟨p,a,b,rfl,_⟩:=h
  rfl
 ·obtain⟨p,a,b,rfl,hp,a6,b6,go⟩:=h;refine⟨_,jB (jL (i:=1) scLt.nd rfl (Or.inl rfl) (jO)) (jB (qU PassesOwn.never rfl (NF (by rfl) T.zip (jA jO (jA (pv 0) jD))) (vS rfl (jZ (jS (i:=2) scLt.nd rfl (Or.inl rfl)) (jZ (jS (i:=3) scLt.nd rfl (Or.inl rfl)) qW))) (jE (jL (i:=1) scLt.nd rfl (Or.inl rfl) (jH jP (pv 1) (kB kX (qE (jA jO (jA (jH jP jO (pv 2)) (jA (jH jP (jH jP (jH jP jO (pv 2)) jO) (kP vN (by rfl) T.str boot_str (jA (pv 3) jD))) jD)))) (jU (EK rfl) (by rfl) T.min JT (jA (pv 3) (jA jC jD))) (λ_ _=>rfl)))))) (jE (jK (pv 1)))), ?_⟩;try dsimp only[cxK]
  refine zX ?_;refine⟨_,rfl,_,p,rfl,by decide +kernel,⟨_,SqT.of hp⟩, ?_⟩;refine L2.JH (ys:=[V.int a,V.int b]) (LtI H p) (show 2<=(Str.ofString "abcd").length by decide +kernel) (.mk (Same.refl _) ⟨λ_ h=>(by cases h),by decide,by decide,by decide⟩) (λi σ H2 _ h=>?_) (λi c v q σ H2 hc hv hq h=>?_) (fun σ H2 h=>?_)
  ·obtain⟨s2,_⟩:=h;exact SqT.of (s2 _ _ hp)
  ·obtain⟨s2,hz⟩:=h;rename_i z _ _;obtain⟨n,rfl,n0,n6,i2⟩:∃n:Int,v=.int n/\0<=n/\n<=16/\i<2:=by
    match i,hv with
    | 0,hv=>exact⟨a,(Option.some.inj hv).symm,by lia,by lia,by decide⟩
    | 1,hv=>exact⟨b,(Option.some.inj hv).symm,by lia,by lia,by decide⟩
   have hc4:97<=c/\c<=100:=by
    have e:(Str.ofString "abcd").cps = #[97,98,99,100]:=by decide +kernel
    rw[e]at hc
    match i,i2,hc with
    | 0,_,hc=>have h:some 97=some c:=hc;injection h with h;lia
    | 1,_,hc=>have h:some 98=some c:=hc;injection h with h;lia
   have zl:z.length<=10:=by have:=hz.l;rw[jG]at this;lia
   have di:=GQ (n:=n.toNat) (k:=2) (by decide) (by lia);have li:(itx n).length<=2:=by rw[<-jG,xU n0];exact di
   refine⟨q,_,rfl,SqT.of jF,rfl,_,_,rfl,_,_,rfl,rfl, ?_⟩;refine⟨_,rfl,_,rfl,_,_,rfl,rfl,(by show 1+1<=sizeLine;decide),_,rfl,_,_,rfl,rfl,(by show 1+1<=sizeLine;decide),_,_,rfl,rfl,(by show 1+1+1<=sizeLine;decide),_,rfl,n,rfl,wJ (k:=10) (by lia) (by decide) (by decide),_,_,rfl,rfl, ?_,(by show 3<=sizeLine;decide),λr H8 n8 s8 e8=>?_⟩
   ·show 1+1+1+(itx n).length<=sizeLine;exact nG (show _<=6 by lia) (by decide)
   have sc:sgn c=false:=FB (by lia);have dc:isD c=false:=Bool.eq_false_iff.mpr λh=>by have:=isD_of.mp h;lia
   have pk:∃y:Str,atI ([V.str (Str.ofString ""),V.str (Str.ofString " "++⟨#[c]⟩),V.str (Str.ofString " "++⟨#[c]⟩++Str.ofString "^"++itx n)]) (if 2<n then 2 else n)=some (.str y)/\Lt 1 y.cps.toList:=by
    rcases(by lia:n=0∨n=1∨1<n)with h | h | h
    ·subst h;exact⟨_,kY (j:=0) rfl,λ_ h=>(by cases h),by decide,by decide,by decide⟩
    ·subst h;refine⟨_,kY (j:=1) rfl, ?_⟩;have e:(Str.ofString " "++(⟨#[c]⟩:Str)).cps.toList=[32,c]:=by rw[jQ];rfl
     rw[e];refine⟨λx hx=>?_, ?_,by simp, ?_⟩
     ·simp only[mY,mL,or_false]at hx
      lia
     ·show [32,c].countP sgn<=1;rw[List.countP_cons,List.countP_cons_of_neg (by rw[sc];decide)]
      decide
     ·show [32,c].countP isD<=2;exact nG List.countP_le_length (by simp)
    ·have e2:(if 2<n then 2 else n)=((2:Nat):Int):=by split<;>lia
     rw[e2];refine⟨_,kY (j:=2) rfl, ?_⟩;have e:(Str.ofString " "++(⟨#[c]⟩:Str)++Str.ofString "^"++itx n).cps.toList=32::c::94::dg n.toNat:=by rw[jQ,jQ,jQ,xU n0];rfl
     rw[e];have hd:=wO n.toNat;refine⟨λx hx=>?_, ?_,by simp;lia, ?_⟩
     ·simp only[mY]at hx;rcases hx with rfl | rfl | rfl | hx
      ·decide
      ·lia
      ·decide
      ·have:=hd x hx;lia
     ·show(32::c::94::dg n.toNat).countP sgn<=1;have:=SK (L:=dg n.toNat) λx hx=>FB (by have:=hd x hx;lia);unfold sD at this;rw[List.countP_cons,List.countP_cons_of_neg (by rw[sc];decide),List.countP_cons_of_neg (by decide),this]
      decide
     ·show(32::c::94::dg n.toNat).countP isD<=2;rw[List.countP_cons_of_neg (by decide),List.countP_cons_of_neg (by rw[dc];decide),List.countP_cons_of_neg (by decide)];exact nG List.countP_le_length di
   obtain⟨y,y1,y2⟩:=pk;have yl:y.length<=5:=by have:=y2.l;rw[jG]at this;lia
   refine⟨_,rfl,n,2,rfl,r,_,_,_,rfl,rfl,SqL.of e8,y1,_,_,rfl,rfl,nG (show _<=15 by lia) (by decide), ?_⟩;exact .mk (s2.trans ((jW _ hq).trans s8)) (hz.add y2.asc y2.s y2.l y2.t)
  ·obtain⟨s2,hz⟩:=h;exact⟨_,rfl,go _ H2 s2 hz⟩
def tri:Nat->Nat
 | 0=>0
 | n+1=>tri n+(n+1)
def spLong:Sp:=λvs H Q _=>∃n:Int,vs=[.int n]/\0<=n/\n<=5000/\∀w H',Same H H'->TxR w->Q (.str w) H'
def EdsI(H:Hp)(e:Addr)(n:Nat)(H':Hp):Prop:=Same H H'/\∃ws:List Str,H' e=some (.lst (ws.map V.str))/\ws.length=n/\∀w∈ws,Lt 2 w.cps.toList
inductive Ed1(H:Hp)(n:Int)(e:Addr)(i:Nat):L2.St->Hp->Prop where
 | mk {u2 u3 u4 u5 u6 u7:Option V} {H':Hp} (h:EdsI H e (tri i) H'):Ed1 H n e i [some (.int n),some (.ref e),u2,u3,u4,u5,u6,u7] H'
inductive Ed2(H:Hp)(n:Int)(e:Addr)(i:Nat)(j:Nat):L2.St->Hp->Prop where
 | mk {u3 u4 u5 u6 u7:Option V} {H':Hp} (h:EdsI H e (tri i+j) H'):Ed2 H n e i j [some (.int n),some (.ref e),some (.int ((17:Nat)-1-(i:Int))),u3,u4,u5,u6,u7] H'
structure Pc(z:List Nat):Prop where
 asc:∀c∈z,c<128
 s:sD z<=2
 l:z.length<=60
 t:tD z<=60
inductive LgI(H:Hp)(n:Int)(e l:Addr)(r:Int)(ws:List Str)(i:Nat):L2.St->Hp->Prop where
 | mk {u2 u3 u7:Option V} {H':Hp} {ps:List Str} (s:Same H H') (ee:H' e=some (.lst (ws.map V.str))) (el:H' l=some (.lst (ps.map V.str))) (ln:ps.length=i) (h:∀p∈ps,Pc p.cps.toList):LgI H n e l r ws i [some (.int n),some (.ref e),u2,u3,some (.int r),some (.int 153),some (.ref l),u7] H'
theorem JI{n:Nat}{g:TG}{tb:TS}{D:Ends}{σ:L2.St}{H:Hp}(Pv:Nat->L2.St->Hp->Prop)(h0:Pv 0 σ H)
  (hs:∀i σ H,i<n->Pv i σ H->g (.int ((n:Int)-1-i)) σ H fun σ2 H2=>tb { D with nx:=Pv (i+1),ct:=Pv (i+1),bk:=D.nx } σ2 H2) (hd:∀σ H,Pv n σ H->D.nx σ H) :
  ∃W:Nat->Nat->L2.St->Hp->Prop,(∃m,W 0 m σ H)/\∀i m σ H,W i m σ H->
   ((Itd n).stop i H/\D.nx σ H)∨((Itd n).go i H/\∃N:L2.St->Hp->Prop,(∀σ' H',N σ' H'->∃m',m'<m/\W (i+1) m' σ' H')/\∀x H',(Itd n).yld i H x H'->g x σ H' fun σ2 H2=>tb { D with nx:=N,ct:=N,bk:=D.nx } σ2 H2):=by
 refine⟨λi m σ H=>m=n-i/\i<=n/\Pv i σ H,⟨n,by simp,nO _,h0⟩, ?_⟩;rintro i m σ H ⟨rfl,hi,p⟩;by_cases hlt:i<n
 ·refine .inr ⟨hlt,Pv (i+1),fun σ' H' p'=>⟨n-(i+1),by lia,rfl,hlt,p'⟩,λx H' y=>?_⟩;obtain⟨e,y⟩:=y;subst e y;exact hs i σ _ hlt p
 ·have e:i=n:=by lia
  subst e;exact .inl ⟨nN _,hd σ H p⟩
theorem scLg:FnScope ["signs","ends","one","other","rest","many","texts","k"] ["signs"] (jJ MT):=scK (by decide +kernel)
theorem XC(F:Fun K "_law_long_text" "_law_long_text" MT f fd)(T:Txt mg)(GE:DG P w K mg base 1 "_law_letters" wT ["powers"] spLet):FnOk P w K mg base CX0 2 f fd ["signs"] spLong:=by
 refine F.ok scLg (λvs H Q E h=>?_) (λcdv A outer s H vs Q E hr h=>?_)
 ·obtain⟨n,rfl,_⟩:=h
  rfl
 ·obtain⟨n,rfl,n0,n5,go⟩:=h;refine⟨_,jB (jL (i:=1) scLg.nd rfl (Or.inl rfl) (qE jD)) (jB (qU PassesOwn.never rfl (NG (by rfl) T.rng (jA jC (jA (wX yM jC) (jA (wX yM jC) jD)))) (jS (i:=2) scLg.nd rfl (Or.inl rfl)) (jE (qU PassesOwn.never rfl (NG (by rfl) T.rng (jA (jH yQ jC (pv 2)) (jA (wX yM jC) (jA (wX yM jC) jD)))) (jS (i:=3) scLg.nd rfl (Or.inl rfl)) (jE (xH (qQ PySem.F.plainAttrs_list PySem.F.slot_list_append PySem.F.type_list_append qP (pv 1) (jA (cal GE hr (jA (qD (jA (pv 2) (jA (pv 3) jD))) jD)) jD))))))) (jB (jL (i:=4) scLg.nd rfl (Or.inl rfl) (jH yQ (pv 0) (jU qN (by rfl) T.len PySem.boot_len (jA (qQ PySem.F.plainAttrs_str PySem.F.slot_str_join PySem.F.type_str_join yR jO (jA (pv 1) jD)) jD)))) (jB (jL (i:=5) scLg.nd rfl (Or.inl rfl) (jU kL (by rfl) T.len PySem.boot_len (jA (pv 1) jD))) (jB (jL (i:=6) scLg.nd rfl (Or.inl rfl) (qE jD)) (jB (qU PassesOwn.never rfl (yD (by rfl) T.rng (jA (pv 5) jD)) (jS (i:=7) scLg.nd rfl (Or.inl rfl)) (jE (xH (qQ PySem.F.plainAttrs_list PySem.F.slot_list_append PySem.F.type_list_append qP (pv 6) (jA (jH jP (jH NM jO (jH qB (jH NN (pv 4) (pv 5)) (kP RC (by rfl) T.int boot_int (jA (xW zL (pv 7) (jH vT (pv 4) (pv 5)) (jR _)) jD)))) (kB kX (pv 1) (pv 7) (λ_ _=>rfl))) jD))))) (jE (jK (qQ PySem.F.plainAttrs_str PySem.F.slot_str_join PySem.F.type_str_join yR jO (jA (pv 6) jD))))))))), ?_⟩
  try dsimp only[cxK]
  refine⟨gD,λe H1 ne s1 e1=>?_⟩;refine⟨1,rfl,1,rfl,17,rfl,by decide, ?_⟩;have m1:∀k:Nat,(-1:Int) = -((1:Nat):Int):=λ_=>rfl;refine JI (n:=17) (Ed1 H n e) (.mk ⟨s1,[],e1,rfl,λ_ h=>(by cases h)⟩) (λi σ H2 hi h=>?_) (fun σ H2 h=>?_)
  ·obtain⟨h⟩:=h;refine⟨_,rfl,_,_,rfl,rfl,1,rfl,1,rfl,i+1, ?_,by lia, ?_⟩
   ·show [V.int _,V.int _,V.int _]=[V.int _,V.int _,V.int _];rw[show(16:Int)-(((17:Nat):Int)-1-i)=((i+1:Nat):Int)-1 by lia]
   refine JI (n:=i+1) (Ed2 H n e i) (.mk h) (λj σ H3 hj h=>?_) (fun σ H3 h=>?_)
   ·obtain⟨s3,ws,ee,ln,hw⟩:=h;refine⟨_,rfl,.inl ⟨rfl,_,SqL.of ee⟩,_,rfl,_,rfl,gF,λp H4 n4 s4 e4=>?_⟩;refine⟨p,16-i,i-j,rfl, ?_,by lia,by lia,λw H5 s5 hww=>?_⟩
    ·rw[e4,show((17:Nat):Int)-1-i=((16-i:Nat):Int) by lia,show((i+1:Nat):Int)-1-j=((i-j:Nat):Int) by lia]
    have ee5:=s5 _ _ (s4 _ _ ee);have tl:tri i+j<=200:=by
     have:tri i<=tri 17:=by
      have mono:∀k,tri i<=tri (i+k):=λk=>by
       induction k with
       | zero=>exact nN _
       | succ k ih=>exact nG ih (Nat.le_add_right _ _)
      have:=mono (17-i)
      rwa [show i+(17-i)=17 by lia]at this
     have t17:tri 17=153:=rfl
     lia
    refine⟨e,_,_,rfl,rfl,ee5,by rw[mQ,ln];exact hV tl (by decide), ?_⟩;refine .mk ⟨kT (s3.trans (s4.trans s5)) ne,ws++[w],by rw[jF,List.map_append];rfl,by rw[List.length_append,ln];rfl,λx hx=>?_⟩;rcases mS.mp hx with hx | hx
    ·exact hw x hx
    ·rw[mB.mp hx];exact hww
   ·obtain⟨h⟩:=h;exact .mk h
  obtain⟨s2,ws,ee,ln,hw⟩:=h;have ln:ws.length=153:=ln;have wl:∀w∈ws,w.length<=10:=λw hh=>by have:=(hw w hh).l;rw[jG]at this;lia
  have sl:=qI (f:=λw:Str=>w.length) wl;have jk:JoinOk sepL ws=true:=PyProof.Rows.joinOk_of_weight (by rw[ln]at *;lia) (by decide);have jl:(Str.join sepL ws).length<=2000:=by
   have:=(LB ws (λh=>by rw[h]at ln;cases ln)).2;have s2:=qI (f:=λw:Str=>w.cps.toList.length) (B:=10) λw hh=>(hw w hh).l;rw[jG]at this;rw[ln]at *
   lia
  refine⟨_,rfl,rfl,_,rfl,_,e,ws,rfl,rfl,SqL.of ee,jk,_,rfl,nG jl (by decide),_,_,rfl,rfl, ?_⟩;have jl':(Str.join (Str.ofString " + ") ws).length<=2000:=jl;generalize (Str.join (Str.ofString " + ") ws).length=J at jl';refine⟨_,rfl,e,_,rfl,.inl (SqL.of ee), ?_⟩;rw[mQ,ln];refine⟨gD,λl H3 nl s3 el=>?_⟩;have nel:l≠e:=λh=>by rw[h,ee]at nl;cases nl
  refine⟨_,rfl,153,rfl,by decide,by decide, ?_⟩;refine yI (LgI H2 n e l (n-(J:Int)) ws) (.mk (ps:=[]) s3 (s3 _ _ ee) el rfl (λ_ h=>(by cases h))) ?_ ?_
  ·intro k σ H4 hk h;obtain⟨s4,e4,l4,lk,hp⟩:=h;rename_i ps;have hk:k<153:=hk;have b27:(n-(J:Int))/153<=33:=by lia
   have b0: -20<=(n-(J:Int))/153:=by lia
   obtain⟨w,ew⟩:∃w,ws[k]? = some w:=⟨ws[k],gK (by lia)⟩;have lw:=hw w (gX ew);have bb:∀c:Bool,0<=(if c then(1:Int)else 0)/\(if c then(1:Int)else 0)<=1:=λc=>by cases c<;>decide
   refine⟨_,rfl,.inl ⟨rfl,_,SqL.of l4⟩,_,rfl,_,rfl,_,_,rfl,rfl,⟨by decide,by decide⟩,_,rfl,_,rfl,_,rfl,_,_,rfl,rfl,(show(0:Int)<153 by decide),_,_,rfl,rfl,.inr ⟨_,rfl,_,_,rfl,rfl, ?_⟩⟩;have bc:=bb (decide (0+(k:Int)<(n-(J:Int))%153));generalize (if decide (0+(k:Int)<(n-(J:Int))%153)=true then(1:Int)else 0)=c at bc;generalize hN:(n-(J:Int))/153+c=N;have hN1:N<=40:=by lia
   have hN2: -40<=N:=by lia
   have rl:(DC 49 N).cps.toList=List.replicate N.toNat 49:=rfl;have rlen:(DC 49 N).length<=40:=by rw[<-jG,rl,gT];lia
   refine⟨49,N,rfl,congrArg V.int hN,by lia,by lia,_,rfl,_,rfl,e,_,(0+(k:Int)),_,rfl,rfl,SqL.of e4,by rw[Int.zero_add];exact kY (j:=k) (by rw[mE,ew];rfl),_,_,rfl,rfl,nG (Nat.add_le_add rlen (wl w (gX ew))) (by decide), ?_⟩;refine⟨l,_,_,rfl,rfl,l4,by rw[mQ,lk];exact Nat.lt_trans hk (by decide), ?_⟩;refine .mk (ps:=ps++[DC 49 N++w]) (kT s4 nl) (by rw[jN (Ne.symm nel)];exact e4) (by rw[jF,List.map_append];rfl) (by rw[List.length_append,lk];rfl) λx hx=>?_;rcases mS.mp hx with hx | hx
   ·exact hp x hx
   ·rw[mB.mp hx,jQ,rl];refine⟨λy hy=>?_, ?_, ?_, ?_⟩
    ·rcases mS.mp hy with hy | hy
     ·rw[(List.mem_replicate.mp hy).2];decide
     ·exact lw.asc y hy
    ·have:=lw.s;unfold sD at *;rw[List.countP_append,List.countP_replicate,nU (by decide)]
     lia
    ·have:=lw.l;rw[List.length_append,gT]
     lia
    ·have:=lw.t;have h2:=List.countP_le_length (p:=isD) (l:=List.replicate N.toNat 49);rw[gT]at h2;unfold tD at *;rw[List.countP_append]
     lia
  ·rintro σ H4 ⟨s4,e4,l4,lk,hp⟩;rename_i ps;have lk:ps.length=153:=lk;have q1:=qI (f:=λw:Str=>w.length) (B:=60) (l:=ps) λw hh=>by rw[<-jG];exact(hp w hh).l
   have q2:=qI (f:=λw:Str=>w.cps.toList.length) (B:=60) (l:=ps) λw hh=>(hp w hh).l;have q3:=qI (f:=λw:Str=>sD w.cps.toList) (B:=2) (l:=ps) λw hh=>(hp w hh).s;obtain⟨j1,j2⟩:=LB ps (λh=>by rw[h]at lk;cases lk);rw[lk]at q1 q2 q3 j1 j2;refine⟨rfl,_,rfl,_,l,ps,rfl,rfl,SqL.of l4,PyProof.Rows.joinOk_of_weight (by rw[lk];lia) (by decide),go _ H4 (s2.trans s4) ?_⟩;refine JV (λc hc=>?_) (nG (nM j1) (by lia)) (nG (nM j2) (by lia)) (wU (y:=sepL) rfl (by decide) ps λp hh=>xR (nG (hp p hh).t (by decide)));rcases vH hc with hc | ⟨y,hy,hc⟩
   ·have:c=32∨c=43∨c=32:=by
     have e:(Str.ofString " + ").cps.toList=[32,43,32]:=by decide +kernel
     rw[e]at hc;simpa using hc
    lia
   ·exact(hp y hy).asc c hc
theorem cut63(ns:List Int):∃ms:List Int,xF (ns.map V.int) none (some 63)=ms.map V.int/\ms.length<=63:=by
 refine⟨(ns.drop (HT.sIx (ns.map V.int).length 0 none)).take (HT.sIx (ns.map V.int).length (ns.map V.int).length (some 63)-HT.sIx (ns.map V.int).length 0 none), ?_, ?_⟩
 ·unfold xF;rw[<-List.map_drop,<-List.map_take]
 ·rw[mK];have:HT.sIx (ns.map V.int).length (ns.map V.int).length (some 63)<=63:=by
   have:=HT.sIx_nat (ns.map V.int).length (ns.map V.int).length 63;rw[show((63:Nat):Int)=63 from rfl]at this;rw[this];exact Nat.min_le_left _ _
  lia
theorem RN:TxR (DC 49 5000):=by
 have e:(DC 49 5000).length=5000:=by rw[<-jG];show(List.replicate (5000:Int).toNat 49).length=5000;rw[gT];rfl
 exact⟨by rw[e];decide,λh=>absurd h (by rw[e];decide)⟩
theorem BV{r:Int}(h0:0<=r){n:Int}(h:r<n):∃k:Nat,(1:Int)+r=(k:Int)/\1<=k/\(k:Int)<=n:=by
 obtain⟨k,rfl⟩:=gN h0;exact⟨k+1,by lia,by lia,by lia⟩
inductive LaI(cl a tp:Addr)(i:Nat):L2.St->Hp->Prop where
 | mk {v2 v3 v4 v5 v6:Option V} {H:Hp} (T:Tape cl H tp (400*(i:Int))):LaI cl a tp i [some (.ref a),some (.ref tp),v2,v3,v4,v5,v6] H
inductive LbI(cl a tp:Addr)(u2:Option V)(B:Int)(ae:Nat)(tx:Str)(j:Nat):L2.St->Hp->Prop where
 | mk {v5 v6:Option V} {H:Hp} (T:Tape cl H tp (B+20*(j:Int))):LbI cl a tp u2 B ae tx j [some (.ref a),some (.ref tp),u2,some (.int ae),some (.str tx),v5,v6] H
inductive LcI(cl a tp:Addr)(u2:Option V)(B:Int)(ae:Nat)(tx:Str)(u5:Option V):L2.St->Hp->Prop where
 | mk {z:Str} {H:Hp} (T:Tape cl H tp B) (h:TxR z):LcI cl a tp u2 B ae tx u5 [some (.ref a),some (.ref tp),u2,some (.int ae),some (.str tx),u5,some (.str z)] H
theorem scLaw:FnScope ["script","tape","turn","many","text","k","bent"] ["script"] (jJ KF):=scK (by decide +kernel)
theorem ok_law(F:Fun K "law" "law" KF f fd)(T:Txt mg)
 (GD:DG P w K mg base 1 "_law_draw" uY ["tape","many"] spDraw) (GF:DG P w K mg base 4 "_law_drawn" FI ["tape","many"] spFound) (GX:DG P w K mg base 2 "_law_text" MP ["one"] spText) (GB:DG P w K mg base 2 "_law_bent_text" MV ["tape","text"] spBent)
 (GR:DG P w K mg base 7 "_law_right" FD ["text","many"] spRight) (GG:DG P w K mg base 2 "_law_long_text" MT ["signs"] spLong):FnOk P w K mg base CX0 8 f fd ["script"] (MO K):=by
 refine F.ok scLaw (λvs H Q E h=>?_) (λcdv A outer s H vs Q E hr h=>?_)
 ·obtain⟨a,ns,rfl,_⟩:=h
  rfl
 ·obtain⟨a,ns,rfl,hS,hlen,go⟩:=h;have hr1:Room 1 _:=hr.mono (by decide);have hr2:Room 2 _:=hr.mono (by decide);have hr4:Room 4 _:=hr.mono (by decide);refine⟨_,jB (jL (i:=1) scLaw.nd rfl (Or.inl rfl) (qE (jA (kP LR (by rfl) T.lst boot_list (jA (kN SI (pv 0) qC (kR jC)) jD)) (jA jC (jA jC (jA jC jD)))))) (jB (qU PassesOwn.never rfl (yD (by rfl) T.rng (jA jC jD)) (jS (i:=2) scLaw.nd rfl (Or.inl rfl)) (jB (jL (i:=3) scLaw.nd rfl (Or.inl rfl) (jH qB jC (cal GD hr1 (jA (pv 1) (jA jC jD))))) (jB (jL (i:=4) scLaw.nd rfl (Or.inl rfl) (cal GX hr2 (jA (cal GF hr4 (jA (pv 1) (jA (pv 3) jD))) jD))) (jE (qU PassesOwn.never rfl (yD (by rfl) T.rng (jA jC jD)) (jS (i:=5) scLaw.nd rfl (Or.inl rfl)) (jB (jL (i:=6) scLaw.nd rfl (Or.inl rfl) (cal GB hr2 (jA (pv 1) (jA (pv 4) jD)))) (jB (jX (jI vC (cal GD hr1 (jA (pv 1) (jA jC jD))) jC (jR _)) (jE (jL (i:=6) scLaw.nd rfl (Or.inl rfl) (cal GB hr2 (jA (pv 1) (jA (pv 6) jD))))) jM) (jE (jX (PW.pt (vB (qZ (qM (cal GR hr (jA (pv 6) (jA (jH qB jC (cal GD hr1 (jA (pv 1) (jA jC jD)))) jD))))) (qT (qZ (qM (cal GR hr (jA (pv 6) (jA (pv 3) jD)))))))) (jE (jK xS)) jM))))))))) (jB (jX (jI vC (cal GD hr1 (jA (pv 1) (jA jC jD))) jC (jR _)) (jB (jX (qZ (qM (cal GR hr (jA (jH NM jO jC) (jA (jH qB jC (cal GD hr1 (jA (pv 1) (jA jC jD)))) jD))))) (jE (jK xS)) jM) (jE (jK (cal GR hr (jA (cal GG hr2 (jA (jH qB jC (cal GD hr1 (jA (pv 1) (jA jC jD)))) jD)) (jA (jH qB jC (cal GD hr1 (jA (pv 1) (jA jC jD)))) jD)))))) jM) (jE (jK xS)))), ?_⟩
  try dsimp only[cxK]
  obtain⟨cs,em,hm⟩:=cut63 ns;refine⟨_,rfl,_,rfl,a,_,rfl,hS,λp1 H1 n1 s1 e1=>?_⟩;refine⟨p1,_,rfl,.inl (SqL.of e1),λcl H2 n2 s2 e2=>⟨(by show 4<=sizeLine;decide),λtp H3 n3 s3 e3=>?_⟩⟩;have T3:Tape cl H3 tp 0:=⟨cs,0,0,0,e3,by rw[s3 _ _ e2,em],hm,by decide,by decide⟩;refine⟨3,rfl,by decide,by decide,yI (n:=3) (LaI cl a tp) (.mk (T3.mono (Same.refl _) (by lia))) (λi σ H4 hi h=>?_) (fun σ H4 h=>?_)⟩
  ·obtain⟨T4⟩:=h;refine⟨_,rfl,tp,4,_,rfl,cl,T4,by lia,by decide,by decide,λr H5 r0 r1 T5 b5=>⟨_,_,rfl,rfl, ?_⟩⟩;obtain⟨ae,em',m1,m4⟩:=BV r0 r1;dsimp only[qY];rw[em'];have m4:ae<=4:=by lia
   refine⟨_,rfl,_,rfl,tp,ae,_,rfl,m1,m4,cl,T5,by lia,λd EE H6 nd b6 T6 D6=>?_⟩;refine⟨d,ae,EE,rfl,⟨.inl D6.at',D6.nd,D6.each,D6.sum⟩,m1,m4,λE1 H7 s7 p1 u1=>?_⟩;have I1:=ZT ⟨.inl D6.at',D6.nd,D6.each,D6.sum⟩ m4 p1;generalize stx (E1.map Ent.tm)=tx at I1;have T7:=T6.mono s7 (nP _);refine⟨6,rfl,by decide,by decide,yI (n:=6) (LbI cl a tp _ (400*(i:Int)+1+200) ae tx) (.mk (T7.mono (Same.refl _) (by lia))) (λj σ H8 hj h=>?_) (fun σ H8 h=>?_)⟩
   ·obtain⟨T8⟩:=h;refine⟨_,rfl,_,rfl,tp,tx,_,rfl,cl,T8,by lia,I1.asc,by rw[<-jG];exact nG I1.l (by decide),λz H9 T9 b9 bz=>?_⟩;have M9:=I1.mid bz;dsimp only[qY];refine zD (t:=HP _ _ _) (LcI cl a tp (some (.int (0+(i:Int)))) (400*(i:Int)+1+200+20*(j:Int)+12) ae tx (some (.int (0+(j:Int))))) (fun σ H10 h=>?_) (λgo2=>?_)
    ·obtain⟨T10,tz⟩:=h;refine⟨_,rfl,_,rfl,tp,4,_,rfl,cl,T10,by lia,by decide,by decide,λr2 H11 q0 q1 T11 b11=>⟨_,_,rfl,rfl, ?_⟩⟩;obtain⟨m,em2,k1,k4⟩:=BV q0 q1;refine⟨m,_,congrArg (λx=>[V.str _,V.int x]) em2,k1,by lia,tz,λH12 s12=>⟨_,rfl,qV ?_⟩⟩;refine⟨_,rfl,_,rfl,ae,_,rfl,m1,m4,tz,λH13 s13=>⟨_,rfl,qV ?_⟩⟩;exact .mk (T11.mono (s12.trans s13) (by lia))
    ·refine⟨_,rfl,tp,4,_,rfl,cl,T9,by lia,by decide,by decide,λr2 H10 q0 q1 T10 b10=>⟨rfl,_,rfl, ?_⟩⟩;refine uE (λ_=>?_) (λ_=>?_)
     ·refine⟨_,rfl,_,rfl,tp,z,_,rfl,cl,T10,by lia,M9.asc,by rw[<-jG];exact nG M9.l (by decide),λz2 H11 T11 b11 bz2=>?_⟩;exact go2 _ _ (.mk (T11.mono (Same.refl _) (by lia)) (M9.bent bz2))
     ·exact go2 _ _ (.mk (T10.mono (Same.refl _) (by lia)) M9.txr)
   ·obtain⟨T8⟩:=h;exact .mk (T8.mono (Same.refl _) (by lia))
  ·obtain⟨T4⟩:=h;refine⟨_,rfl,tp,8,_,rfl,cl,T4,by lia,by decide,by decide,λr H5 r0 r1 T5 b5=>⟨rfl,_,rfl, ?_⟩⟩;refine uE (λ_=>?_) (λ_=>?_)
   ·refine⟨49,5000,rfl,rfl,by decide,by decide, ?_⟩;refine⟨_,rfl,tp,4,_,rfl,cl,T5,by lia,by decide,by decide,λr2 H6 q0 q1 T6 b6=>⟨_,_,rfl,rfl, ?_⟩⟩;obtain⟨m,em2,k1,k4⟩:=BV q0 q1;refine⟨m,_,congrArg (λx=>[V.str _,V.int x]) em2,k1,by lia,RN,λH7 s7=>⟨_,rfl,qV ?_⟩⟩;have T7:=T6.mono s7 (nP _);refine⟨_,rfl,tp,21,_,rfl,cl,T7,by lia,by decide,by decide,λr3 H8 w0 w1 T8 b8=>⟨_,_,rfl,rfl, ?_⟩⟩;refine⟨_,rfl,by lia,by lia,λw H9 s9 tw=>?_⟩;refine⟨_,rfl,tp,3,_,rfl,cl,T8.mono s9 (nP _),by lia,by decide,by decide,λr4 H10 v0 v1 T10 b10=>⟨_,_,rfl,rfl, ?_⟩⟩;obtain⟨m,rfl⟩:=gN v0;exact⟨m+2,_,congrArg (λx=>[V.str _,V.int x]) (show(2:Int)+(m:Int)=((m+2:Nat):Int) by lia),by lia,by lia,tw,λH11 _=>go H11⟩
   ·exact go _
theorem ZZ:FnScope ["self","text"] ["self","text"] (jJ zG):=scK (by decide +kernel)
theorem XD{oc dV kV doc pm cdv ct:Value}{od an:Option Addr}{osl:Array (Option Value)}(lk:K.lookup f=some ⟨oc,od,.func (PySem.W.fnOf "__init__" "LowwaterError.__init__" (vM zG) (vF zG) (jJ zG) dV kV doc pm an cdv ct),osl⟩)
 (hcd:PySem.W.codeIn K cdv "LowwaterError.__init__" = true) (T:Txt mg):FnOk P w K mg base CX0 1 f (PySem.W.fnOf "__init__" "LowwaterError.__init__" (vM zG) (vF zG) (jJ zG) dV kV doc pm an cdv ct) ["self","text"] (LwE.spInit K):=by
 refine CO lk hcd ZZ (λvs H Q E h=>?_) (λA outer s H vs Q E hr h=>?_)
 ·obtain⟨e,C,fI,bl,nid,v,rfl,_⟩:=h
  rfl
 ·obtain⟨e,C,fI,bl,nid,v,rfl,he,c,q⟩:=h;refine⟨_,(jE (xH (LwE.pe_baseInit (pl:=_) (jA (pv 0) (jA (pv 1) jD)) (hm:=T.verr)))).nox, ?_⟩;exact⟨_,rfl,_,rfl,e,C,fI,bl,nid,v,rfl,he,c,q⟩
theorem LE{dV kV doc pm cdv ct:Value}{an:Option Addr}{T:Addr}{oc:Value}{od:Option Addr}{its:Array Value}{n:Nat}{sl:Array (Option Value)}(hd:dV=.ref T)(lk:K.lookup T=some ⟨oc,od,.seq its n,sl⟩)(hn:its.size=1) :
  L2.Binds K (PySem.W.fnOf "__init__" "LowwaterError.__init__" (vM zG) (vF zG) (jJ zG) dV kV doc pm an cdv ct) ["self","text"] []:=by
 intro s us KI hl
 match us,hl with
 | [a,b],_=>
  subst hd;obtain⟨l⟩:=its
  match l,hn with
  | [d],_=>exact PySem.W.binds_K KI rfl lk rfl rfl rfl
theorem len1{us:List Value}(h:us.length=1):∃a,us=[a]:=by cases us with | nil=>cases h | cons a r=>have e:r=[]:=List.length_eq_zero_iff.mp (by simpa using h);subst e;exact⟨a,rfl⟩
theorem len2{us:List Value}(h:us.length=2):∃a b,us=[a,b]:=by cases us with | nil=>cases h | cons a r=>obtain⟨b,rfl⟩:=len1 (us:=r) (by simpa using h);exact⟨a,b,rfl⟩
theorem len3{us:List Value}(h:us.length=3):∃a b c,us=[a,b,c]:=by cases us with | nil=>cases h | cons a r=>obtain⟨b,c,rfl⟩:=len2 (us:=r) (by simpa using h);exact⟨a,b,c,rfl⟩
abbrev fo(x:Str)(st:Stmt)(kV dc pm:Value)(an:Option Addr)(cd ct:Value):FuncData:=PySem.W.fnOf x x (vM st) (vF st) (jJ st) .none kV dc pm an cd ct
abbrev BdA(x:Str)(st:Stmt)(ps:List Str)(us:List Value):Prop:=∀(kV dc pm:Value) (an:Option Addr) (cd ct:Value),bindArgs (fo x st kV dc pm an cd ct) ⟨us,[]⟩=pure (ps.zip us)
theorem bd1{x:Str}{st:Stmt}{ps:List Str}(hp:ps.length=1)(h:∀a,BdA x st ps [a]):∀us:List Value,us.length=ps.length->BdA x st ps us:=λus e=>by obtain⟨_,rfl⟩:=len1 (e.trans hp);exact λ_ _ _ _ _ _=>h ..
theorem bd2{x:Str}{st:Stmt}{ps:List Str}(hp:ps.length=2)(h:∀a b,BdA x st ps [a,b]):∀us:List Value,us.length=ps.length->BdA x st ps us:=λus e=>by obtain⟨_,_,rfl⟩:=len2 (e.trans hp);exact λ_ _ _ _ _ _=>h ..
theorem bd3{x:Str}{st:Stmt}{ps:List Str}(hp:ps.length=3)(h:∀a b c,BdA x st ps [a,b,c]):∀us:List Value,us.length=ps.length->BdA x st ps us:=λus e=>by obtain⟨_,_,_,rfl⟩:=len3 (e.trans hp);exact λ_ _ _ _ _ _=>h ..
theorem df{K:nW}{h:Heap}{mg:Str->Option Value}{x:Str}{st:Stmt}(X:K.In h)(G:h.Ns mainGlobals mg)(A:FnAt K x st)(ps:List Str)(b:∀us:List Value,us.length=ps.length->BdA x st ps us):∃f fd,Df K mg x st ps f fd:=by
 obtain⟨a,l,c,k⟩:=A;exact⟨_,_,LG l c k,(LG l c k).binds λkV dc pm an cd ct us h=>b us h kV dc pm an cd ct,nE X G a⟩
theorem cst{K:nW}{h:Heap}{mg:Str->Option Value}(X:K.In h)(G:h.Ns mainGlobals mg)(A:PrAt K "NOUGHT" 0 1):Ngt K mg:=by
 obtain⟨a,l⟩:=A;exact⟨_,nE X G a,λH=>.inr ⟨_,_,_,l,rfl,rfl,by show 2<=sizeLine;decide,.cons ⟨_,rfl⟩ (.cons ⟨_,rfl⟩ .nil)⟩⟩
theorem df1{K:nW}{h:Heap}{mg:Str->Option Value}{x:Str}{st:Stmt}(X:K.In h)(G:h.Ns mainGlobals mg)(A:FnAt K x st)(ps:List Str)(hp:ps.length=1:=by rfl)(b:∀a0,BdA x st ps [a0]:=by exact λ_ _ _ _ _ _ _=>rfl):∃f fd,Df K mg x st ps f fd:=df X G A ps (bd1 hp b)
theorem df2{K:nW}{h:Heap}{mg:Str->Option Value}{x:Str}{st:Stmt}(X:K.In h)(G:h.Ns mainGlobals mg)(A:FnAt K x st)(ps:List Str)(hp:ps.length=2:=by rfl)(b:∀a0 a1,BdA x st ps [a0,a1]:=by exact λ_ _ _ _ _ _ _ _=>rfl):∃f fd,Df K mg x st ps f fd:=df X G A ps (bd2 hp b)
theorem df3{K:nW}{h:Heap}{mg:Str->Option Value}{x:Str}{st:Stmt}(X:K.In h)(G:h.Ns mainGlobals mg)(A:FnAt K x st)(ps:List Str)(hp:ps.length=3:=by rfl)(b:∀a0 a1 a2,BdA x st ps [a0,a1,a2]:=by exact λ_ _ _ _ _ _ _ _ _=>rfl):∃f fd,Df K mg x st ps f fd:=df X G A ps (bd3 hp b)
theorem all_mk{l:PySem.W.OpenLaw}{w:World}{K:nW}{h:Heap}{mg:Str->Option Value}{fa:Addr}(X:K.In h)(G:h.Ns mainGlobals mg)(hfa:mg "law" = some (.ref fa))(A:Facts K) :
  ∃fd:FuncData,(∀(s:Shared) (v:Value),BindsTo s fd ⟨[v],[]⟩ [("script",v)])/\∀base:Heap,K.In base->base.Ns mainGlobals mg->FnOk l.prog w K mg base CX0 8 fa fd ["script"] (MO K):=by
 obtain @⟨f34,oc34,kV34,dc34,pm34,cd34,ct34,od34,an34,sl34,a34,l34,c34,k34⟩:=A.f34;obtain⟨v1⟩:=A.v1;obtain⟨v2⟩:=A.v2;obtain⟨v3⟩:=A.v3;obtain⟨v4⟩:=A.v4;obtain⟨v5⟩:=A.v5;have e:=hfa.symm.trans (nE X G a34);cases e;have T:Txt mg:={ isi:=mD X G A.z1,len:=mD X G A.z2,int:=mD X G A.z3,bool:=mD X G A.z4,tup:=mD X G A.z5,lst:=mD X G A.z6,str:=mD X G A.z14,abs:=mD X G A.z7,rng:=mD X G A.z8,lbits:=⟨_,nE X G v1⟩,all:=mD X G A.z13,sum:=mD X G A.z9,zip:=mD X G A.z10,sorted:=mD X G A.z11,min:=mD X G A.z12,letters:=⟨_,nE X G v2⟩,degree:=⟨_,nE X G v3⟩,terms:=⟨_,nE X G v4⟩,verr:=mD X G A.z15,signs:=⟨_,nE X G v5⟩ };have cA:=cst X G A.n1;obtain⟨m1,m2,m3,m4,m5,m6,m7,m8,m9,wqo,wqb,wqe,wqa,wqn,wqi,wqk,wqg,wqh,wqc,wqm,wdo,wdb,wde,wda,wdn,wdi,wdk,wdg,wdh,wdc,wdm,iL,iC,iT,iN,iF,up,ve,no⟩:=A.c8;obtain⟨nL1,nL2⟩:=A.s1;obtain⟨nG1,nG2⟩:=A.s2;have LT:Ltr K mg:=⟨_,nE X G nL1,λH=>.inr ⟨_,_,_,nL2,rfl,rfl,by show 4<=sizeLine;decide,.cons ⟨_,rfl⟩ (.cons ⟨_,rfl⟩ (.cons ⟨_,rfl⟩ (.cons ⟨_,rfl⟩ (.nil))))⟩,_,nL2,rfl,rfl⟩;have FG:Fig K mg:=⟨_,nE X G nG1,λH=>.inr ⟨_,_,_,nG2,rfl,rfl,by show 10<=sizeLine;decide,.cons ⟨_,rfl⟩ (.cons ⟨_,rfl⟩ (.cons ⟨_,rfl⟩ (.cons ⟨_,rfl⟩ (.cons ⟨_,rfl⟩ (.cons ⟨_,rfl⟩ (.cons ⟨_,rfl⟩ (.cons ⟨_,rfl⟩ (.cons ⟨_,rfl⟩ (.cons ⟨_,rfl⟩ (.nil))))))))))⟩⟩
 have xq:LwE.XCls K _ _ _ "ValueError.__new__":=⟨⟨_,_,_,_,_,_,_,_,_,_,_,_,_,_,_,wqo⟩,wqb,wqe,wqa,wqn,wqi,iF,wqk,wqg,wqh,wqc,wqm⟩;have xd:LwE.XCls K _ _ _ "ValueError.__new__":=⟨⟨_,_,_,_,_,_,_,_,_,_,_,_,_,_,_,wdo⟩,wdb,wde,wda,wdn,wdi,iF,wdk,wdg,wdh,wdc,wdm⟩;have c8:Cls8 K mg _ _ _ _ _ _ _ _ _ _ _ _:=⟨xq,xd,up,ve,no,nE X G m1,nE X G m2,nE X G m3,nE X G m4,nE X G m5,nE X G m6,nE X G m7,nE X G m8,nE X G m9⟩;have F34:=LG (st:=KF) l34 c34 k34;obtain⟨f1,d1,D1⟩:=df1 X G A.f1 ["thing"];obtain⟨f2,d2,D2⟩:=df2 X G A.f2 ["one","other"];obtain⟨f3,d3,D3⟩:=df1 X G A.f3 ["thing"];obtain⟨f4,d4,D4⟩:=df2 X G A.f4 ["thing","low"];obtain⟨f5,d5,D5⟩:=df2 X G A.f5 ["thing","many"];obtain⟨f6,d6,D6⟩:=df2 X G A.f6 ["thing","many"];obtain⟨f7,d7,D7⟩:=df1 X G A.f7 ["thing"];obtain⟨f8,d8,D8⟩:=df1 X G A.f8 ["number"];obtain⟨f9,d9,D9⟩:=df2 X G A.f9 ["powers","number"];obtain⟨f10,d10,D10⟩:=df1 X G A.f10 ["one"];obtain⟨f11,d11,D11⟩:=df1 X G A.f11 ["word"];obtain⟨f12,d12,D12⟩:=df1 X G A.f12 ["word"];obtain⟨f13,d13,D13⟩:=df2 X G A.f13 ["words","many"];obtain⟨f14,d14,D14⟩:=df2 X G A.f14 ["text","many"];obtain⟨f15,d15,D15⟩:=df2 X G A.f15 ["text","many"];obtain⟨f16,d16,D16⟩:=df2 X G A.f16 ["tape","many"];obtain⟨f17,d17,D17⟩:=df2 X G A.f17 ["top","bottom"];obtain⟨f18,d18,D18⟩:=df2 X G A.f18 ["one","other"];obtain⟨f19,d19,D19⟩:=df3 X G A.f19 ["found","powers","number"];obtain⟨f20,d20,D20⟩:=df1 X G A.f20 ["tape"];obtain⟨f21,d21,D21⟩:=df1 X G A.f21 ["tape"]
 obtain⟨f22,d22,D22⟩:=df2 X G A.f22 ["many","one"];obtain⟨f23,d23,D23⟩:=df2 X G A.f23 ["tape","many"];obtain⟨f24,d24,D24⟩:=df1 X G A.f24 ["one"];obtain⟨f25,d25,D25⟩:=df2 X G A.f25 ["word","least"];obtain⟨f26,d26,D26⟩:=df1 X G A.f26 ["word"];obtain⟨f27,d27,D27⟩:=df2 X G A.f27 ["words","many"];obtain⟨f28,d28,D28⟩:=df2 X G A.f28 ["text","many"];obtain⟨f29,d29,D29⟩:=df2 X G A.f29 ["tape","text"];obtain⟨f30,d30,D30⟩:=df1 X G A.f30 ["made"];obtain⟨f31,d31,D31⟩:=df2 X G A.f31 ["text","many"];obtain⟨f32,d32,D32⟩:=df1 X G A.f32 ["powers"];obtain⟨f33,d33,D33⟩:=df1 X G A.f33 ["signs"];refine⟨PySem.W.fnOf "law" "law" (vM KF) (vF KF) (jJ KF) .none kV34 dc34 pm34 an34 cd34 ct34,λs v=>.of_eq rfl,λbase _ _=>?_⟩;have GI:=XD (P:=l.prog) (w:=w) (base:=base) (mg:=mg) iL iC T;have NT:=NoT.mk (P:=l.prog) (w:=w) (base:=base) ⟨_,_,_,c8.q,GI,LE rfl iT iN⟩ c8.mq;have G_low:=mkD D17 (FO (P:=l.prog) (w:=w) (base:=base) D17.F T);have G_draw:=mkD D16 (AS (P:=l.prog) (w:=w) (base:=base) D16.F T);have G_found:=mkD D23 (TW (P:=l.prog) (w:=w) (base:=base) D23.F T D16 D19 D21 D18 D17 D20);have G_sum:=mkD D7 (ok_sum (P:=l.prog) (w:=w) (base:=base) D7.F T cA D4 D5 D3 D1 D2 D6);have G_shown:=mkD D10 (TM (P:=l.prog) (w:=w) (base:=base) D10.F T LT D8 D9);have F_rdwhole:=KP (P:=l.prog) (w:=w) (base:=base) D11.F T FG NT;have F_rdnum:=TR (P:=l.prog) (w:=w) (base:=base) D12.F T D11 F_rdwhole;have F_rdpw:=XA (P:=l.prog) (w:=w) (base:=base) D13.F T LT NT D11 F_rdwhole
 have F_rdterm:=QB (P:=l.prog) (w:=w) (base:=base) D14.F T D12 F_rdnum D13 F_rdpw;have F_read:=WZ D15.F T NT D14 F_rdterm G_sum G_shown;have G_text:=mkD D24 (WX (P:=l.prog) (w:=w) (base:=base) D24.F T D17);have G_figs:=mkD D25 (XE (P:=l.prog) (w:=w) (base:=base) D25.F T);have G_fr:=mkD D26 (ok_fr D26.F T G_figs G_low);have G_pwr:=mkD D27 (ok_pwr D27.F T G_figs);have G_lread:=mkD D28 (TV D28.F T G_fr G_pwr);have G_parts:=mkD D30 (TU (P:=l.prog) (w:=w) (base:=base) D30.F T);have G_dsum:=mkD D22 (XF D22.F T G_low);have G_right:=mkD D31 (TQ D31.F T c8 G_lread D15 F_read G_dsum G_parts);have G_bent:=mkD D29 (XG D29.F T G_draw);have G_letters:=mkD D32 (KQ (P:=l.prog) (w:=w) (base:=base) D32.F T);have G_long:=mkD D33 (XC D33.F T G_letters);exact ok_law F34 T G_draw G_found G_text G_bent G_right G_long
theorem walk{l:PySem.W.OpenLaw}{q:Program}{loose:List Str}{XP:(Str->Option Value)->Heap->Prop}{YP:World->Heap->Prop}{d:DefRec}{K:Params->nW}(hn:l.most=some 63)(hdf:d.params.defaults=[])
  (hY:∀(w:World) (h:Heap),YP w h->(K w.params).In h)
  (F:∀(w:World) (mg:Str->Option Value) (fa:Addr) (h:Heap),(K w.params).In h->h.Ns mainGlobals mg->mg d.name=some (.ref fa)->
   ∃fd:FuncData,(∀(s:Shared) (u:Value),BindsTo s fd ⟨[u],[]⟩ [("script",u)])/\∀base:Heap,(K w.params).In base->base.Ns mainGlobals mg->FnOk l.prog w (K w.params) mg base CX0 8 fa fd ["script"] (MO (K w.params))) :
  PySem.W.WalkO q loose XP YP l.row.toRowW d [] (λf vs=>PySem.call f vs):=
 L2.VT (n:=63) (k:=8) (x:="script") (CX:=λ_=>CX0) (sp:=λw=>MO (K w.params)) hn (by decide) hdf ⟨rfl,by decide,by decide⟩ hY F (λ_ _ a ns hl _ hS=>⟨a,ns,rfl,hS,hl,λ_=>rfl⟩) λ_ _ _ _ _ z=>z
end Lw
open PySem PySem.W PyProof.Rows
set_option maxRecDepth 100000 in
theorem PySem.Challenge.cw_lowwater_k08_texts_judged_holds : PySem.Challenge.rw_lowwater_k08_texts_judged.Holds := by
 refine Lw.head λK YP d A hY hd hn=>Lw.walk (l:=PySem.Challenge.rw_lowwater_k08_texts_judged) rfl hd hY λw mg fa h KX G hmg=>?_;rw[hn]at hmg;exact Lw.all_mk KX G hmg (A w.params)
end
