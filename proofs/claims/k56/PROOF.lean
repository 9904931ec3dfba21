import PyProof.Rows.All
import Wide.All
import OpenK.AllK
import Wide.FinOn
import Lean
import PyProof.EqAt
import PyProof.EqKinds
import PyProof.TupleCall
import PySem.Challenge.RW_lowwater_k56_pieces_looked_at
set_option Elab.async false
set_option linter.all false
set_option maxRecDepth 100000
set_option maxHeartbeats 4000000
namespace L2
open PySem PySem.Spec PyProof.Rows
noncomputable def xQ(s:Stmt):Arguments:=match s with
 | .FunctionDef _ a _ _ _ _ _ _ _ _=>a
 | _=>{ posonlyargs:=[],args:=[],vararg:=none,kwonlyargs:=[],kw_defaults:=[],kwarg:=none,defaults:=[] }
noncomputable def xE(s:Stmt):List Stmt:=match s with
 | .FunctionDef _ _ b _ _ _ _ _ _ _=>b
 | _=>[]
noncomputable def jO(s:Stmt):Scope:=match s with
 | .FunctionDef _ _ _ _ _ _ sc _ _ _=>sc
 | _=>{ kind:=.function,names:=[],isGenerator:=false,isCoroutine:=false }
end L2
namespace Lw
open PySem PySem.Spec PyProof.Rows L2
noncomputable def top(i:Nat):Stmt:=PySem.Challenge.pw_lowwater_k56_pieces_looked_at.main.body.getD i (.Pass ⟨0,0,0,0⟩)
noncomputable abbrev sGcd:Stmt:=top 8
noncomputable abbrev gU:Stmt:=top 9
noncomputable abbrev sLess:Stmt:=top 10
noncomputable abbrev sMul:Stmt:=top 11
noncomputable abbrev sDiv:Stmt:=top 12
noncomputable abbrev wJ:Stmt:=top 13
noncomputable abbrev zG:Stmt:=top 15
noncomputable abbrev gQ:Stmt:=top 19
noncomputable abbrev yR:Stmt:=top 20
noncomputable abbrev gP:Stmt:=top 21
noncomputable abbrev nC:Stmt:=top 22
noncomputable abbrev wA:Stmt:=top 23
noncomputable abbrev sRaw:Stmt:=top 24
noncomputable abbrev nB:Stmt:=top 25
noncomputable abbrev gT:Stmt:=top 26
noncomputable abbrev yU:Stmt:=top 27
noncomputable abbrev sHas:Stmt:=top 28
noncomputable abbrev sAre:Stmt:=top 29
noncomputable abbrev yL:Stmt:=top 31
noncomputable abbrev wI:Stmt:=top 32
noncomputable abbrev sLow:Stmt:=top 33
noncomputable abbrev xH:Stmt:=top 34
noncomputable abbrev yT:Stmt:=top 35
noncomputable abbrev sLike:Stmt:=top 36
noncomputable abbrev sPut:Stmt:=top 37
noncomputable abbrev wH:Stmt:=top 38
noncomputable abbrev yQ:Stmt:=top 39
noncomputable abbrev wB:Stmt:=top 40
noncomputable abbrev sAt:Stmt:=top 42
noncomputable abbrev gR:Stmt:=top 43
noncomputable abbrev wG:Stmt:=top 44
noncomputable abbrev sNum:Stmt:=top 45
noncomputable abbrev xC:Stmt:=top 46
noncomputable abbrev nA:Stmt:=top 47
noncomputable abbrev sDeg:Stmt:=top 48
noncomputable abbrev yP:Stmt:=top 50
noncomputable abbrev xV:Stmt:=top 51
noncomputable abbrev yS:Stmt:=top 52
noncomputable abbrev gN:Stmt:=top 53
noncomputable abbrev gO:Stmt:=top 54
noncomputable abbrev gS:Stmt:=top 55
noncomputable abbrev gM:Stmt:=top 56
noncomputable abbrev wF:Stmt:=top 57
noncomputable abbrev sGood:Stmt:=top 58
noncomputable abbrev sCuts:Stmt:=top 59
noncomputable abbrev wC:Stmt:=top 60
noncomputable abbrev sBent:Stmt:=top 61
noncomputable abbrev wD:Stmt:=top 62
noncomputable abbrev sTold:Stmt:=top 63
noncomputable abbrev sLaw:Stmt:=top 64
inductive FnAt(K:PySem.W.Frag)(x:Str)(st:Stmt):Prop
 | mk {f:Addr} {oc kV dc pm cd ct:Value} {od an:Option Addr} {sl:Array (Option Value)} (a:PySem.W.nsIn K mainGlobals x=some (some (.ref f))) (l:K.lookup f=some ⟨oc,od,.func (PySem.W.fnOf x x (xQ st) (xE st) (jO st) .none kV dc pm an cd ct),sl⟩) (c:PySem.W.codeIn K cd x=true) (k:PySem.W.keepIn K (.ref f)=true)
inductive PrAt(K:PySem.W.Frag)(x:Str)(i j:Int):Prop
 | mk {f:Addr} {od:Option Addr} {sl:Array (Option Value)} {t u:Tok} {n:Nat} (a:PySem.W.nsIn K mainGlobals x=some (some (.ref f))) (l:K.lookup f=some ⟨.type "tuple",od,.seq #[.int i t,.int j u] n,sl⟩)
inductive IntAt(K:PySem.W.Frag)(x:Str)(i:Int):Prop
 | mk {t:Tok} (a:PySem.W.nsIn K mainGlobals x=some (some (.int i t)))
structure Facts(K:PySem.W.Frag):Prop where
 f1:FnAt K "greatest_divisor" sGcd
 f2:FnAt K "added" gU
 f3:FnAt K "less" sLess
 f4:FnAt K "multiplied" sMul
 f5:FnAt K "divided" sDiv
 f6:FnAt K "beside" wJ
 f7:FnAt K "degree" zG
 f8:FnAt K "level" gQ
 f9:FnAt K "all_powers" yR
 f10:FnAt K "moved" gP
 f11:FnAt K "factorial" nC
 f12:FnAt K "spread" wA
 f13:FnAt K "raw_numbers" sRaw
 f14:FnAt K "numbers" nB
 f15:FnAt K "is_stretch" gT
 f16:FnAt K "are_chained" yU
 f17:FnAt K "has_numbers" sHas
 f18:FnAt K "are_pieces" sAre
 f19:FnAt K "_law_draw" yL
 f20:FnAt K "_law_copied" wI
 f21:FnAt K "_law_low" sLow
 f22:FnAt K "_law_plus" xH
 f23:FnAt K "_law_mul" yT
 f24:FnAt K "_law_like" sLike
 f25:FnAt K "_law_put" sPut
 f26:FnAt K "_law_added" wH
 f27:FnAt K "_law_product" yQ
 f28:FnAt K "_law_scaled" wB
 f29:FnAt K "_law_at" sAt
 f30:FnAt K "_law_sum" gR
 f31:FnAt K "_law_more" wG
 f32:FnAt K "_law_is_number" sNum
 f33:FnAt K "_law_number" xC
 f34:FnAt K "_law_poly" nA
 f35:FnAt K "_law_deg" sDeg
 f36:FnAt K "_law_stretch" yP
 f37:FnAt K "_law_straight" xV
 f38:FnAt K "_law_minus" yS
 f39:FnAt K "_law_share" gN
 f40:FnAt K "_law_place" gO
 f41:FnAt K "_law_numbers" gS
 f42:FnAt K "_law_under" gM
 f43:FnAt K "_law_pieces" wF
 f44:FnAt K "_law_good" sGood
 f45:FnAt K "_law_cuts" sCuts
 f46:FnAt K "_law_remade" wC
 f47:FnAt K "_law_bent" sBent
 f48:FnAt K "_law_raised" wD
 f49:FnAt K "_law_told" sTold
 f50:FnAt K "law" sLaw
 z1:PySem.W.nsIn K mainGlobals "isinstance" = some none
 z2:PySem.W.nsIn K mainGlobals "len" = some none
 z3:PySem.W.nsIn K mainGlobals "int" = some none
 z4:PySem.W.nsIn K mainGlobals "bool" = some none
 z5:PySem.W.nsIn K mainGlobals "tuple" = some none
 z6:PySem.W.nsIn K mainGlobals "list" = some none
 z7:PySem.W.nsIn K mainGlobals "str" = some none
 z8:PySem.W.nsIn K mainGlobals "abs" = some none
 z9:PySem.W.nsIn K mainGlobals "range" = some none
 z10:PySem.W.nsIn K mainGlobals "sum" = some none
 z11:PySem.W.nsIn K mainGlobals "zip" = some none
 z12:PySem.W.nsIn K mainGlobals "sorted" = some none
 z13:PySem.W.nsIn K mainGlobals "max" = some none
 z14:PySem.W.nsIn K mainGlobals "enumerate" = some none
 z15:PySem.W.nsIn K mainGlobals "reversed" = some none
 z16:PySem.W.nsIn K mainGlobals "all" = some none
 z17:PySem.W.nsIn K mainGlobals "dict" = some none
 z18:PySem.W.nsIn K mainGlobals "any" = some none
 z19:PySem.W.nsIn K mainGlobals "min" = some none
 v1:IntAt K "LONG_BITS" 8000
 n1:PrAt K "NOUGHT" 0 1
 n2:PrAt K "ONE" 1 1
end Lw
section
open PySem PySem.W PyProof.Rows
namespace Lw
noncomputable def view56:Program:={ PySem.Challenge.pw_lowwater_k56_pieces_looked_at with main:={ PySem.Challenge.pw_lowwater_k56_pieces_looked_at.main with body:=([1,2,4,5,6,7,8,9,10,11,12,13,15,17,18,19,20,21,22,23,24,25,26,27,28,29,31,32,33,34,35,36,37,38,39,40,41,42,43,44,45,46,47,48,49,50,51,52,53,54,55,56,57,58,59,60,61,62,63,64]:List Nat).filterMap λi=>PySem.Challenge.pw_lowwater_k56_pieces_looked_at.main.body[i]? } }
end Lw
local macro_rules | `(tactic| o_head $H)=>`(tactic| refine holds_open (q:=Lw.view56) (loose:=[Str.ofString "LowwaterError"]) (Xt:=λs=>xlAt Lw.view56 [] s&&recOk (RowW.records (PySem.Challenge.rw_lowwater_k56_pieces_looked_at).row.toRowW) s) (XP:=XL Lw.view56 []) (Yf:=Hook.obs $H) (Ya:=Hook.val $H) (YP:=Hook.says $H) (N:=4526) (λw=>by unfold openEnds fencedOpening topFrom;rw[PySem.W.Fast.te10274390034422433532,PySem.W.Fast.te14082659384304107361,PySem.W.Fast.te1435165496053646825,PySem.W.Fast.te14289696077712309145,PySem.W.Fast.te8920871248978507458,PySem.W.Fast.te14364793385576792824,PySem.W.Fast.te4187177175401517315];kernel_rfl) (Hook.of $H) (Hook.keeps $H) (λs e=>xl_of s (Bool.and_eq_true_iff.mp e).1) XL.keeps (by rfl) (by rfl) (by rfl) (λs e=>recFacts_of (Bool.and_eq_true_iff.mp e).2) (by rfl) (by first | assumption | decide +kernel) (by decide +kernel) ⟨rfl,rfl,rfl,rfl,rfl,by decide +kernel⟩ ?hw ?hc)
set_option maxRecDepth 100000 in
set_option maxHeartbeats 0 in
theorem Lw.head(hn:∀(K:Params->Frag) (YP:World->Heap->Prop) (d:DefRec),(∀p,Lw.Facts (K p))->(∀w h,YP w h->(K w.params).In h)->d.params.defaults=[]->d.name="law"->WalkO Lw.view56 [Str.ofString "LowwaterError"] (XL Lw.view56 []) YP PySem.Challenge.rw_lowwater_k56_pieces_looked_at.row.toRowW d [] λf vs=>PySem.call f vs):PySem.Challenge.rw_lowwater_k56_pieces_looked_at.Holds:=by
 w_on;o_law;k_head;(case hw=>w_witness2)
 k_fill
 refine hn _ _ _ ?f (λw h Y=>kIn_of Y) rfl rfl;case f=>
  intro p;constructor
  ·refine' .mk ?a ?l ?c ?k;(case a=>k_is);(case l=>k_is);(case c=>k_is);(case k=>k_is)
  ·refine' .mk ?a ?l ?c ?k;(case a=>k_is);(case l=>k_is);(case c=>k_is);(case k=>k_is)
  ·refine' .mk ?a ?l ?c ?k;(case a=>k_is);(case l=>k_is);(case c=>k_is);(case k=>k_is)
  ·refine' .mk ?a ?l ?c ?k;(case a=>k_is);(case l=>k_is);(case c=>k_is);(case k=>k_is)
  ·refine' .mk ?a ?l ?c ?k;(case a=>k_is);(case l=>k_is);(case c=>k_is);(case k=>k_is)
  ·refine' .mk ?a ?l ?c ?k;(case a=>k_is);(case l=>k_is);(case c=>k_is);(case k=>k_is)
  ·refine' .mk ?a ?l ?c ?k;(case a=>k_is);(case l=>k_is);(case c=>k_is);(case k=>k_is)
  ·refine' .mk ?a ?l ?c ?k;(case a=>k_is);(case l=>k_is);(case c=>k_is);(case k=>k_is)
  ·refine' .mk ?a ?l ?c ?k;(case a=>k_is);(case l=>k_is);(case c=>k_is);(case k=>k_is)
  ·refine' .mk ?a ?l ?c ?k;(case a=>k_is);(case l=>k_is);(case c=>k_is);(case k=>k_is)
  ·refine' .mk ?a ?l ?c ?k;(case a=>k_is);(case l=>k_is);(case c=>k_is);(case k=>k_is)
  ·refine' .mk ?a ?l ?c ?k;(case a=>k_is);(case l=>k_is);(case c=>k_is);(case k=>k_is)
  ·refine' .mk ?a ?l ?c ?k;(case a=>k_is);(case l=>k_is);(case c=>k_is);(case k=>k_is)
  ·refine' .mk ?a ?l ?c ?k;(case a=>k_is);(case l=>k_is);(case c=>k_is);(case k=>k_is)
  ·refine' .mk ?a ?l ?c ?k;(case a=>k_is);(case l=>k_is);(case c=>k_is);(case k=>k_is)
  ·refine' .mk ?a ?l ?c ?k;(case a=>k_is);(case l=>k_is);(case c=>k_is);(case k=>k_is)
  ·refine' .mk ?a ?l ?c ?k;(case a=>k_is);(case l=>k_is);(case c=>k_is);(case k=>k_is)
  ·refine' .mk ?a ?l ?c ?k;(case a=>k_is);(case l=>k_is);(case c=>k_is);(case k=>k_is)
  ·refine' .mk ?a ?l ?c ?k;(case a=>k_is);(case l=>k_is);(case c=>k_is);(case k=>k_is)
  ·refine' .mk ?a ?l ?c ?k;(case a=>k_is);(case l=>k_is);(case c=>k_is);(case k=>k_is)
  ·refine' .mk ?a ?l ?c ?k;(case a=>k_is);(case l=>k_is);(case c=>k_is);(case k=>k_is)
  ·refine' .mk ?a ?l ?c ?k;(case a=>k_is);(case l=>k_is);(case c=>k_is);(case k=>k_is)
  ·refine' .mk ?a ?l ?c ?k;(case a=>k_is);(case l=>k_is);(case c=>k_is);(case k=>k_is)
  ·refine' .mk ?a ?l ?c ?k;(case a=>k_is);(case l=>k_is);(case c=>k_is);(case k=>k_is)
  ·refine' .mk ?a ?l ?c ?k;(case a=>k_is);(case l=>k_is);(case c=>k_is);(case k=>k_is)
  ·refine' .mk ?a ?l ?c ?k;(case a=>k_is);(case l=>k_is);(case c=>k_is);(case k=>k_is)
  ·refine' .mk ?a ?l ?c ?k;(case a=>k_is);(case l=>k_is);(case c=>k_is);(case k=>k_is)
  ·refine' .mk ?a ?l ?c ?k;(case a=>k_is);(case l=>k_is);(case c=>k_is);(case k=>k_is)
  ·refine' .mk ?a ?l ?c ?k;(case a=>k_is);(case l=>k_is);(case c=>k_is);(case k=>k_is)
  ·refine' .mk ?a ?l ?c ?k;(case a=>k_is);(case l=>k_is);(case c=>k_is);(case k=>k_is)
  ·refine' .mk ?a ?l ?c ?k;(case a=>k_is);(case l=>k_is);(case c=>k_is);(case k=>k_is)
  ·refine' .mk ?a ?l ?c ?k;(case a=>k_is);(case l=>k_is);(case c=>k_is);(case k=>k_is)
  ·refine' .mk ?a ?l ?c ?k;(case a=>k_is);(case l=>k_is);(case c=>k_is);(case k=>k_is)
  ·refine' .mk ?a ?l ?c ?k;(case a=>k_is);(case l=>k_is);(case c=>k_is);(case k=>k_is)
  ·refine' .mk ?a ?l ?c ?k;(case a=>k_is);(case l=>k_is);(case c=>k_is);(case k=>k_is)
  ·refine' .mk ?a ?l ?c ?k;(case a=>k_is);(case l=>k_is);(case c=>k_is);(case k=>k_is)
  ·refine' .mk ?a ?l ?c ?k;(case a=>k_is);(case l=>k_is);(case c=>k_is);(case k=>k_is)
  ·refine' .mk ?a ?l ?c ?k;(case a=>k_is);(case l=>k_is);(case c=>k_is);(case k=>k_is)
  ·refine' .mk ?a ?l ?c ?k;(case a=>k_is);(case l=>k_is);(case c=>k_is);(case k=>k_is)
  ·refine' .mk ?a ?l ?c ?k;(case a=>k_is);(case l=>k_is);(case c=>k_is);(case k=>k_is)
  ·refine' .mk ?a ?l ?c ?k;(case a=>k_is);(case l=>k_is);(case c=>k_is);(case k=>k_is)
  ·refine' .mk ?a ?l ?c ?k;(case a=>k_is);(case l=>k_is);(case c=>k_is);(case k=>k_is)
  ·refine' .mk ?a ?l ?c ?k;(case a=>k_is);(case l=>k_is);(case c=>k_is);(case k=>k_is)
  ·refine' .mk ?a ?l ?c ?k;(case a=>k_is);(case l=>k_is);(case c=>k_is);(case k=>k_is)
  ·refine' .mk ?a ?l ?c ?k;(case a=>k_is);(case l=>k_is);(case c=>k_is);(case k=>k_is)
  ·refine' .mk ?a ?l ?c ?k;(case a=>k_is);(case l=>k_is);(case c=>k_is);(case k=>k_is)
  ·refine' .mk ?a ?l ?c ?k;(case a=>k_is);(case l=>k_is);(case c=>k_is);(case k=>k_is)
  ·refine' .mk ?a ?l ?c ?k;(case a=>k_is);(case l=>k_is);(case c=>k_is);(case k=>k_is)
  ·refine' .mk ?a ?l ?c ?k;(case a=>k_is);(case l=>k_is);(case c=>k_is);(case k=>k_is)
  ·refine' .mk ?a ?l ?c ?k;(case a=>k_is);(case l=>k_is);(case c=>k_is);(case k=>k_is)
  ·k_is
  ·k_is
  ·k_is
  ·k_is
  ·k_is
  ·k_is
  ·k_is
  ·k_is
  ·k_is
  ·k_is
  ·k_is
  ·k_is
  ·k_is
  ·k_is
  ·k_is
  ·k_is
  ·k_is
  ·k_is
  ·k_is
  ·refine' .mk ?v;(case v=>k_is)
  ·refine' .mk ?a ?l;(case a=>k_is);(case l=>k_is)
  ·refine' .mk ?a ?l;(case a=>k_is);(case l=>k_is)
end
namespace L2
open PySem PySem.Spec PyProof.Rows
noncomputable abbrev Key:=Sum Int Str
noncomputable def nH:Key->Value->Bool
 | .inl k,v=>Value.isInt k v
 | .inr x,v=>Value.isStrOf x v
noncomputable def keyH(w:World):Key->Int
 | .inl k=>hashInt k
 | .inr x=>hashStr w x
theorem qL:∀{k:Key} {v:Value},nH k v=true->(∃i t,k=Sum.inl i/\v=Value.int i t)∨(∃x t,k=Sum.inr x/\v=Value.str x t)
 | .inl i,v,h=>by
  obtain⟨t,e⟩:=Value.isInt_shape (k:=i) (v:=v) h;exact .inl ⟨i,t,rfl,e⟩
 | .inr x,v,h=>by
  obtain⟨t,e⟩:=Value.isStrOf_shape (x:=x) (v:=v) h;exact .inr ⟨x,t,rfl,e⟩
theorem keyIs_int(i:Int)(t:Tok):nH (.inl i) (.int i t)=true:=by simp [nH,Value.isInt]
theorem keyIs_str(x:Str)(t:Tok):nH (.inr x) (.str x t)=true:=by simp [nH,Value.isStrOf]
theorem key_ll(a b:Int):decide ((Sum.inl a:Key)=Sum.inl b)=(a==b):=by
 by_cases e:a=b
 ·subst e;simp
 ·have h:¬(Sum.inl a:Key)=Sum.inl b:=λq=>e (Sum.inl.inj q);rw[decide_eq_false h];exact(beq_eq_false_iff_ne.mpr e).symm
theorem key_rr(a b:Str):decide ((Sum.inr a:Key)=Sum.inr b)=decide (a=b):=by
 by_cases e:a=b
 ·subst e;simp
 ·have h:¬(Sum.inr a:Key)=Sum.inr b:=λq=>e (Sum.inr.inj q);rw[decide_eq_false h,decide_eq_false e]
theorem key_lr(a:Int)(b:Str):decide ((Sum.inl a:Key)=Sum.inr b)=false:=decide_eq_false (λq=>nomatch q)
theorem key_rl(a:Str)(b:Int):decide ((Sum.inr a:Key)=Sum.inl b)=false:=decide_eq_false (λq=>nomatch q)
noncomputable def qK(prog:Program)(w:World):PySem.KeyKind prog w Key where
 is:=nH
 hash:=keyH w
 inj:=λv a b ha hb=>by
  rcases qL ha with⟨i,t,rfl,rfl⟩ | ⟨x,t,rfl,rfl⟩
  ·rcases qL hb with⟨j,u,rfl,e⟩ | ⟨y,u,rfl,e⟩
   ·injection e with e1 _;rw[e1]
   ·exact nomatch e
  ·rcases qL hb with⟨j,u,rfl,e⟩ | ⟨y,u,rfl,e⟩
   ·exact nomatch e
   ·injection e with e1 _;rw[e1]
 byValue:=λk v h=>by
  rcases qL h with⟨i,t,rfl,rfl⟩ | ⟨x,t,rfl,rfl⟩<;>rfl
 pyHash:=λhv h=>by
  rcases qL hv with⟨i,t,rfl,rfl⟩ | ⟨x,t,rfl,rfl⟩
  ·exact wpAny_pyHash_int h
  ·exact wpAny_pyHash_str h
 eqBool:=λhu hv h=>by
  rcases qL hu with⟨i,t,rfl,rfl⟩ | ⟨x,t,rfl,rfl⟩
  ·rcases qL hv with⟨j,u,rfl,rfl⟩ | ⟨y,u,rfl,rfl⟩
   ·rw[key_ll]at h;exact wpAny_eqBool_int h
   ·rw[key_lr]at h;exact SeqAt.EqAt.int_str i t y u _ _ _ _ h
  ·rcases qL hv with⟨j,u,rfl,rfl⟩ | ⟨y,u,rfl,rfl⟩
   ·rw[key_rl]at h;exact SeqAt.EqAt.str_int x t j u _ _ _ _ h
   ·rw[key_rr]at h;exact wpAny_eqBool_str h
 «strs» :=λk x t v h=>by
  rcases qL h with⟨i,u,rfl,e⟩ | ⟨y,u,rfl,e⟩
  ·exact nomatch e
  ·injection e with e1 _
   subst e1;cases v<;>rfl
theorem mixKind_int(prog:Program)(w:World)(i:Int)(t:Tok):(qK prog w).is (.inl i) (.int i t)=true:=keyIs_int i t
theorem mixKind_str(prog:Program)(w:World)(x:Str)(t:Tok):(qK prog w).is (.inr x) (.str x t)=true:=keyIs_str x t
end L2
namespace L2
open PySem PySem.Spec PyProof.Rows
inductive V where
 | non | bl (b:Bool) | int (i:Int) | str (x:Str) | byt (b:Array UInt8) | flt (b:UInt64) | ref (a:Addr) | ty (n:String)
 deriving DecidableEq
noncomputable def RelV:V->Value->Prop
 | .non,u=>u=Value.none
 | .bl b,u=>u=Value.bool b
 | .int i,u=>∃t,u=Value.int i t
 | .str x,u=>∃t,u=Value.str x t
 | .byt b,u=>∃t,u=Value.bytes b t
 | .flt b,u=>∃t,u=Value.float b t
 | .ref a,u=>u=Value.ref a
 | .ty n,u=>u=Value.type n
noncomputable abbrev Vals:List V->List Value->Prop:=Paired RelV
theorem Vals.length{xs:List V}{us:List Value}(r:Vals xs us):xs.length=us.length:=Paired.length r
theorem Vals.get:∀{xs:List V} {us:List Value} {i:Nat} {x:V},Vals xs us->xs[i]? = some x->∃u,us[i]? = some u/\RelV x u
 | _,_,_,_,.nil,e=>by simp at e
 | _,_,0,_,.cons r _,e=>by simp at e;subst e;exact⟨_,rfl,r⟩
 | _,_,i+1,x,.cons _ t,e=>by
  obtain⟨u,h1,h2⟩:=Vals.get (i:=i) (x:=x) t (by simpa using e);exact⟨u,by simpa using h1,h2⟩
theorem Vals.set{x:V}{u:Value}(r:RelV x u):∀{xs:List V} {us:List Value} (i:Nat),Vals xs us->Vals (xs.set i x) (us.set i u)
 | _,_,_,.nil=>.nil
 | _,_,0,.cons _ t=>.cons r t
 | _,_,i+1,.cons q t=>.cons q (Vals.set r i t)
theorem Vals.append:∀{xs ys:List V} {us ws:List Value},Vals xs us->Vals ys ws->Vals (xs++ys) (us++ws)
 | _,_,_,_,.nil,s=>s
 | _,_,_,_,.cons r t,s=>.cons r (Vals.append t s)
theorem Vals.take:∀{xs:List V} {us:List Value} (n:Nat),Vals xs us->Vals (xs.take n) (us.take n)
 | _,_,0,_=>.nil
 | _,_,_+1,.nil=>.nil
 | _,_,n+1,.cons r t=>.cons r (Vals.take n t)
theorem Vals.drop:∀{xs:List V} {us:List Value} (n:Nat),Vals xs us->Vals (xs.drop n) (us.drop n)
 | _,_,0,r=>r
 | _,_,_+1,.nil=>.nil
 | _,_,n+1,.cons _ t=>Vals.drop n t
noncomputable def RelO:Option V->Option Value->Prop
 | some v,some u=>RelV v u
 | none,none=>True
 | _,_=>False
noncomputable def KV{κ:Type} :List (κ×V)->List (κ×Value)->Prop:=Paired λ(p:κ×V) (q:κ×Value)=>p.1=q.1/\RelV p.2 q.2
noncomputable def kV:Key->V
 | .inl i=>.int i
 | .inr x=>.str x
inductive HO where
 | lst (xs:List V)
 | tup (xs:List V)
 | dK (kvs:List (Key×V)) | dT (kvs:List (List Key×V))
 | set (S:Int->Bool) (n:Nat)
 | ins (C dx:Addr) (fs:List (Str×V))
 | own (x:Addr)
 | xd (fs:List (Str×V))
 | met (f x:Addr)
 | rng (lo hi:Int)
 | frz (o:Obj) (u:HO)
 | tbl (ps:Array Value)
 | ext (φ:Heap->Prop)
noncomputable abbrev Hp:=Addr->Option HO
noncomputable def upd(H:Hp)(a:Addr)(o:HO):Hp:=λb=>if b=a then some o else H b
theorem jK{H:Hp}{a:Addr}{o:HO} :upd H a o a=some o:=by unfold upd;rw[if_pos rfl]
theorem jQ{H:Hp}{a b:Addr}{o:HO}(h:b≠a):upd H a o b=H b:=by unfold upd;rw[if_neg h]
theorem ne_of{H:Hp}{a b:Addr}{o u:HO}(h:H a=some o)(h':H b=some u)(d:o≠u):a≠b:=by
 intro e;subst e;rw[h]at h';exact d (Option.some.inj h')
theorem kY{H:Hp}{a b:Addr}{o:HO}(h:H a=some o)(h':H b=none):a≠b:=by
 intro e;subst e;rw[h]at h';cases h'
section
variable(P:Program)(w:World)
noncomputable def ObjOk(H:Hp)(h:Heap)(a:Addr):HO->Prop
 | .lst xs=>xs.length<=sizeLine/\∃(its:List Value) (n:Nat),Vals xs its/\h.get? a=some { cls:=.type "list",data:=.seq its.toArray n }
 | .tup xs=>xs.length<=sizeLine/\∃its:List Value,Vals xs its/\IsTup h a its.toArray
 | .dK kvs=>kvs.length<=sizeLine/\(a==sysModules)=false/\∃vs,KV kvs vs/\h.DictOf (qK P w) a vs
 | .dT kvs=>kvs.length<=sizeLine/\(a==sysModules)=false/\∃xs:List (List Key×Addr×Value),
   Paired (λ(p:List Key×V) (q:List Key×Addr×Value)=>p.1=q.1/\H q.2.1=some (.tup (p.1.map kV))/\RelV p.2 q.2.2) kvs xs/\
   ∃o es ep,h.get? a=some o/\o.ExactDict/\o.data=.dict es ep/\es.toList=xs.map (entryOfKey (tupleKind (qK P w)))/\(xs.map (·.1)).Nodup
 | .set S n=>h.SetOf (intKind P w) a S n
 | .ins C dx fs=>H dx=some (.own a)/\fs.length<=1000/\dx≠a/\h.get? a=some (PySem.W.instObj C dx)/\
   ∃mA,h.Ns1 dx mA/\(∀f,RelO (fs.lookup f) (mA f))/\PySem.Within mA (fs.map (·.1))
 | .own _=>∃o,h.get? a=some o
 | .xd fs=>∃mA,h.Ns1 a mA/\∀f,RelO (fs.lookup f) (mA f)
 | .rng lo hi=>∃t u v,h.get? a=some { cls:=.type "range",data:=.fields #[.int lo t,.int hi u,.int 1 v] }
 | .frz o u=>h.get? a=some o/\ObjOk H h a u
 | .tbl ps=>h.get? a=some { cls:=.none,data:=.fields ps }
 | .met f x=>h.get? a=some (PySem.W.methodObj (.ref f) (.ref x))
 | .ext φ=>φ h/\(∃o,h.get? a=some o)/\∀h1 h2:Heap,φ h1->(∀o,h1.get? a=some o->h2.get? a=some o)->φ h2
noncomputable def HOk(H:Hp)(h:Heap):Prop:=∀a o,H a=some o->ObjOk P w H h a o
end
section
variable{P:Program}{w:World}{H H':Hp}{h h':Heap}{a:Addr}{o:HO}
theorem ObjOk.lt(x:ObjOk P w H h a o):a<h.objs.size:=by
 cases o with
 | lst xs=>obtain⟨_,_,_,_,e⟩:=x;exact Heap.lt_size e
 | tup xs=>obtain⟨_,_,_,p⟩:=x;exact p.lt
 | dK kvs=>obtain⟨_,_,_,_,o,_,_,e,_⟩:=x;exact Heap.lt_size e
 | dT kvs=>obtain⟨_,_,_,_,o,_,_,e,_⟩:=x;exact Heap.lt_size e
 | set S n=>obtain⟨o,_,_,_,e,_⟩:=x;exact Heap.lt_size e
 | ins C dx fs=>obtain⟨_,_,_,e,_⟩:=x;exact Heap.lt_size e
 | own y=>obtain⟨_,e⟩:=x;exact Heap.lt_size e
 | xd fs=>obtain⟨_,⟨_,_,_,e,_⟩,_⟩:=x;exact Heap.lt_size e
 | rng lo hi=>obtain⟨_,_,_,e⟩:=x;exact Heap.lt_size e
 | frz ob u=>obtain⟨e,_⟩:=x;exact Heap.lt_size e
 | tbl ps=>exact Heap.lt_size (show h.get? a=some _ from x)
 | met f y=>exact Heap.lt_size (show h.get? a=some _ from x)
 | ext φ=>obtain⟨_,⟨_,e⟩,_⟩:=x;exact Heap.lt_size e
theorem Paired.mapP{α β:Type}{F G:α->β->Prop} :∀{l₁:List α} {l₂:List β},Paired F l₁ l₂->(∀a b,F a b->G a b)->Paired G l₁ l₂
 | _,_,.nil,_=>.nil
 | _,_,.cons r t,f=>.cons (f _ _ r) (Paired.mapP t f)
theorem ObjOk.stay(x:ObjOk P w H h a o)(k:∀b u,(b=a∨H b=some (.own a))->h.get? b=some u->h'.get? b=some u)
  (ho:∀b,H b=some (.own a)->H' b=some (.own a)) (ht:∀b xs,H b=some (.tup xs)->H' b=some (.tup xs)):ObjOk P w H' h' a o:=by
 induction o with
 | lst xs=>obtain⟨z,its,n,r,e⟩:=x;exact⟨z,its,n,r,k _ _ (.inl rfl) e⟩
 | tup xs=>obtain⟨z,its,r,ob,e,c⟩:=x;exact⟨z,its,r,ob,k _ _ (.inl rfl) e,c⟩
 | dK kvs=>obtain⟨z,y,vs,r,ob,es,ep,e,c⟩:=x;exact⟨z,y,vs,r,ob,es,ep,k _ _ (.inl rfl) e,c⟩
 | dT kvs=>
  obtain⟨z,y,xs,r,ob,es,ep,e,c⟩:=x;exact⟨z,y,xs,Paired.mapP r λp q z=>⟨z.1,ht _ _ z.2.1,z.2.2⟩,ob,es,ep,k _ _ (.inl rfl) e,c⟩
 | set S n=>obtain⟨ob,es,ep,t,e,c⟩:=x;exact⟨ob,es,ep,t,k _ _ (.inl rfl) e,c⟩
 | ins C dx fs=>
  obtain⟨d,z,ne,e,mA,⟨od,es,ep,e2,c⟩,r⟩:=x;exact⟨ho _ d,z,ne,k _ _ (.inl rfl) e,mA,⟨od,es,ep,k _ _ (.inr d) e2,c⟩,r⟩
 | own y=>obtain⟨ob,e⟩:=x;exact⟨ob,k _ _ (.inl rfl) e⟩
 | xd fs=>obtain⟨mA,⟨od,es,ep,e,c⟩,r⟩:=x;exact⟨mA,⟨od,es,ep,k _ _ (.inl rfl) e,c⟩,r⟩
 | rng lo hi=>obtain⟨t,u,v,e⟩:=x;exact⟨t,u,v,k _ _ (.inl rfl) e⟩
 | frz ob u ih=>obtain⟨e,q⟩:=x;exact⟨k _ _ (.inl rfl) e,ih q⟩
 | tbl ps=>
  have e:h.get? a=some { cls:=.none,data:=.fields ps } :=x;show h'.get? a=some { cls:=.none,data:=.fields ps };exact k a _ (.inl rfl) e
 | met f y=>
  have e:h.get? a=some (PySem.W.methodObj (.ref f) (.ref y)):=x;show h'.get? a=some (PySem.W.methodObj (.ref f) (.ref y));exact k a _ (.inl rfl) e
 | ext φ=>obtain⟨p,⟨o,e⟩,st⟩:=x;exact⟨st _ _ p λo q=>k _ _ (.inl rfl) q,⟨o,k _ _ (.inl rfl) e⟩,st⟩
theorem HOk.lt(x:HOk P w H h)(e:H a=some o):a<h.objs.size:=(x a o e).lt
theorem HOk.fresh(x:HOk P w H h)(e:h.objs.size<=a):H a=none:=by
 cases q:H a with
 | none=>rfl
 | some u=>exact absurd (Nat.lt_of_lt_of_le (x.lt q) e) (Nat.lt_irrefl _)
theorem HOk.kept(x:HOk P w H h)(k:∀b u,h.get? b=some u->h'.get? b=some u):HOk P w H h':=λa o e=>
 (x a o e).stay (λb u _ q=>k b u q) (λ_ q=>q) λ_ _ q=>q
theorem HOk.laid(x:HOk P w H h)(k:∀b u,h.get? b=some u->h'.get? b=some u)(hp:h.objs.size<=a)(new:ObjOk P w (upd H a o) h' a o):HOk P w (upd H a o) h':=λb u e=>by
 have hn:=x.fresh hp;by_cases hb:b=a
 ·subst hb;rw[jK]at e;cases e;exact new
 ·rw[jQ hb]at e;exact(x b u e).stay (λc v _ q=>k c v q) (λc q=>by rw[jQ (kY q hn)];exact q) λc xs q=>by rw[jQ (kY q hn)];exact q
end
noncomputable def Rd(H:Hp)(a:Addr)(u:HO):Prop:=H a=some u∨∃o,H a=some (.frz o u)
theorem Rd.ok{P:Program}{w:World}{H:Hp}{h:Heap}{a:Addr}{u:HO}(r:Rd H a u)(x:HOk P w H h):ObjOk P w H h a u:=by
 rcases r with r | ⟨o,r⟩
 ·exact x a u r
 ·obtain⟨_,q⟩:=x a _ r;exact q
noncomputable def Mut:Option HO->Prop
 | some (.lst _)=>True
 | some (.dK _)=>True
 | some (.dT _)=>True
 | some (.set _ _)=>True
 | some (.ins _ _ _)=>True
 | some (.ext _)=>True
 | _=>False
section
variable{P:Program}{w:World}{H:Hp}{h h':Heap}{x e:Addr}{o':HO}
theorem HOk.write(ok:HOk P w H h)(mu:Mut (H x))(he:e=x∨H e=some (.own x))(k:∀b u,b≠e->h.get? b=some u->h'.get? b=some u)(heo:∃u,h'.get? e=some u)
  (new:ObjOk P w (upd H x o') h' x o'):HOk P w (upd H x o') h':=λb u q=>by
 have nown:∀c y,H c=some (.own y)->c≠x:=λc y r z=>by subst z;rw[r]at mu;exact mu
 have ntup:∀c xs,H c=some (.tup xs)->c≠x:=λc xs r z=>by subst z;rw[r]at mu;exact mu
 by_cases hb:b=x
 ·subst hb;rw[jK]at q;cases q;exact new
 ·rw[jQ hb]at q;by_cases hbe:b=e
  ·have q':H b=some (.own x):=by
    rcases he with z | z
    ·exact absurd (hbe.trans z) hb
    ·rw[hbe];exact z
   rw[q]at q';cases q';obtain⟨v,hv⟩:=heo;exact⟨v,by rw[hbe];exact hv⟩
  ·refine(ok b u q).stay (λc v hc r=>k c v ?_ r) (λc r=>by rw[jQ (nown c b r)];exact r) λc xs r=>by rw[jQ (ntup c xs r)];exact r
   rcases hc with rfl | hc
   ·exact hbe
   ·rintro rfl;rcases he with z | z
    ·exact nown c b hc z
    ·rw[hc]at z;cases z;exact hb rfl
end
structure Un(fs ex:List Addr)(H H':Hp)(h h':Heap):Prop where
 keep:∀b o,h.get? b=some o->H b=none->b∉fs->b∉ex->h'.get? b=some o
 slot:∀b o,h.get? b=some o->H b=none->b∈fs->b∉ex->∃sl,h'.get? b=some { o with slots:=sl }
 free:∀b o,h.get? b=some o->H b=none->b∉ex->H' b=none
 there:∀b o,h.get? b=some o->b∉ex->∃o',h'.get? b=some o'
 tups:∀b xs,H b=some (.tup xs)->H' b=some (.tup xs)
 frzs:∀b o u,H b=some (.frz o u)->H' b=some (.frz o u)
 tbls:∀b ps,H b=some (.tbl ps)->∃more,H' b=some (.tbl (ps++more))
section
variable{fs fs' ex ex':List Addr}{H H1 H2:Hp}{h h1 h2 h':Heap}{a x e:Addr}{o:HO}
theorem Un.any(u:Un fs ex H H1 h h1){b:Addr}{ob:Obj}(q:h.get? b=some ob)(n:H b=none)(hx:b∉ex):∃sl,h1.get? b=some { ob with slots:=sl } :=by
 by_cases hb:b∈fs
 ·exact u.slot b ob q n hb hx
 ·exact⟨ob.slots,u.keep b ob q n hb hx⟩
theorem Un.kept(k:∀b u,h.get? b=some u->h'.get? b=some u):Un fs ex H H h h':=
 ⟨λb ob q _ _ _=>k b ob q,λb ob q _ _ _=>⟨ob.slots,k b ob q⟩,λ_ _ _ n _=>n,λb ob q _=>⟨ob,k b ob q⟩,λ_ _ q=>q,λ_ _ _ q=>q,λ_ ps q=>⟨#[],by rw[q];simp⟩⟩
theorem Un.refl:Un fs ex H H h h:=Un.kept λ_ _ q=>q
theorem Un.laid(k:∀b u,h.get? b=some u->h'.get? b=some u)(hp:h.objs.size<=a)(hn:H a=none):Un fs ex H (upd H a o) h h' where
 keep:=λb u q _ _ _=>k b u q
 slot:=λb u q _ _ _=>⟨u.slots,k b u q⟩
 free:=λb u q n _=>by rw[jQ (Nat.ne_of_lt (Nat.lt_of_lt_of_le (Heap.lt_size q) hp))];exact n
 there:=λb u q _=>⟨u,k b u q⟩
 tups:=λb xs q=>by rw[jQ (kY q hn)];exact q
 frzs:=λb u xs q=>by rw[jQ (kY q hn)];exact q
 tbls:=λb ps q=>⟨#[],by rw[jQ (kY q hn),q];simp⟩
theorem Un.write(mu:Mut (H x))(he:e=x∨H e=some (.own x))(k:∀b u,b≠e->h.get? b=some u->h'.get? b=some u)(heo:∃u,h'.get? e=some u):Un fs ex H (upd H x o) h h':=by
 have hx:∀b,H b=none->b≠x:=λb n z=>by subst z;rw[n]at mu;exact mu
 have hb:∀b,H b=none->b≠e:=λb n z=>by
  subst z;rcases he with r | r
  ·exact hx b n r
  ·rw[n]at r;cases r
 have hm:∀b u,H b=some u->¬Mut (some u)->b≠x:=λb u q nm z=>by subst z;rw[q]at mu;exact nm mu
 refine⟨λb u q n _ _=>k b u (hb b n) q,λb u q n _ _=>⟨u.slots,k b u (hb b n) q⟩,λb u q n _=>by rw[jQ (hx b n)];exact n,λb u q _=>?_,
  λb xs q=>by rw[jQ (hm b _ q λz=>z)];exact q,λb u xs q=>by rw[jQ (hm b _ q λz=>z)];exact q,λb ps q=>⟨#[],by rw[jQ (hm b _ q λz=>z),q];simp⟩⟩
 by_cases hbe:b=e
 ·subst hbe;exact heo
 ·exact⟨u,k b u hbe q⟩
end
noncomputable def trk(h:Heap)(H:Hp):List Addr:=(List.range h.objs.size).filter λa=>(H a).isSome
noncomputable def hidT(h:Heap)(H:Hp):Heap:=PySem.W.hideAll h (trk h H)
theorem hidT_size(h:Heap)(H:Hp):(hidT h H).objs.size=h.objs.size:=PySem.W.hideAll_size _ _
theorem hidT_get{h:Heap}{H:Hp}{b:Addr}{o:Obj}(e:h.get? b=some o)(n:H b=none):(hidT h H).get? b=some o:=
 PySem.W.hideAll_get _ e λhm=>by
  have q:(H b).isSome=true:=(List.mem_filter.mp hm).2;rw[n]at q;simp at q
theorem of_hidT{h:Heap}{H:Hp}{b:Addr}{o:Obj}(e:(hidT h H).get? b=some o):h.get? b=some o/\H b=none:=by
 have e':h.get? b=some o:=PySem.W.of_hideAll (trk h H) e;refine⟨e', ?_⟩;cases q:H b with
 | none=>rfl
 | some x=>
  have hm:b∈trk h H:=List.mem_filter.mpr ⟨List.mem_range.mpr (Heap.lt_size e'),by simp [q]⟩;have z:(hidT h H).get? b=none:=PySem.W.hideAll_none (trk h H) hm;rw[z]at e;cases e
noncomputable def yJ(g h:Heap)(L:Addr):List (Addr×Obj):=(List.range h.objs.size).filterMap λa=>if a=L∨(g.get? a).isSome=true then none else(h.get? a).map λo=>(a,o)
theorem yX{g h:Heap}{L a:Addr}{o:Obj}(h1:a≠L)(h2:g.get? a=none)(h3:h.get? a=some o):(a,o)∈yJ g h L:=
 List.mem_filterMap.mpr ⟨a,List.mem_range.mpr (Heap.lt_size h3),by simp [h1,h2,h3]⟩
theorem hV{g h:Heap}{L:Addr}{p:Addr×Obj}(hp:p∈yJ g h L):p.1≠L/\g.get? p.1=none/\h.get? p.1=some p.2:=by
 obtain⟨b,_,e⟩:=List.mem_filterMap.mp hp;split at e
 ·cases e
 ·rename_i hn;cases q:h.get? b with
  | none=>rw[q]at e;simp at e
  | some u=>
   rw[q]at e;simp only[Option.map_some,Option.some.injEq]at e;subst e;refine⟨λz=>hn (.inl z), ?_,q⟩;show g.get? b=none;cases r:g.get? b with
   | none=>rfl
   | some v=>exact(hn (.inr (by simp [r]))).elim
theorem news_all{g h:Heap}{L:Addr} :News g L h (yJ g h L):=λp hp=>let ⟨a,b,c⟩:=hV hp;⟨c,a,b⟩
end L2
namespace L2
open PySem PySem.Spec PyProof.Rows
structure Mod(K:PySem.W.Frag)(mg:Str->Option Value)(base:Heap):Prop where
 kin:K.In base
 glob:base.Ns mainGlobals mg
 blt:∃mb,base.Ns builtinsNs mb/\∀x:Str,x≠"__name__"->mb x=bootBuiltins x
 nolimit:base.NoLimit
structure Cx where
 prog:Program
 w:World
 K:PySem.W.Frag
 mg:Str->Option Value
 base:Heap
 A:Around
 N:List Str
 s₀:Shared
 H₀:Hp
 env:Env
 outer:List Env
 stack:List Env
 ex:List Addr
 fn:Str->Bool
 calm:Bool
 pn:List (Addr×Obj)
 xe:Value->Shared->Prop
noncomputable def frs(l:List Env):List Addr:=l.filterMap (·.frame)
noncomputable abbrev Cx.fs(X:Cx):List Addr:=frs X.outer
noncomputable def Vis(sc:Scope)(x:Str):Prop:=sc.names.lookup x=some .local∨sc.names.lookup x=some .cell∨sc.names.lookup x=some .free
noncomputable def Loc(sc:Scope)(x:Str):Prop:=sc.names.lookup x=some .local∨sc.names.lookup x=some .cell
noncomputable def Look(env:Env)(h:Heap)(m:Str->Option Value)(x:Str)(u:Value):Prop:=
 (env.kindOf x=some .local/\m x=some u)∨((env.kindOf x=some .cell∨env.kindOf x=some .free)/\∃c,env.cells.lookup x=some c/\h.IsCell c (some u))
structure Cx.Ok(X:Cx):Prop where
 mod:Mod X.K X.mg X.base
 kind:X.env.scope.kind=.function
 glob:X.env.globals=mainGlobals
 blt:X.env.builtins=builtinsNs
 above:X.s₀.heap.objs.size<=X.env.locals
 inj:∀x y c,X.env.cells.lookup x=some c->X.env.cells.lookup y=some c->x=y
 has:∀x,(X.env.kindOf x=some .cell∨X.env.kindOf x=some .free)->∃c,X.env.cells.lookup x=some c
 cab:∀x c,X.fn x=true->X.env.cells.lookup x=some c->X.s₀.heap.objs.size<=c
 hd:X.calm=true->X.A.handled=none
 frames:X.A.frames=some X.stack
 stk:X.stack=X.outer∨(X.stack=X.env::X.outer/\X.env.frame=some X.env.locals)
 exf:∀b∈X.ex,b≠X.env.locals/\∀x c,X.env.cells.lookup x=some c->c≠b
 bs:∀b o,X.base.get? b=some o->X.s₀.heap.get? b=some o/\X.H₀ b=none
 bsz:X.base.objs.size<=X.s₀.heap.objs.size
 noex:∀b o,X.base.get? b=some o->b∉X.ex
 exfs:∀b∈X.ex,b∉X.fs
 funs:X.s₀.heap.FunFrames X.base X.outer
 frf:∀b∈X.fs,X.H₀ b=none
structure Inv(X:Cx)(pins:List (Addr×Obj))(σ:List (Option V))(H:Hp)(s:Shared):Prop where
 ok:X.Ok
 os:s.os=X.s₀.os
 bare:AllBare s.gens
 base:Un X.fs X.ex X.H₀ H X.s₀.heap s.heap
 loc:∃m,s.heap.Ns X.env.locals m/\∀(i:Nat) (x:Str) (v:V),X.N[i]? = some x->σ[i]? = some (some v)->Vis X.env.scope x->∃u,RelV v u/\Look X.env s.heap m x u
 cell:∀x c,X.env.cells.lookup x=some c->∃v,s.heap.IsCell c v
 free:H X.env.locals=none
 freeC:∀x c,X.env.cells.lookup x=some c->H c=none
 pin:∀p∈X.pn++pins,s.heap.get? p.1=some p.2/\H p.1=none/\p.1≠X.env.locals/\p.1∉X.fs/\∀v,p.2.data≠.cell v
 hok:HOk X.prog X.w H s.heap
 len:σ.length=X.N.length
section
variable{X:Cx}{pins:List (Addr×Obj)}{σ:List (Option V)}{H H':Hp}{s:Shared}{h':Heap}
theorem Cx.Ok.nofr(ok:X.Ok){b:Addr}{o:Obj}(e:X.base.get? b=some o):b∉X.fs:=λhb=>by
 have:=(ok.funs.mem hb).1;rw[e]at this;cases this
theorem Inv.bs(I:Inv X pins σ H s):∀b o,X.base.get? b=some o->s.heap.get? b=some o/\H b=none:=λb o e=>
 ⟨I.base.keep b o (I.ok.bs b o e).1 (I.ok.bs b o e).2 (I.ok.nofr e) (I.ok.noex b o e),I.base.free b o (I.ok.bs b o e).1 (I.ok.bs b o e).2 (I.ok.noex b o e)⟩
theorem Inv.bk(I:Inv X pins σ H s):∀b o,X.base.get? b=some o->s.heap.get? b=some o:=λb o e=>(I.bs b o e).1
theorem Inv.mod(I:Inv X pins σ H s):Mod X.K X.mg X.base:=I.ok.mod
theorem Inv.kIn(I:Inv X pins σ H s):X.K.In s.heap:=I.ok.mod.kin.keeps I.bk
theorem Inv.fr(I:Inv X pins σ H s):∃m,Fr X.base X.env.locals s.heap m:=
 let ⟨m,hn,_⟩:=I.loc
 ⟨m,hn,I.bk,Nat.le_trans I.ok.bsz I.ok.above⟩
theorem Inv.lt(I:Inv X pins σ H s):X.env.locals<s.heap.objs.size:=let ⟨_,hn,_⟩:=I.loc;hn.lt
theorem Inv.sz(I:Inv X pins σ H s):X.s₀.heap.objs.size<=s.heap.objs.size:=Nat.le_trans I.ok.above (Nat.le_of_lt I.lt)
theorem Inv.nofs(I:Inv X pins σ H s){a:Addr}(h:s.heap.objs.size<=a):a∉X.fs:=λhb=>by
 obtain⟨_,o,ho,_⟩:=I.ok.funs.mem hb;exact absurd (Nat.lt_of_lt_of_le (Heap.lt_size ho) (Nat.le_trans I.sz h)) (Nat.lt_irrefl _)
theorem Inv.cne(I:Inv X pins σ H s):∀x c,X.env.cells.lookup x=some c->c≠X.env.locals:=λx c e z=>by
 obtain⟨v,o,ho,hd⟩:=I.cell x c e;obtain⟨m,⟨o',es,ep,ho',hd',_⟩,_⟩:=I.loc;rw[z,ho']at ho;cases ho;rw[hd']at hd;cases hd
theorem Inv.funs(I:Inv X pins σ H s):s.heap.FunFrames X.base X.outer:=by
 have all:∀(l:List Env),(∀b∈frs l,b∈X.fs)->X.s₀.heap.FunFrames X.base l->s.heap.FunFrames X.base l:=by
  intro l;induction l with
  | nil=>intro _ _;trivial
  | cons env r ih=>
   intro hs hl;obtain⟨hk,⟨L,o,hf,hn,ho,hd⟩,hr⟩:=hl;have hL:L∈X.fs:=hs L (by unfold frs;rw[List.filterMap_cons,hf];exact List.mem_cons_self);obtain⟨sl,e⟩:=I.base.slot L o ho (I.ok.frf L hL) hL λz=>I.ok.exfs L z hL;exact⟨hk,⟨L,_,hf,hn,e,hd⟩,ih (λb hb=>hs b (by unfold frs;rw[List.filterMap_cons,hf];exact List.mem_cons_of_mem _ hb)) hr⟩
 exact all X.outer (λ_ hb=>hb) I.ok.funs
theorem Inv.stack(I:Inv X pins σ H s):s.heap.FunFrames X.base X.stack:=by
 rcases I.ok.stk with e | ⟨e,hf⟩
 ·rw[e];exact I.funs
 ·rw[e];obtain⟨m,hn,_⟩:=I.loc;refine .cons (by rw[I.ok.kind];decide) hf hn ?_ I.funs;exact Heap.get?_none_of_le (Nat.le_trans I.ok.bsz I.ok.above)
theorem Inv.stkSub(I:Inv X pins σ H s):∀b∈frs X.stack,b∈X.env.locals::X.fs:=λb hb=>by
 rcases I.ok.stk with e | ⟨e,hf⟩
 ·rw[e]at hb;exact List.mem_cons_of_mem _ hb
 ·rw[e]at hb;unfold frs at hb;rw[List.filterMap_cons,hf]at hb;exact hb
theorem Inv.stkFree(I:Inv X pins σ H s):∀b∈frs X.stack,H b=none:=λb hb=>by
 rcases List.mem_cons.mp (I.stkSub b hb)with e | hb
 ·rw[e];exact I.free
 ·obtain⟨_,o,ho,_⟩:=I.ok.funs.mem hb;exact I.base.free b o ho (I.ok.frf b hb) λz=>I.ok.exfs b z hb
theorem Inv.step{g':Array GenState}{t':Nat}{d':Drawn}{ch:List Addr}(I:Inv X pins σ H s)
  (hch:∀b∈ch,(b∈X.ex∨X.s₀.heap.objs.size<=b)/\b≠X.env.locals/\(∀x c,X.env.cells.lookup x=some c->c≠b)/\∀p∈X.pn++pins,p.1≠b)
  (keep:∀b o,b≠X.env.locals->b∉X.fs->b∉ch->s.heap.get? b=some o->H b=none->h'.get? b=some o)
  (slot:∀b o,b≠X.env.locals->b∈X.fs->b∉ch->s.heap.get? b=some o->H b=none->∃sl,h'.get? b=some { o with slots:=sl }) (free:∀b o,b∉ch->s.heap.get? b=some o->H b=none->H' b=none)
  (there:∀b o,b∉ch->s.heap.get? b=some o->∃o',h'.get? b=some o')
  (tups:∀b xs,H b=some (.tup xs)->H' b=some (.tup xs)) (frzs:∀b o u,H b=some (.frz o u)->H' b=some (.frz o u)) (tbls:∀b ps,H b=some (.tbl ps)->∃more,H' b=some (.tbl (ps++more)))
  (ns:∀m,s.heap.Ns X.env.locals m->h'.Ns X.env.locals m) (hok:HOk X.prog X.w H' h') (hg:AllBare g') :
  Inv X pins σ H' { s with heap:=h',gens:=g',drawn:=d',toks:=t' } :=by
 have neL:∀b o,X.s₀.heap.get? b=some o->b≠X.env.locals:=λb o e=>Nat.ne_of_lt (Nat.lt_of_lt_of_le (Heap.lt_size e) I.ok.above);have neC:∀b o,X.s₀.heap.get? b=some o->b∉X.ex->b∉ch:=λb o e hx hb=>by
  rcases(hch b hb).1 with z | z
  ·exact hx z
  ·exact absurd (Nat.lt_of_lt_of_le (Heap.lt_size e) z) (Nat.lt_irrefl _)
 have cellK:∀x c,X.env.cells.lookup x=some c->∀v,s.heap.IsCell c v->h'.IsCell c v:=λx c e v ⟨o,ho,hd⟩=>by
  have nch:c∉ch:=λz=>(hch c z).2.2.1 x c e rfl;by_cases hc:c∈X.fs
  ·obtain⟨sl,q⟩:=slot c o (I.cne x c e) hc nch ho (I.freeC x c e);exact⟨_,q,hd⟩
  ·exact⟨o,keep c o (I.cne x c e) hc nch ho (I.freeC x c e),hd⟩
 refine⟨I.ok,I.os,hg,⟨λb o e n hb hx=>?_,λb o e n hb hx=>?_,λb o e n hx=>?_,λb o e hx=>?_,λb xs e=>tups b xs (I.base.tups b xs e),λb o xs e=>frzs b o xs (I.base.frzs b o xs e),λb ps e=>?_⟩, ?_,λx c e=>?_, ?_,λx c e=>?_,λp hp=>?_,hok,I.len⟩
 ·exact keep b o (neL b o e) hb (neC b o e hx) (I.base.keep b o e n hb hx) (I.base.free b o e n hx)
 ·obtain⟨sl,e1⟩:=I.base.slot b o e n hb hx;obtain⟨sl',e2⟩:=slot b _ (neL b o e) hb (neC b o e hx) e1 (I.base.free b o e n hx);exact⟨sl',e2⟩
 ·obtain⟨o',e1⟩:=I.base.there b o e hx;exact free b o' (neC b o e hx) e1 (I.base.free b o e n hx)
 ·obtain⟨o',e1⟩:=I.base.there b o e hx;exact there b o' (neC b o e hx) e1
 ·obtain⟨m1,e1⟩:=I.base.tbls b ps e;obtain⟨m2,e2⟩:=tbls b _ e1;exact⟨m1++m2,by rw[e2,Array.append_assoc]⟩
 ·obtain⟨m,hn,hl⟩:=I.loc;refine⟨m,ns m hn,λi x v e1 e2 e3=>?_⟩;obtain⟨u,r,l⟩:=hl i x v e1 e2 e3;refine⟨u,r, ?_⟩;rcases l with l | ⟨k,c,e,z⟩
  ·exact .inl l
  ·exact .inr ⟨k,c,e,cellK x c e _ z⟩
 ·obtain⟨v,z⟩:=I.cell x c e;exact⟨v,cellK x c e v z⟩
 ·obtain⟨m,⟨o,_,_,ho,_⟩,_⟩:=I.loc;exact free _ o (λz=>(hch _ z).2.1 rfl) ho I.free
 ·obtain⟨v,o,ho,hd⟩:=I.cell x c e;exact free c o (λz=>(hch c z).2.2.1 x c e rfl) ho (I.freeC x c e)
 ·obtain⟨e,n,ne,nf,d⟩:=I.pin p hp;have nch:p.1∉ch:=λz=>(hch p.1 z).2.2.2 p hp rfl;exact⟨keep p.1 p.2 ne nf nch e n,free p.1 p.2 nch e n,ne,nf,d⟩
theorem Inv.un{t':Nat}(I:Inv X pins σ H s)(u:Un X.fs [] H H' s.heap h')(hok:HOk X.prog X.w H' h'):Inv X pins σ H' { s with heap:=h',toks:=t' } :=by
 obtain⟨m,⟨o,es,ep,ho,r⟩,_⟩:=id I.loc;obtain⟨sl,hL⟩:=u.any ho I.free (by simp);exact I.step (g':=s.gens) (d':=s.drawn) (ch:=[]) (λ_ z=>nomatch z) (λb o _ hb _ e n=>u.keep b o e n hb (by simp)) (λb o _ hb _ e n=>u.slot b o e n hb (by simp)) (λb o _ e n=>u.free b o e n (by simp)) (λb o _ e=>u.there b o e (by simp)) u.tups u.frzs u.tbls (λm' hm=>by
  obtain⟨o',es',ep',ho',r'⟩:=hm;rw[ho]at ho';cases ho';exact⟨_,es',ep',hL,r'⟩) hok I.bare
theorem Inv.call{g':Array GenState}{t':Nat}{d':Drawn}{ch:List Addr}(I:Inv X pins σ H s)(u:Un (frs X.stack) ch H H' s.heap h')(hok:HOk X.prog X.w H' h')(hg:AllBare g')
  (hch:∀b∈ch,(b∈X.ex∨X.s₀.heap.objs.size<=b)/\b≠X.env.locals/\(∀x c,X.env.cells.lookup x=some c->c≠b)/\∀p∈X.pn++pins,p.1≠b) :
  Inv X pins σ H' { s with heap:=h',gens:=g',drawn:=d',toks:=t' } :=by
 obtain⟨m,⟨o,es,ep,ho,r⟩,_⟩:=id I.loc;obtain⟨sl,hL⟩:=u.any ho I.free λz=>(hch _ z).2.1 rfl;exact I.step (ch:=ch) hch (λb o hL hb hc e n=>u.keep b o e n (λz=>(List.mem_cons.mp (I.stkSub b z)).elim hL hb) hc) (λb o _ _ hc e n=>u.any e n hc) (λb o hc e n=>u.free b o e n hc) (λb o hc e=>u.there b o e hc) u.tups u.frzs u.tbls (λm' hm=>by
  obtain⟨o',es',ep',ho',r'⟩:=hm;rw[ho]at ho';cases ho';exact⟨_,es',ep',hL,r'⟩) hok hg
theorem Inv.turned{t':Nat}{it:Addr}(I:Inv X pins σ H s)(k:∀b o,b≠it->s.heap.get? b=some o->h'.get? b=some o)(hn:H it=none)(hL:it≠X.env.locals)
  (h1:it∈X.ex∨X.s₀.heap.objs.size<=it) (h2:∀x c,X.env.cells.lookup x=some c->c≠it) (h3:∀p∈X.pn++pins,p.1≠it):Inv X pins σ H { s with heap:=h',toks:=t' } :=by
 have nit:∀b u,H b=some u->b≠it:=λb u e z=>by rw[z,hn]at e;cases e
 refine I.step (g':=s.gens) (d':=s.drawn) (ch:=[it]) (λb hb=>?_) (λb o _ _ hc e _=>k b o (λz=>hc (by simp [z])) e) (λb o _ _ hc e _=>⟨o.slots,k b o (λz=>hc (by simp [z])) e⟩) (λ_ _ _ _ n=>n)
  (λb o hc e=>⟨o,k b o (λz=>hc (by simp [z])) e⟩) (λ_ _ e=>e) (λ_ _ _ e=>e) (λb ps e=>⟨#[],by rw[e];simp⟩) (λm hm=>?_) (λb u e=>?_) I.bare
 ·have e:b=it:=by simpa using hb
  subst e;exact⟨h1,hL,h2,h3⟩
 ·obtain⟨o,es,ep,ho,r⟩:=hm;exact⟨o,es,ep,k _ o (Ne.symm hL) ho,r⟩
 ·refine(I.hok b u e).stay (λc v hc q=>k c v ?_ q) (λ_ q=>q) λ_ _ q=>q;rcases hc with z | z
  ·rw[z];exact nit b u e
  ·exact nit c _ z
theorem Inv.tok(I:Inv X pins σ H s)(t:Nat):Inv X pins σ H { s with toks:=t } :=I.un (h':=s.heap) (t':=t) Un.refl I.hok
theorem Inv.kept{t':Nat}(I:Inv X pins σ H s)(k:∀b u,s.heap.get? b=some u->h'.get? b=some u):Inv X pins σ H { s with heap:=h',toks:=t' } :=I.un (Un.kept k) (I.hok.kept k)
theorem Inv.laid{a:Addr}{o:HO}{t':Nat}(I:Inv X pins σ H s)(k:∀b u,s.heap.get? b=some u->h'.get? b=some u)(hp:s.heap.objs.size<=a)(new:ObjOk X.prog X.w (upd H a o) h' a o) :
  Inv X pins σ (upd H a o) { s with heap:=h',toks:=t' } :=I.un (Un.laid k hp (I.hok.fresh hp)) (I.hok.laid k hp new)
theorem Inv.write{x e:Addr}{o:HO}{t':Nat}(I:Inv X pins σ H s)(mu:Mut (H x))(he:e=x∨H e=some (.own x))(k:∀b u,b≠e->s.heap.get? b=some u->h'.get? b=some u)(heo:∃u,h'.get? e=some u)
  (new:ObjOk X.prog X.w (upd H x o) h' x o):Inv X pins σ (upd H x o) { s with heap:=h',toks:=t' } :=I.un (Un.write mu he k heo) (I.hok.write mu he k heo new)
theorem Inv.weak{σ':List (Option V)}(I:Inv X pins σ H s)(hl:σ'.length=σ.length)(w:∀(i:Nat) v,σ'[i]? = some (some v)->σ[i]? = some (some v)):Inv X pins σ' H s:=
 ⟨I.ok,I.os,I.bare,I.base,let ⟨m,hn,hl'⟩:=I.loc;⟨m,hn,λi x v e1 e2 e3=>hl' i x v e1 (w i v e2) e3⟩,I.cell,I.free,I.freeC,I.pin,I.hok,hl.trans I.len⟩
theorem Inv.pins_of{pins':List (Addr×Obj)}(I:Inv X pins σ H s)(h:∀p∈pins',s.heap.get? p.1=some p.2/\H p.1=none/\p.1≠X.env.locals/\p.1∉X.fs/\∀v,p.2.data≠.cell v):Inv X pins' σ H s:=
 ⟨I.ok,I.os,I.bare,I.base,I.loc,I.cell,I.free,I.freeC,λp hp=>(List.mem_append.mp hp).elim (λz=>I.pin p (List.mem_append_left _ z)) (h p),I.hok,I.len⟩
theorem nodup_ix{N:List Str}(hN:N.Nodup){i j:Nat}{x:Str}(a:N[i]? = some x)(b:N[j]? = some x):i=j:=by
 obtain⟨h1,e1⟩:=List.getElem?_eq_some_iff.mp a;obtain⟨h2,e2⟩:=List.getElem?_eq_some_iff.mp b;exact(List.getElem_inj hN).mp (e1.trans e2.symm)
theorem mX{M:Model}{A:Around}{E:Value->Shared->Prop}{i:Nat}{x:Str}{v:V}{u:Value}{Q:Unit->Shared->Prop}(I:Inv X pins σ H s)(hN:X.N.Nodup)(hi:X.N[i]? = some x)(hx:Loc X.env.scope x)(r:RelV v u)
  (h:∀s',Inv X pins (σ.set i (some v)) H s'->(∃a,Heap.SameBut a s.heap s'.heap/\(a=X.env.locals∨X.env.cells.lookup x=some a))->Q () s') (hf:X.fn x=true∨X.env.scope.names.lookup x=some .local:=by first | exact .inl rfl | exact .inr rfl | assumption):wpAny M A (storeName X.env x u) Q E s:=by
 obtain⟨m,hn,hl⟩:=id I.loc;have hcls:(X.env.scope.kind==.class||(X.env.scope.kind==.module&&X.env.locals != X.env.globals))=false:=by rw[I.ok.kind];rfl
 have hiσ:i<σ.length:=by rw[I.len];exact(List.getElem?_eq_some_iff.mp hi).1
 have cne:=I.cne;have tracked:∀{a:Addr} {h':Heap},(∃o,s.heap.get? a=some o/\H a=none)->Heap.SameBut a s.heap h'->HOk X.prog X.w H h':=fun {a h'} ha hs b ob e=>by
  obtain⟨_,_,hfree⟩:=ha;refine(I.hok b ob e).stay (λc w' hc q=>(hs.2 c ?_).trans q) (λ_ q=>q) λ_ _ q=>q;rintro rfl;rcases hc with rfl | hc
  ·rw[hfree]at e;cases e
  ·rw[hfree]at hc;cases hc
 rcases hx with hk | hk
 ·refine wpAny_storeName_local hk hn (λh' hn' hs=>?_) hcls;obtain⟨oL,_,_,hoL,_⟩:=id hn;refine h _ ⟨I.ok,I.os,I.bare,⟨λb o e n hb hx=>?_,λb o e n hb hx=>?_,I.base.free,λb o e hx=>?_,I.base.tups,I.base.frzs,I.base.tbls⟩,⟨_,hn',λj y v' e1 e2 e3=>?_⟩,λy c e=>?_,I.free,I.freeC,λp hp=>?_,tracked ⟨oL,hoL,I.free⟩ hs,by simpa using I.len⟩ ⟨_,hs,.inl rfl⟩
  ·exact(hs.2 b (Nat.ne_of_lt (Nat.lt_of_lt_of_le (Heap.lt_size e) I.ok.above))).trans (I.base.keep b o e n hb hx)
  ·obtain⟨sl,e1⟩:=I.base.slot b o e n hb hx;exact⟨sl,(hs.2 b (Nat.ne_of_lt (Nat.lt_of_lt_of_le (Heap.lt_size e) I.ok.above))).trans e1⟩
  ·obtain⟨o',e1⟩:=I.base.there b o e hx;exact⟨o',(hs.2 b (Nat.ne_of_lt (Nat.lt_of_lt_of_le (Heap.lt_size e) I.ok.above))).trans e1⟩
  ·by_cases hj:j=i
   ·subst hj;rw[hi]at e1;cases e1;rw[List.getElem?_set_self hiσ]at e2;cases e2;exact⟨u,r,.inl ⟨hk,by simp⟩⟩
   ·rw[List.getElem?_set_ne (Ne.symm hj)]at e2;obtain⟨u',r',q⟩:=hl j y v' e1 e2 e3;refine⟨u',r', ?_⟩;rcases q with⟨k,e⟩ | ⟨k,c,e,z⟩
    ·refine .inl ⟨k, ?_⟩;have:y≠x:=λe=>hj (nodup_ix hN e1 (e▸hi));simp [this,e]
    ·exact .inr ⟨k,c,e,z.sameBut hs (cne y c e)⟩
  ·obtain⟨w',z⟩:=I.cell y c e;exact⟨w',z.sameBut hs (cne y c e)⟩
  ·obtain⟨e,n,ne,nf,d⟩:=I.pin p hp;exact⟨(hs.2 p.1 ne).trans e,n,ne,nf,d⟩
 ·have hfn:X.fn x=true:=by
   rcases hf with z | z
   ·exact z
   ·rw[z]at hk;cases hk
  obtain⟨c,hc⟩:=I.ok.has x (.inl hk);obtain⟨w',z⟩:=I.cell x c hc;refine wpAny_storeName_cell I.ok.kind hk hc z (λh' hc' hs=>?_);obtain⟨oc,hoc,hocd⟩:=id z;refine h { s with heap:=h' } ⟨I.ok,I.os,I.bare,⟨λb o e n hb hx=>?_,λb o e n hb hx=>?_,I.base.free,λb o e hx=>?_,I.base.tups,I.base.frzs,I.base.tbls⟩,⟨m,hn.sameBut hs (Ne.symm (cne x c hc)),λj y v' e1 e2 e3=>?_⟩,λy c' e=>?_,I.free,I.freeC,λp hp=>?_,tracked ⟨oc,hoc,I.freeC x c hc⟩ hs,by simpa using I.len⟩ ⟨c,hs,.inr hc⟩
  ·exact(hs.2 b (Nat.ne_of_lt (Nat.lt_of_lt_of_le (Heap.lt_size e) (I.ok.cab x c hfn hc)))).trans (I.base.keep b o e n hb hx)
  ·obtain⟨sl,e1⟩:=I.base.slot b o e n hb hx;exact⟨sl,(hs.2 b (Nat.ne_of_lt (Nat.lt_of_lt_of_le (Heap.lt_size e) (I.ok.cab x c hfn hc)))).trans e1⟩
  ·obtain⟨o',e1⟩:=I.base.there b o e hx;exact⟨o',(hs.2 b (Nat.ne_of_lt (Nat.lt_of_lt_of_le (Heap.lt_size e) (I.ok.cab x c hfn hc)))).trans e1⟩
  ·by_cases hj:j=i
   ·subst hj;rw[hi]at e1;cases e1;rw[List.getElem?_set_self hiσ]at e2;cases e2;exact⟨u,r,.inr ⟨.inl hk,c,hc,hc'⟩⟩
   ·rw[List.getElem?_set_ne (Ne.symm hj)]at e2;obtain⟨u',r',q⟩:=hl j y v' e1 e2 e3;refine⟨u',r', ?_⟩;rcases q with q | ⟨k,c',e,z'⟩
    ·exact .inl q
    ·refine .inr ⟨k,c',e,z'.sameBut hs ?_⟩;rintro rfl;exact hj (nodup_ix hN e1 (I.ok.inj _ _ _ e hc▸hi))
  ·by_cases hcc:c'=c
   ·subst hcc;exact⟨_,hc'⟩
   ·obtain⟨w2,z2⟩:=I.cell y c' e;exact⟨w2,z2.sameBut hs hcc⟩
  ·obtain⟨e,n,ne,nf,d⟩:=I.pin p hp;refine⟨(hs.2 p.1 ?_).trans e,n,ne,nf,d⟩;intro q;rw[q,hoc]at e;have q':oc=p.2:=Option.some.inj e;exact d w' (by rw[<-q'];exact hocd)
theorem zY{M:Model}{A:Around}{E:Value->Shared->Prop}{i:Nat}{x:Str}{v:V}{u:Value}{Q:Unit->Shared->Prop}(I:Inv X pins σ H s)(hN:X.N.Nodup)(hi:X.N[i]? = some x)(hx:Loc X.env.scope x)(r:RelV v u)
  (h:∀s',Inv X pins (σ.set i (some v)) H s'->Q () s') (hf:X.fn x=true∨X.env.scope.names.lookup x=some .local:=by first | exact .inl rfl | exact .inr rfl | assumption):wpAny M A (storeName X.env x u) Q E s:=
 mX I hN hi hx r (λs' I' _=>h s' I') hf
theorem Inv.call'{s':Shared}{ch:List Addr}(I:Inv X pins σ H s)(ho:s'.os=s.os)(u:Un (frs X.stack) ch H H' s.heap s'.heap)(hok:HOk X.prog X.w H' s'.heap)(hg:AllBare s'.gens)
  (hch:∀b∈ch,(b∈X.ex∨X.s₀.heap.objs.size<=b)/\b≠X.env.locals/\(∀x c,X.env.cells.lookup x=some c->c≠b)/\∀p∈X.pn++pins,p.1≠b):Inv X pins σ H' s':=by
 obtain⟨h',g',d',t',o'⟩:=s';have e:o'=s.os:=ho;subst e;exact I.call (g':=g') (t':=t') (d':=d') u hok hg hch
end
noncomputable abbrev XK:=Value->Option Addr->Hp->Prop
noncomputable abbrev St:=List (Option V)
noncomputable abbrev VK:=V->Hp->Prop
noncomputable abbrev TE:=St->Hp->VK->Prop
noncomputable abbrev TT:=St->Hp->(Bool->Hp->Prop)->Prop
noncomputable abbrev TA:=St->Hp->(List V->Hp->Prop)->Prop
structure Ends where
 nx:St->Hp->Prop
 rt:VK
 bk:St->Hp->Prop:=λ_ _=>False
 ct:St->Hp->Prop:=λ_ _=>False
noncomputable abbrev TS:=Ends->St->Hp->Prop
noncomputable def EP(X:Cx)(pins:List (Addr×Obj))(σ:St)(Q:VK)(u:Value)(s':Shared):Prop:=∃v H',Inv X pins σ H' s'/\RelV v u/\Q v H'
noncomputable def TP(X:Cx)(pins:List (Addr×Obj))(σ:St)(Q:Bool->Hp->Prop)(b:Bool)(s':Shared):Prop:=∃H',Inv X pins σ H' s'/\Q b H'
noncomputable def AP(X:Cx)(pins:List (Addr×Obj))(σ:St)(Q:List V->Hp->Prop)(us:List Value)(s':Shared):Prop:=∃vs H',Inv X pins σ H' s'/\Vals vs us/\Q vs H'
noncomputable def SP(X:Cx)(pins:List (Addr×Obj))(D:Ends)(f:Flow)(s':Shared):Prop:=
 match f with
 | .next=>∃σ' H',Inv X pins σ' H' s'/\D.nx σ' H'
 | .brk=>∃σ' H',Inv X pins σ' H' s'/\D.bk σ' H'
 | .cont=>∃σ' H',Inv X pins σ' H' s'/\D.ct σ' H'
 | .ret u=>∃v σ' H',Inv X pins σ' H' s'/\RelV v u/\D.rt v H'
noncomputable def PE(X:Cx)(e:Expr)(t:TE):Prop:=
 ∀(pins:List (Addr×Obj)) (s:Shared) (σ:St) (H:Hp) (Q:VK),Inv X pins σ H s->t σ H Q->wpAny (model X.prog X.w) X.A (eval e X.env) (EP X pins σ Q) X.xe s
noncomputable def PT(X:Cx)(e:Expr)(t:TT):Prop:=
 ∀(pins:List (Addr×Obj)) (s:Shared) (σ:St) (H:Hp) (Q:Bool->Hp->Prop),Inv X pins σ H s->t σ H Q->wpAny (model X.prog X.w) X.A (isTrue e X.env (eval e X.env)) (TP X pins σ Q) X.xe s
noncomputable def PW(X:Cx)(e:Expr)(t:TT):Prop:=
 ∀(whole:Sem Value) (pins:List (Addr×Obj)) (s:Shared) (σ:St) (H:Hp) (Q:Bool->Hp->Prop),Inv X pins σ H s->t σ H Q->wpAny (model X.prog X.w) X.A (isTrue e X.env whole) (TP X pins σ Q) X.xe s
theorem PW.pt{X:Cx}{e:Expr}{t:TT}(h:PW X e t):PT X e t:=h _
noncomputable def PA(X:Cx)(es:List Expr)(t:TA):Prop:=
 ∀(pos:Pos) (pins:List (Addr×Obj)) (s:Shared) (σ:St) (H:Hp) (Q:List V->Hp->Prop),Inv X pins σ H s->t σ H Q->wpAny (model X.prog X.w) X.A (spliced (backTo pos (starEach es X.env))) (AP X pins σ Q) X.xe s
noncomputable def PS(X:Cx)(st:Stmt)(t:TS):Prop:=
 ∀(pins:List (Addr×Obj)) (s:Shared) (σ:St) (H:Hp) (D:Ends),Inv X pins σ H s->t D σ H->wpAny (model X.prog X.w) X.A (exec st X.env) (SP X pins D) X.xe s
noncomputable def PSs(X:Cx)(st:List Stmt)(t:TS):Prop:=
 ∀(pins:List (Addr×Obj)) (s:Shared) (σ:St) (H:Hp) (D:Ends),Inv X pins σ H s->t D σ H->wpAny (model X.prog X.w) X.A (execs st X.env) (SP X pins D) X.xe s
theorem thn{α:Type}{t:Sem α}{Q Q':α->Shared->Prop}{M:Model}{A:Around}{E:Value->Shared->Prop}{s:Shared}(h:wpAny M A t Q E s)(hQ:∀a s,Q a s->Q' a s):wpAny M A t Q' E s:=wpAny_mono h hQ λ_ _ x=>x
end L2
namespace L2
open PySem PySem.Spec PyProof.Rows
section
variable{X:Cx}
theorem bin{a b:Expr}{ta tb:TE}(ha:PE X a ta)(hb:PE X b tb){pins:List (Addr×Obj)}{s:Shared}{σ:St}{H:Hp}{R:V->V->Hp->Prop}(I:Inv X pins σ H s)(h:ta σ H λx H1=>tb σ H1 λy H2=>R x y H2)
  {α:Type} {Q:α->Shared->Prop} {f:Value->Value->Sem α}
  (hf:∀v u s2 x y H2,Inv X pins σ H2 s2->RelV x v->RelV y u->R x y H2->wpAny (model X.prog X.w) X.A (f v u) Q X.xe s2) :
  wpAny (model X.prog X.w) X.A (eval a X.env) (λv s₁=>wpAny (model X.prog X.w) X.A (eval b X.env) (λu s₂=>wpAny (model X.prog X.w) X.A (f v u) Q X.xe s₂) X.xe s₁) X.xe s:=by
 refine thn (ha pins s σ H _ I h) λv s1 ⟨x,H1,I1,r1,q1⟩=>?_;refine thn (hb pins s1 σ H1 _ I1 q1) λu s2 ⟨y,H2,I2,r2,q2⟩=>?_;exact hf v u s2 x y H2 I2 r1 r2 q2
noncomputable def tVar(i:Nat):TE:=fun σ H Q=>∃v,σ[i]? = some (some v)/\Q v H
noncomputable def tC(v:V):TE:=λ_ H Q=>Q v H
theorem pe_var{i:Nat}{x:Str}{pos:Pos}(hN:X.N[i]? = some x)(hv:Vis X.env.scope x)(hd:(x==("__debug__" :Str))=false:=by decide)(hcd:(x==("__classdict__" :Str))=false:=by decide):PE X (.Name x pos) (tVar i):=by
 intro pins s σ H Q I h;obtain⟨v,e,h⟩:=h;obtain⟨m,hn,hl⟩:=I.loc;obtain⟨u,r,l⟩:=hl i x v hN e hv;have fin:EP X pins σ Q u s:=⟨v,H,I,r,h⟩;rcases l with⟨hk,hm⟩ | ⟨hk,c,hc,hcell⟩
 ·exact wpAny_Name (wpAny_loadName_local I.ok.kind hk hn hm fin) hd
 ·rcases hk with hk | hk
  ·exact wpAny_Name (wpAny_loadName_cell I.ok.kind hk hc hcell fin) hd
  ·exact wpAny_Name (wpAny_loadName_free I.ok.kind hk hc hcell fin hcd) hd
theorem jD{i j pos} :PE X (.Constant (.int i) j pos) (tC (.int i)):=λ_ _ _ H _ I h=>wpAny_Constant_int ⟨.int i,H,I.tok _,⟨_,rfl⟩,h⟩
theorem vF{b j pos} :PE X (.Constant (.bool b) j pos) (tC (.bl b)):=λ_ _ _ H _ I h=>Constant_bool ⟨.bl b,H,I,rfl,h⟩
theorem xI{j pos} :PE X (.Constant .none j pos) (tC .non):=λ_ _ _ H _ I h=>Constant_none ⟨.non,H,I,rfl,h⟩
noncomputable def Gl(X:Cx)(x:Str):Prop:=X.env.kindOf x=some .globalImplicit
theorem ld_glob{E:Value->Shared->Prop}{pins:List (Addr×Obj)}{s:Shared}{σ:St}{H:Hp}{x:Str}{u:Value}{pos:Pos}{Q:Value->Shared->Prop}(I:Inv X pins σ H s)(hg:Gl X x)(hm:X.mg x=some u)(h:Q u s)
  (hd:(x==("__debug__" :Str))=false:=by decide):wpAny (model X.prog X.w) X.A (eval (.Name x pos) X.env) Q E s:=
 Calls.Name_function_global I.ok.kind hg (Calls.loadGlobal_global (by rw[I.ok.glob];exact I.mod.glob.keeps I.bk) hm h) hd
theorem xA{E:Value->Shared->Prop}{pins:List (Addr×Obj)}{s:Shared}{σ:St}{H:Hp}{x:Str}{u:Value}{pos:Pos}{Q:Value->Shared->Prop}(I:Inv X pins σ H s)(hg:Gl X x)(hm:X.mg x=none)(hv:bootBuiltins x=some u)(h:Q u s)
  (hn:x≠"__name__":=by decide) (hd:(x==("__debug__" :Str))=false:=by decide):wpAny (model X.prog X.w) X.A (eval (.Name x pos) X.env) Q E s:=by
 obtain⟨mb,h1,h2⟩:=I.mod.blt;exact Calls.Name_function_global I.ok.kind hg (Calls.loadGlobal_builtin (by rw[I.ok.glob];exact I.mod.glob.keeps I.bk) hm (by rw[I.ok.blt];exact h1.keeps I.bk) ((h2 x hn).trans hv) h) hd
theorem pe_glob{x:Str}{v:V}{u:Value}{pos:Pos}(hg:Gl X x)(hm:X.mg x=some u)(r:RelV v u)(hd:(x==("__debug__" :Str))=false:=by decide):PE X (.Name x pos) (tC v):=
 λ_ _ _ H _ I h=>ld_glob I hg hm ⟨v,H,I,r,h⟩ hd
theorem pe_bltn{x:Str}{v:V}{u:Value}{pos:Pos}(hg:Gl X x)(hm:X.mg x=none)(hv:bootBuiltins x=some u)(r:RelV v u)(hn:x≠"__name__":=by decide)(hd:(x==("__debug__" :Str))=false:=by decide):PE X (.Name x pos) (tC v):=
 λ_ _ _ H _ I h=>xA I hg hm hv ⟨v,H,I,r,h⟩ hn hd
variable{a b:Expr}{ta tb:TE}{pos:Pos}
noncomputable def PC(X:Cx)(op:CmpOp)(a b:Expr)(t:TE):Prop:=
 ∀(pins:List (Addr×Obj)) (s:Shared) (σ:St) (H:Hp) (Q:VK),Inv X pins σ H s->t σ H Q->
  wpAny (model X.prog X.w) X.A (eval a X.env) (λv s₁=>wpAny (model X.prog X.w) X.A (eval b X.env) (λu s₂=>wpAny (model X.prog X.w) X.A (compareOp op v u) (EP X pins σ Q) X.xe s₂) X.xe s₁) X.xe s
theorem nobehind(b:Expr){op:CmpOp}(h:op≠.In)(h2:op≠.NotIn):behindInMarks op b=false:=by
 have e1:(op==CmpOp.In)=false:=by cases op<;>first | rfl | exact absurd rfl h
 have e2:(op==CmpOp.NotIn)=false:=by cases op<;>first | rfl | exact absurd rfl h2
 cases b<;>simp [behindInMarks,e1,e2]
noncomputable def tIsN(ta:TE):TE:=fun σ H Q=>ta σ H λx H1=>Q (.bl (decide (x=.non))) H1
noncomputable def tNotN(ta:TE):TE:=fun σ H Q=>ta σ H λx H1=>Q (.bl (!decide (x=.non))) H1
theorem RelV.none_iff{x:V}{v:Value}(r:RelV x v):(v==Value.none)=decide (x=.non):=by
 cases x with
 | non=>cases r;rfl
 | bl _=>cases r;rfl
 | int _=>obtain⟨t,rfl⟩:=r;rfl
 | str _=>obtain⟨t,rfl⟩:=r;rfl
 | byt _=>obtain⟨t,rfl⟩:=r;rfl
 | flt _=>obtain⟨t,rfl⟩:=r;rfl
 | ref _=>cases r;rfl
 | ty _=>cases r;rfl
theorem xU{j pos'}(ha:PE X a ta):PC X .Is a (.Constant .none j pos') (tIsN ta):=by
 intro pins s σ H Q I h;refine thn (ha pins s σ H _ I h) λv s1 ⟨x,H1,I1,r1,q1⟩=>?_;exact Constant_none (is_none_gen ⟨.bl _,H1,I1,by rw[r1.none_iff];rfl,q1⟩)
theorem vJ{j pos'}(ha:PE X a ta):PC X .IsNot a (.Constant .none j pos') (tNotN ta):=by
 intro pins s σ H Q I h;refine thn (ha pins s σ H _ I h) λv s1 ⟨x,H1,I1,r1,q1⟩=>?_;exact Constant_none (isnot_none_gen ⟨.bl _,H1,I1,by rw[r1.none_iff];rfl,q1⟩)
noncomputable def tB(t:TE):TT:=fun σ H Q=>t σ H λx H1=>∃c,x=.bl c/\Q c H1
theorem qF{op:CmpOp}{t:TE}(h:PC X op a b t)(h1:behindInMarks op b=false:=by first | exact nobehind _ (by decide) (by decide) | rfl):PT X (.Compare a [op] [b] pos) (tB t):=by
 intro pins s σ H Q I hw;refine wpAny_isTrue_Compare1 (thn (h pins s σ H _ I hw) λv s1 h1=>thn h1 λu s2 h2=>thn h2 λc s3 ⟨x,H1,I1,r1,q1⟩=>?_) h1;obtain⟨d,rfl,q⟩:=q1;cases r1;exact wpAny_truthy_bool ⟨H1,I1,q⟩
theorem qM{e:Expr}{t:TE}(h:PE X e t)(he:∀whole,isTrue e X.env whole=(do let v<-whole;standAt e.pos;holding [v] (truthy v)):=by intro _;rfl):PT X e (tB t):=by
 intro pins s σ H Q I hw;refine isTrue_plain (thn (h pins s σ H _ I hw) λv s1 ⟨x,H1,I1,r1,q1⟩=>?_) (he _);obtain⟨d,rfl,q⟩:=q1;cases r1;exact wpAny_truthy_bool ⟨H1,I1,q⟩
variable{tA tB':TT}{rest:List Expr}
noncomputable def tAnd(t u:TT):TT:=fun σ H Q=>t σ H λc H1=>if c=true then u σ H1 Q else Q false H1
noncomputable def tOr(t u:TT):TT:=fun σ H Q=>t σ H λc H1=>if c=true then Q true H1 else u σ H1 Q
noncomputable def tNot(t:TT):TT:=fun σ H Q=>t σ H λc H1=>Q (!c) H1
theorem qT(ha:PT X a tA):PW X (.BoolOp .And [a] pos) tA:=by
 intro wh pins s σ H Q I h;refine isTrue_and (thn (ha pins s σ H Q I h) λc s1 e=>?_);cases c with
 | true=>exact isTrue_and_nil e
 | false=>exact e
theorem vY(ha:PT X a tA):PW X (.BoolOp .Or [a] pos) tA:=by
 intro wh pins s σ H Q I h;refine isTrue_or (thn (ha pins s σ H Q I h) λc s1 e=>?_);cases c with
 | false=>exact isTrue_or_nil e
 | true=>exact e
theorem qV(ha:PT X a tA)(hb:PW X (.BoolOp .And (b::rest) pos) tB'):PW X (.BoolOp .And (a::b::rest) pos) (tAnd tA tB'):=by
 intro wh pins s σ H Q I h;refine isTrue_and (thn (ha pins s σ H _ I h) λc s1 ⟨H1,I1,q1⟩=>?_);cases c with
 | true=>exact hb wh pins s1 σ H1 Q I1 q1
 | false=>exact⟨H1,I1,q1⟩
theorem xW(ha:PT X a tA)(hb:PW X (.BoolOp .Or (b::rest) pos) tB'):PW X (.BoolOp .Or (a::b::rest) pos) (tOr tA tB'):=by
 intro wh pins s σ H Q I h;refine isTrue_or (thn (ha pins s σ H _ I h) λc s1 ⟨H1,I1,q1⟩=>?_);cases c with
 | true=>exact⟨H1,I1,q1⟩
 | false=>exact hb wh pins s1 σ H1 Q I1 q1
theorem vN(ha:PT X a tA):PT X (.UnaryOp .Not a pos) (tNot tA):=by
 intro pins s σ H Q I h;exact isTrue_not (ha pins s σ H (λc H1=>Q (!c) H1) I h)
noncomputable def tAndV(ta tb:TE):TE:=fun σ H Q=>ta σ H λx H1=>∃c,x=.bl c/\if c=true then tb σ H1 Q else Q (.bl false) H1
theorem pe_one{op}{t:TE}(h:PE X a t):PE X (.BoolOp op [a] pos) t:=λpins s σ H Q I hw=>BoolOp_one (h pins s σ H Q I hw)
theorem pe_and(ha:PE X a ta)(hb:PE X (.BoolOp .And (b::rest) pos) tb):PE X (.BoolOp .And (a::b::rest) pos) (tAndV ta tb):=by
 intro pins s σ H Q I h;refine BoolOp_and (thn (ha pins s σ H _ I h) λv s1 ⟨x,H1,I1,r1,q1⟩=>?_);obtain⟨c,rfl,q1⟩:=q1;cases r1;refine wpAny_truthy_bool ?_;cases c with
 | true=>exact hb pins s1 σ H1 Q I1 q1
 | false=>exact⟨.bl false,H1,I1,rfl,q1⟩
end
end L2
namespace L2
open PySem PySem.Spec PyProof.Rows
noncomputable def SqL(K:PySem.W.Frag)(H:Hp)(a:Addr)(xs:List V):Prop:=
 Rd H a (.lst xs)∨
  ∃(o:Obj) (its:Array Value) (n:Nat),K.lookup a=some o/\o.cls=.type "list"/\o.dict=none/\o.data=.seq its n/\its.size<=sizeLine/\Vals xs its.toList
noncomputable def SqT(K:PySem.W.Frag)(H:Hp)(a:Addr)(xs:List V):Prop:=
 Rd H a (.tup xs)∨
  ∃(o:Obj) (its:Array Value) (n:Nat),K.lookup a=some o/\o.cls=.type "tuple"/\o.data=.seq its n/\its.size<=sizeLine/\Vals xs its.toList
noncomputable def absV:Value->Option V
 | .none=>some .non
 | .bool b=>some (.bl b)
 | .int i _=>some (.int i)
 | .str x _=>some (.str x)
 | .bytes b _=>some (.byt b)
 | .float b _=>some (.flt b)
 | .ref a=>some (.ref a)
 | .type n=>some (.ty n)
 | _=>none
theorem RelV.abs{x:V}{u:Value}(r:RelV x u):absV u=some x:=by
 cases x with
 | non=>cases r;rfl
 | bl _=>cases r;rfl
 | int _=>obtain⟨t,rfl⟩:=r;rfl
 | str _=>obtain⟨t,rfl⟩:=r;rfl
 | byt _=>obtain⟨t,rfl⟩:=r;rfl
 | flt _=>obtain⟨t,rfl⟩:=r;rfl
 | ref _=>cases r;rfl
 | ty _=>cases r;rfl
theorem RelV.inj{x y:V}{u:Value}(r:RelV x u)(q:RelV y u):x=y:=Option.some.inj (r.abs.symm.trans q.abs)
theorem Vals.inj:∀{xs ys:List V} {us:List Value},Vals xs us->Vals ys us->xs=ys
 | _,_,_,.nil,.nil=>rfl
 | _,_,_,.cons r t,.cons r' t'=>by rw[r.inj r',Vals.inj t t']
section
variable{X:Cx}{pins:List (Addr×Obj)}{σ:St}{H:Hp}{s:Shared}{a:Addr}{xs ys:List V}
theorem SqL.of{K:PySem.W.Frag}(h:H a=some (.lst xs)):SqL K H a xs:=.inl (.inl h)
theorem SqT.of{K:PySem.W.Frag}(h:H a=some (.tup xs)):SqT K H a xs:=.inl (.inl h)
theorem Inv.list(I:Inv X pins σ H s)(h:SqL X.K H a xs):∃its:List Value,Vals xs its/\PlainL s.heap a its.toArray/\xs.length<=sizeLine:=by
 rcases h with h | ⟨o,its,n,hk,hc,hd,hs,hz,r⟩
 ·obtain⟨z,its,n,r,e⟩:=h.ok I.hok;exact⟨its,r,⟨_,n,e,rfl,rfl,rfl⟩,z⟩
 ·refine⟨its.toList,r,⟨o,n,I.kIn a o hk,hc,hd,by simpa using hs⟩, ?_⟩;have e:=r.length;simp only[Array.length_toList]at e;omega
theorem Inv.tuple(I:Inv X pins σ H s)(h:SqT X.K H a xs):∃its:List Value,Vals xs its/\IsTup s.heap a its.toArray/\xs.length<=sizeLine:=by
 rcases h with h | ⟨o,its,n,hk,hc,hs,hz,r⟩
 ·obtain⟨z,its,r,p⟩:=h.ok I.hok;exact⟨its,r,p,z⟩
 ·refine⟨its.toList,r,⟨o,I.kIn a o hk,hc,n,by simpa using hs⟩, ?_⟩;have e:=r.length;simp only[Array.length_toList]at e;omega
theorem Inv.list_inj(I:Inv X pins σ H s)(h:SqL X.K H a xs)(h':SqL X.K H a ys):xs=ys:=by
 obtain⟨its,r,⟨o,n,e,_,_,d⟩,_⟩:=I.list h;obtain⟨its',r',⟨o',n',e',_,_,d'⟩,_⟩:=I.list h';rw[e]at e';cases e';rw[d]at d';injection d' with d1 _
 have:its=its':=by simpa using congrArg Array.toList d1
 subst this;exact r.inj r'
theorem Inv.tuple_inj(I:Inv X pins σ H s)(h:SqT X.K H a xs)(h':SqT X.K H a ys):xs=ys:=by
 obtain⟨its,r,⟨o,e,_,n,d⟩,_⟩:=I.tuple h;obtain⟨its',r',⟨o',e',_,n',d'⟩,_⟩:=I.tuple h';rw[e]at e';cases e';rw[d]at d';injection d' with d1 _
 have:its=its':=by simpa using congrArg Array.toList d1
 subst this;exact r.inj r'
end
noncomputable abbrev Cx.wish(X:Cx)(E:Value->Shared->Prop):Cx:={ X with xe:=E }
noncomputable abbrev Cx.nox(X:Cx):Cx:=X.wish λ_ _=>False
theorem Cx.Ok.wish{X:Cx}(ok:X.Ok)(E:Value->Shared->Prop):(X.wish E).Ok:=
 ⟨ok.mod,ok.kind,ok.glob,ok.blt,ok.above,ok.inj,ok.has,ok.cab,ok.hd,ok.frames,ok.stk,ok.exf,ok.bs,ok.bsz,ok.noex,ok.exfs,ok.funs,ok.frf⟩
theorem Cx.Ok.unwish{X:Cx}{E:Value->Shared->Prop}(ok:(X.wish E).Ok):X.Ok:=
 ⟨ok.mod,ok.kind,ok.glob,ok.blt,ok.above,ok.inj,ok.has,ok.cab,ok.hd,ok.frames,ok.stk,ok.exf,ok.bs,ok.bsz,ok.noex,ok.exfs,ok.funs,ok.frf⟩
section
variable{X:Cx}{pins:List (Addr×Obj)}{σ:St}{H:Hp}{s:Shared}{E:Value->Shared->Prop}
theorem Inv.wish(I:Inv X pins σ H s)(E:Value->Shared->Prop):Inv (X.wish E) pins σ H s:=⟨I.ok.wish E,I.os,I.bare,I.base,I.loc,I.cell,I.free,I.freeC,I.pin,I.hok,I.len⟩
theorem Inv.unwish(I:Inv (X.wish E) pins σ H s):Inv X pins σ H s:=⟨I.ok.unwish,I.os,I.bare,I.base,I.loc,I.cell,I.free,I.freeC,I.pin,I.hok,I.len⟩
theorem SP.unwish{D:Ends}{f:Flow}{s':Shared}(h:SP (X.wish E) pins D f s'):SP X pins D f s':=by
 cases f with
 | next=>obtain⟨σ',H',I,q⟩:=h;exact⟨σ',H',I.unwish,q⟩
 | brk=>obtain⟨σ',H',I,q⟩:=h;exact⟨σ',H',I.unwish,q⟩
 | cont=>obtain⟨σ',H',I,q⟩:=h;exact⟨σ',H',I.unwish,q⟩
 | ret u=>obtain⟨v,σ',H',I,r,q⟩:=h;exact⟨v,σ',H',I.unwish,r,q⟩
theorem PSs.nox{st:List Stmt}{t:TS}(h:PSs X.nox st t):PSs X st t:=λpins s σ H D I hw=>
 wpAny_mono (h pins s σ H D (I.wish _) hw) (λ_ _ q=>q.unwish) λ_ _ z=>False.elim z
end
section
variable{X:Cx}{st:Stmt}{rest:List Stmt}{t u:TS}{e:Expr}{te:TE}{pos:Pos}
noncomputable def tNext:TS:=λD σ H=>D.nx σ H
noncomputable def tSeq(t u:TS):TS:=λD σ H=>t { D with nx:=u D } σ H
theorem jP:PSs X [] tNext:=λ_ _ σ H _ I h=>wpAny_execs_nil ⟨σ,H,I,h⟩
theorem jB(h1:PS X st t)(h2:PSs X rest u):PSs X (st::rest) (tSeq t u):=by
 intro pins s σ H D I h;refine wpAny_execs_cons (thn (h1 pins s σ H { D with nx:=u D } I h) λf s1 q=>?_);cases f with
 | next=>
  obtain⟨σ',H',I',q⟩:=q;exact h2 pins s1 σ' H' D I' q
 | ret v=>exact q
 | brk=>exact q
 | cont=>exact q
theorem jF(h1:PS X st t):PSs X [st] t:=by
 intro pins s σ H D I h;refine wpAny_execs_cons (thn (h1 pins s σ H D I h) λf s1 q=>?_);cases f with
 | next=>exact wpAny_execs_nil q
 | ret v=>exact q
 | brk=>exact q
 | cont=>exact q
theorem Inv.quiet{pins:List (Addr×Obj)}{σ:St}{H:Hp}{s:Shared}(I:Inv X pins σ H s):interactive X.env=false:=by simp [interactive,I.ok.kind]
noncomputable def tDrop(te:TE):TS:=λD σ H=>te σ H λ_ H1=>D.nx σ H1
theorem xD(he:PE X e te)(hs:swapsWith e none pos.line X.env=pure false:=by rfl):PS X (.Expr e pos) (tDrop te):=by
 intro pins s σ H D I h;exact wpAny_Expr_any (thn (he pins s σ H _ I h) λv s1 ⟨x,H1,I1,r1,q1⟩=>⟨σ,H1,I1,q1⟩) I.quiet hs
noncomputable def tRet(te:TE):TS:=λD σ H=>te σ H D.rt
theorem jN(he:PE X e te):PS X (.Return (some e) pos) (tRet te):=by
 intro pins s σ H D I h;exact wpAny_Return_some (thn (he pins s σ H _ I h) λv s1 ⟨x,H1,I1,r1,q1⟩=>⟨x,σ,H1,I1,r1,q1⟩)
noncomputable def tIfS(c:TT)(t u:TS):TS:=λD σ H=>c σ H λb H1=>if b=true then t D σ H1 else u D σ H1
theorem jX{c:Expr}{a b:List Stmt}{tc:TT}(hc:PT X c tc)(ha:PSs X a t)(hb:PSs X b u):PS X (.If c a b pos) (tIfS tc t u):=by
 intro pins s σ H D I h;refine wpAny_If (thn (hc pins s σ H _ I h) λd s1 ⟨H1,I1,q1⟩=>?_);cases d with
 | true=>exact ha pins s1 σ H1 D I1 q1
 | false=>exact hb pins s1 σ H1 D I1 q1
noncomputable def tNever:TS:=λ_ _ _=>False
theorem ps_never:PS X st tNever:=λ_ _ _ _ _ _ h=>h.elim
theorem uE{sts:List Stmt} :PSs X sts tNever:=λ_ _ _ _ _ _ h=>h.elim
end
noncomputable abbrev TG:=V->St->Hp->(St->Hp->Prop)->Prop
noncomputable abbrev TGs:=List V->St->Hp->(St->Hp->Prop)->Prop
noncomputable def PG(X:Cx)(target:Expr)(t:TG):Prop:=
 ∀(pins:List (Addr×Obj)) (s:Shared) (σ:St) (H:Hp) (v:V) (u:Value) (Q:St->Hp->Prop),Inv X pins σ H s->RelV v u->t v σ H Q->
  wpAny (model X.prog X.w) X.A (assign target X.env u) (λ_ s'=>∃σ' H',Inv X pins σ' H' s'/\Q σ' H') X.xe s
noncomputable def PGs(X:Cx)(ts:List Expr)(t:TGs):Prop:=
 ∀(pins:List (Addr×Obj)) (s:Shared) (σ:St) (H:Hp) (vs:List V) (us:List Value) (Q:St->Hp->Prop),Inv X pins σ H s->Vals vs us->t vs σ H Q->
  wpAny (model X.prog X.w) X.A (assignInOrder ((assignEach ts X.env).map (·.2)) us) (λ_ s'=>∃σ' H',Inv X pins σ' H' s'/\Q σ' H') X.xe s
noncomputable abbrev TSet:=V->V->V->Hp->(Hp->Prop)->Prop
noncomputable def PSet(X:Cx)(t:TSet):Prop:=
 ∀(pins:List (Addr×Obj)) (s:Shared) (σ:St) (H:Hp) (o i v:V) (ov iv u:Value) (Q:Hp->Prop),Inv X pins σ H s->RelV o ov->RelV i iv->RelV v u->t o i v H Q->
  wpAny (model X.prog X.w) X.A (setItem ov iv u) (λ_ s'=>∃H',Inv X pins σ H' s'/\Q H') X.xe s
noncomputable abbrev TIp:=V->V->Hp->VK->Prop
noncomputable def PIp(X:Cx)(op:Operator)(t:TIp):Prop:=
 ∀(pins:List (Addr×Obj)) (s:Shared) (σ:St) (H:Hp) (x y:V) (v u:Value) (Q:VK),Inv X pins σ H s->RelV x v->RelV y u->t x y H Q->
  wpAny (model X.prog X.w) X.A (inplaceOp op v u) (EP X pins σ Q) X.xe s
section
variable{X:Cx}{pos:Pos}
noncomputable def kN(i:Nat):TG:=λv σ H Q=>Q (σ.set i (some v)) H
theorem jH{i:Nat}{x:Str}(hN:X.N.Nodup)(hi:X.N[i]? = some x)(hx:Loc X.env.scope x)(hf:X.fn x=true∨X.env.scope.names.lookup x=some .local:=by first | exact .inl rfl | exact .inr rfl | assumption):PG X (.Name x pos) (kN i):=by
 intro pins s σ H v u Q I r h;exact wpAny_assign_Name (zY I hN hi hx r (λs' I'=>⟨_,H,I',h⟩) hf)
noncomputable def gNil:TGs:=λvs σ H Q=>vs=[]/\Q σ H
noncomputable def vP(t:TG)(u:TGs):TGs:=λvs σ H Q=>∃v r,vs=v::r/\t v σ H fun σ' H'=>u r σ' H' Q
theorem kG:PGs X [] gNil:=by
 intro pins s σ H vs us Q I r h;obtain⟨e,h⟩:=h;subst e;cases r;exact assignInOrder_nil ⟨σ,H,I,h⟩
theorem jM{e:Expr}{es:List Expr}{t:TG}{u:TGs}(h1:PG X e t)(h2:PGs X es u)
  (hs:(assignEach (e::es) X.env).map (·.2)=assign e X.env::(assignEach es X.env).map (·.2):=by rfl):PGs X (e::es) (vP t u):=by
 intro pins s σ H vs us Q I r h;obtain⟨v,vr,e1,h⟩:=h;subst e1;cases r with
 | cons r rr=>
  rw[hs];refine assignInOrder_cons (thn (h1 pins s σ H _ _ _ I r h) λ_ s1 ⟨σ1,H1,I1,q1⟩=>?_);exact h2 pins s1 σ1 H1 _ _ Q I1 rr q1
noncomputable def gTup(K:PySem.W.Frag)(n:Nat)(t:TGs):TG:=λv σ H Q=>∃a xs,v=.ref a/\SqT K H a xs/\xs.length=n/\t xs σ H Q
theorem kU{es:List Expr}{k:Nat}{t:TGs}{n:Nat}(hc:X.calm=true)(h:PGs X es t)
  (hn:(assignEach es X.env).length=n:=by rfl) (hst:(assignEach es X.env).findIdx? (·.1)=none:=by rfl):PG X (.Tuple es k pos) (gTup X.K n t):=by
 intro pins s σ H v u Q I r hw;obtain⟨a,xs,e1,hq,hl,hw⟩:=hw;subst e1;cases r;obtain⟨its,rv,ht,hz⟩:=I.tuple hq;refine assign_Tuple_tuple (I.ok.hd hc) ht (by simp [hn,<-hl,rv.length]) hst λh' hx=>?_;have I1:Inv X pins σ H { s with heap:=h' } :=I.kept (t':=s.toks) λb o e=>hx b o (Nat.ne_of_lt (Heap.lt_size e)) e;exact h pins _ σ H xs _ Q I1 (by simpa using rv) hw
noncomputable def gSub(to ti:TE)(t:TSet):TG:=λv σ H Q=>to σ H λo H1=>ti σ H1 λi H2=>t o i v H2 λH3=>Q σ H3
theorem xT{o i:Expr}{to ti:TE}{t:TSet}(ho:PE X o to)(hi:PE X i ti)(hs:PSet X t)
  (ha:∀v,assign (.Subscript o i pos) X.env v=(do
   let ov<-holding [v] (eval o X.env);let iv<-holding [v,ov] (eval i X.env)
   standAt pos
   holding [v,ov,iv] (setItem ov iv v)
   release [v,ov,iv] []):=by intro _;rfl):PG X (.Subscript o i pos) (gSub to ti t):=by
 intro pins s σ H v u Q I r h;rw[ha];refine wpAny_bind (wpAny_holding (thn (ho pins s σ H _ I h) λov s1 ⟨x,H1,I1,r1,q1⟩=>?_));refine wpAny_bind (wpAny_holding (thn (hi pins s1 σ H1 _ I1 q1) λiv s2 ⟨y,H2,I2,r2,q2⟩=>?_));refine wpAny_bind (wpAny_standAt (wpAny_bind (wpAny_holding (thn (hs pins s2 σ H2 x y v ov iv u _ I2 r1 r2 r q2) λ_ s3 ⟨H3,I3,q3⟩=>?_))));exact wpAny_release ⟨σ,H3,I3,q3⟩
noncomputable def tAsg(te:TE)(g:TG):TS:=λD σ H=>te σ H λx H1=>g x σ H1 D.nx
theorem qC{tg e:Expr}{te:TE}{g:TG}(he:PE X e te)(hg:PG X tg g)(hs:swapsWithSole [tg] e pos.line X.env=pure false:=by rfl)(hw:swappedStores [tg] e X.env=pure none:=by rfl)
  (h1:(assignEach [tg] X.env).map (·.2)=[assign tg X.env]:=by rfl):PS X (.Assign [tg] e pos) (tAsg te g):=by
 intro pins s σ H D I h;refine wpAny_Assign_stores (thn (he pins s σ H _ I h) λv s1 ⟨x,H1,I1,r1,q1⟩=>?_) hs hw;rw[h1];exact thn (hg pins s1 σ H1 x v _ I1 r1 q1) λ_ s2 q=>q
theorem jI{i:Nat}{x:Str}{e:Expr}{te:TE}{pos':Pos}(hN:X.N.Nodup)(hi:X.N[i]? = some x)(hx:Loc X.env.scope x)(he:PE X e te)(hs:swapsWith e (some (.Name x pos')) pos.line X.env=pure false:=by rfl)(hf:X.fn x=true∨X.env.scope.names.lookup x=some .local:=by first | exact .inl rfl | exact .inr rfl | assumption) :
  PS X (.Assign [.Name x pos'] e pos) (tAsg te (kN i)):=by
 intro pins s σ H D I h;refine wpAny_Assign_Name (thn (he pins s σ H _ I h) λv s1 ⟨y,H1,I1,r1,q1⟩=>?_) hs;exact zY I1 hN hi hx r1 (λs2 I2=>⟨_,H1,I2,q1⟩) hf
noncomputable def tPar(i j:Nat)(ta:TA):TS:=λD σ H=>ta σ H λvs H1=>∃v w,vs=[v,w]/\D.nx ((σ.set i (some v)).set j (some w)) H1
theorem ps_par{i j:Nat}{x y:Str}{a b:Expr}{ta:TA}{px py pt:Pos}{kt k2 pt2}(hc:X.calm=true)(hN:X.N.Nodup)(hi:X.N[i]? = some x)(hj:X.N[j]? = some y)(hij:i≠j)
  (hx:X.env.scope.names.lookup x=some .local) (hy:X.env.scope.names.lookup y=some .local) (ha:PA X [a,b] ta)
  (hw:swappedStores [.Tuple [.Name x px,.Name y py] kt pt] (.Tuple [a,b] k2 pt2) X.env=pure (some [x,y]))
  (hs:swapsWithSole [.Tuple [.Name x px,.Name y py] kt pt] (.Tuple [a,b] k2 pt2) pos.line X.env=pure false:=by rfl) :
  PS X (.Assign [.Tuple [.Name x px,.Name y py] kt pt] (.Tuple [a,b] k2 pt2) pos) (tPar i j ta):=by
 intro pins s σ H D I h;rw[exec_Assign_arm];refine wpAny_bind (wpAny_standAt ?_);rw[hs];refine wpAny_bind (wpAny_pure ?_);rw[if_neg (by decide)];refine wpAny_bind (Tuple_ (thn (ha _ pins s σ H _ I h) λus s1 ⟨vs,H1,I1,r1,q1⟩=>?_));obtain⟨v,w,e1,q1⟩:=q1;subst e1;obtain⟨u1,u2,rfl,rv,rw'⟩:∃u1 u2,us=[u1,u2]/\RelV v u1/\RelV w u2:=by
  cases r1 with
  | cons p q=>
   cases q with
   | cons p' q'=>
    cases q';exact⟨_,_,rfl,p,p'⟩
 refine wpAny_newObj_type ?_ (by show 2<=sizeLine;decide);have I2:Inv X pins σ H1 { s1 with heap:=s1.heap.push { cls:=.type "tuple",data:=.seq [u1,u2].toArray } } :=I1.kept (t':=s1.toks) λb o e=>Heap.get?_push_of_some _ e;rw[hw];refine wpAny_bind (wpAny_pure ?_);show wpAny (model X.prog X.w) X.A (do rule "assign.swapped-stores";let items<-unpackItems (.ref s1.heap.objs.size) 2 none;assignInOrder [λv=>bindName X.env y v,λv=>bindName X.env x v] items.reverse;pure Flow.next) _ _ _;refine wpAny_bind (wpAny_rule (wpAny_bind (unpackItems_tuple (items:=#[u1,u2]) (I.ok.hd hc) (IsTup.new s1.heap _) λh' hx'=>?_)));have I3:=I2.kept (h':=h') (t':=s1.toks) λb o e=>hx' b o (Nat.ne_of_lt (Heap.lt_size e)) e;show wpAny _ _ (assignInOrder [λv=>bindName X.env y v,λv=>bindName X.env x v] [u2,u1] >>= λ_=>pure Flow.next) _ _ _;refine wpAny_bind (assignInOrder_cons (wpAny_bindName (zY I3 hN hj (.inl hy) rw' (λs2 I4=>?_) (.inr hy))));refine assignInOrder_cons (wpAny_bindName (zY I4 hN hi (.inl hx) rv (λs3 I5=>assignInOrder_nil (wpAny_pure ?_)) (.inr hx)));rw[List.set_comm _ _ (Ne.symm hij)]at I5;exact⟨_,H1,I5,q1⟩
noncomputable def tAugS(to ti te:TE)(tget:V->V->Hp->VK->Prop)(tip:TIp)(tset:TSet):TS:=λD σ H=>to σ H λo H1=>ti σ H1 λi H2=>tget o i H2 λx H3=>te σ H3 λy H4=>tip x y H4 λz H5=>tset o i z H5 λH6=>D.nx σ H6
noncomputable def PGet(X:Cx)(t:V->V->Hp->VK->Prop):Prop:=
 ∀(pins:List (Addr×Obj)) (s:Shared) (σ:St) (H:Hp) (o i:V) (ov iv:Value) (Q:VK),Inv X pins σ H s->RelV o ov->RelV i iv->t o i H Q->
  wpAny (model X.prog X.w) X.A (getItem ov iv) (EP X pins σ Q) X.xe s
theorem ps_augS{o i e:Expr}{to ti te:TE}{tget:V->V->Hp->VK->Prop}{tip:TIp}{tset:TSet}{op:Operator}{tpos:Pos}(ho:PE X o to)(hi:PE X i ti)(hg:PGet X tget)(he:PE X e te)(hp:PIp X op tip)(hs:PSet X tset)
  (ha:∀ov iv new,augStore i ov iv new=(do holding [new,ov,iv] (setItem ov iv new);release [new,ov,iv] [];pure .next):=by intros;rfl):PS X (.AugAssign (.Subscript o i tpos) op e pos) (tAugS to ti te tget tip tset):=by
 intro pins s σ H D I h;refine wpAny_AugAssign_SubscriptAny (thn (ho pins s σ H _ I h) λov s1 ⟨x1,H1,I1,r1,q1⟩=>?_) ha;refine thn (hi pins s1 σ H1 _ I1 q1) λiv s2 ⟨x2,H2,I2,r2,q2⟩=>?_;refine thn (hg pins s2 σ H2 x1 x2 ov iv _ I2 r1 r2 q2) λold s3 ⟨x3,H3,I3,r3,q3⟩=>?_;refine thn (he pins s3 σ H3 _ I3 q3) λv s4 ⟨x4,H4,I4,r4,q4⟩=>?_;refine thn (hp pins s4 σ H4 x3 x4 old v _ I4 r3 r4 q4) λnew s5 ⟨x5,H5,I5,r5,q5⟩=>?_;exact thn (hs pins s5 σ H5 x1 x2 x5 ov iv new _ I5 r1 r2 r5 q5) λ_ s6 ⟨H6,I6,q6⟩=>⟨σ,H6,I6,q6⟩
noncomputable def ipI(f:Int->Int->Int):TIp:=λx y H Q=>∃i j,x=.int i/\y=.int j/\Q (.int (f i j)) H
theorem ip_add:PIp X .Add (ipI λi j=>i+j):=by
 intro pins s σ H x y v u Q I r1 r2 h;obtain⟨i,j,e1,e2,q⟩:=h;subst e1;subst e2;obtain⟨t,rfl⟩:=r1;obtain⟨t',rfl⟩:=r2;exact iadd_int ⟨.int _,H,I.tok _,⟨_,rfl⟩,q⟩
end
section
variable{X:Cx}{pos:Pos}
noncomputable def tWhile(c:TT)(tb:TS):TS:=λD σ H=>∃W:Nat->St->Hp->Prop,(∃m,W m σ H)/\∀m σ H,W m σ H->
 c σ H λb H1=>if b=true then ∃N:St->Hp->Prop,(∀σ' H',N σ' H'->∃m',m'<m/\W m' σ' H')/\tb { D with nx:=N,ct:=N,bk:=D.nx } σ H1 else D.nx σ H1
theorem ps_while{c:Expr}{body:List Stmt}{tc:TT}{tb:TS}(hp:PassesOwn (model X.prog X.w) X.A X.env X.xe)(hc:PT X c tc)(hb:PSs X body tb):PS X (.While c body [] pos) (tWhile tc tb):=by
 intro pins s σ H D I h;obtain⟨W,⟨m0,w0⟩,turn⟩:=h;refine wpAny_While (codeAny_whileLoop (λn s'=>∃σ' H',Inv X pins σ' H' s'/\W n σ' H') ?_ m0 ⟨σ,H,I,w0⟩);rintro n s1 ⟨σ1,H1,I1,w1⟩;refine wpAny_passesOwn hp (thn (hc pins s1 σ1 H1 _ I1 (turn n σ1 H1 w1)) λb s2 ⟨H2,I2,q2⟩=>?_);cases b with
 | true=>
  obtain⟨N,hN,q2⟩:=q2;rw[if_pos rfl];refine wpAny_passesOwn hp (thn (hb pins s2 σ1 H2 _ I2 q2) λf s3 q3=>?_);cases f with
  | next=>
   obtain⟨σ3,H3,I3,n3⟩:=q3;obtain⟨m',hm,w3⟩:=hN σ3 H3 n3;exact⟨m',hm,σ3,H3,I3,w3⟩
  | cont=>
   obtain⟨σ3,H3,I3,n3⟩:=q3;obtain⟨m',hm,w3⟩:=hN σ3 H3 n3;exact⟨m',hm,σ3,H3,I3,w3⟩
  | brk=>exact q3
  | ret v=>exact q3
 | false=>
  rw[if_neg Bool.false_ne_true];exact wpAny_execs_nil ⟨σ1,H2,I2,q2⟩
end
structure It where
 go:Nat->Hp->Prop
 yld:Nat->Hp->V->Hp->Prop
 stop:Nat->Hp->Prop
noncomputable def FpOk(X:Cx)(pins:List (Addr×Obj))(H:Hp)(b:Addr):Prop:=
 H b=none/\b≠X.env.locals/\b∉X.fs/\(b∈X.ex∨X.s₀.heap.objs.size<=b)/\(∀x c,X.env.cells.lookup x=some c->c≠b)/\∀p∈X.pn++pins,p.1≠b
theorem Inv.fpOk{X:Cx}{pins:List (Addr×Obj)}{σ:St}{H H':Hp}{s:Shared}{b:Addr}(I:Inv X pins σ H s)(hb:s.heap.objs.size<=b)(hn:H' b=none):FpOk X pins H' b:=by
 refine⟨hn,Nat.ne_of_gt (Nat.lt_of_lt_of_le I.lt hb),I.nofs hb,.inr (Nat.le_trans I.sz hb),λx c e z=>?_,λp hp z=>?_⟩
 ·obtain⟨v,q⟩:=I.cell x c e;exact absurd (Nat.lt_of_lt_of_le q.lt (by rw[z];exact hb)) (Nat.lt_irrefl _)
 ·exact absurd (Nat.lt_of_lt_of_le (Heap.lt_size (I.pin p hp).1) (by rw[z];exact hb)) (Nat.lt_irrefl _)
structure Turn(P:Program)(w:World)(K:PySem.W.Frag)(tg:Expr)(J:It)(fp:List Addr)(it:Addr)(tn:Nat->Heap->Prop):Prop where
 mem:it∈fp
 obj:∀i h,tn i h->∀b∈fp,∃o,h.get? b=some o/\∀v,o.data≠.cell v
 keep:∀i h h',tn i h->(∀b∈fp,∀o,h.get? b=some o->h'.get? b=some o)->tn i h'
 item:∀(X:Cx),X.prog=P->X.w=w->X.K=K->X.calm=true->∀(i:Nat) (pins:List (Addr×Obj)) (s:Shared) (σ:St) (H:Hp) (E:Value->Shared->Prop),Inv X pins σ H s->(∀b∈fp,FpOk X pins H b)->tn i s.heap->J.go i H->
  wpAny (model P w) X.A (pyNext (.ref it)) (λr s1=>∃u,r=some u/\
   wpAny (model P w) X.A (letOwnedTupleGo tg (.ref it) u) (λ_ s2=>∃x H',Inv X pins σ H' s2/\RelV x u/\J.yld i H x H'/\tn (i+1) s2.heap/\∀b∈fp,H' b=none) E s1) E s
 done:∀(X:Cx),X.prog=P->X.w=w->X.K=K->X.calm=true->∀(i:Nat) (pins:List (Addr×Obj)) (s:Shared) (σ:St) (H:Hp) (E:Value->Shared->Prop),Inv X pins σ H s->(∀b∈fp,FpOk X pins H b)->tn i s.heap->J.stop i H->
  wpAny (model P w) X.A (pyNext (.ref it)) (λr s1=>r=none/\Inv X pins σ H s1) E s
 self:∀(A:Around) (i:Nat) (s:Shared) (Q:Value->Shared->Prop) (E:Value->Shared->Prop),tn i s.heap->Q (.ref it) s->wpAny (model P w) A (pyIter (.ref it)) Q E s
noncomputable abbrev TI:=St->Hp->(It->Hp->Prop)->Prop
noncomputable def PIE(X:Cx)(pins:List (Addr×Obj))(σ:St)(tg:Expr)(R:It->Hp->Prop)(itv:Value)(s2:Shared):Prop:=
 ∃(it:Addr) (fp:List Addr) (tn:Nat->Heap->Prop) (J:It) (H':Hp),itv=.ref it/\Inv X pins σ H' s2/\Turn X.prog X.w X.K tg J fp it tn/\tn 0 s2.heap/\(∀b∈fp,FpOk X pins H' b)/\R J H'
noncomputable def PI(X:Cx)(tg iter:Expr)(wi:TI):Prop:=
 ∀(pins:List (Addr×Obj)) (s:Shared) (σ:St) (H:Hp) (R:It->Hp->Prop),Inv X pins σ H s->wi σ H R->
  wpAny (model X.prog X.w) X.A (eval iter X.env) (λv s1=>wpAny (model X.prog X.w) X.A (pyIter v) (PIE X pins σ tg R) X.xe s1) X.xe s
theorem go_of{M:Model}{A:Around}{E:Value->Shared->Prop}{s:Shared}{tg:Expr}{it:Addr}{u:Value}{o:Obj}{n:String}{vs:Array Value}{Q:Unit->Shared->Prop}(ho:s.heap.get? it=some o)(hc:o.cls=.type n)(hd:o.data=.fields vs)
  (hn:["enumerate","zip","dict_itemiterator","dict_reverseitemiterator","odict_iterator","itertools.zip_longest","itertools.pairwise"].contains n=false) (hQ:Q () s):wpAny M A (letOwnedTupleGo tg (.ref it) u) Q E s:=by
 unfold letOwnedTupleGo;cases tg<;>first
  | exact wpAny_pure hQ
  | (cases u<;>first
    | exact wpAny_pure hQ
    | (refine wpAny_bind (wpAny_load ho ?_);rw[hc,hd];show wpAny M A (if (["enumerate","zip","dict_itemiterator","dict_reverseitemiterator","odict_iterator","itertools.zip_longest","itertools.pairwise"].contains n&&vs[0]? ==some (rawInt _))=true then _ else _) Q E s;rw[if_neg (by intro h;rw[hn,Bool.false_and]at h;cases h)];exact wpAny_pure hQ))
noncomputable def Itl(K:PySem.W.Frag)(a:Addr):It:=
 ⟨λi H=>∃xs x,SqL K H a xs/\xs[i]? = some x,λi H x H'=>H'=H/\∀xs,SqL K H a xs->xs[i]? = some x,λi H=>∃xs,SqL K H a xs/\xs.length<=i⟩
noncomputable def Itt(K:PySem.W.Frag)(a:Addr):It:=
 ⟨λi H=>∃xs x,SqT K H a xs/\xs[i]? = some x,λi H x H'=>H'=H/\∀xs,SqT K H a xs->xs[i]? = some x,λi H=>∃xs,SqT K H a xs/\xs.length<=i⟩
noncomputable def Itr(lo:Int)(n:Nat):It:=⟨λi _=>i<n,λi H x H'=>H'=H/\x=.int (lo+i),λi _=>n<=i⟩
theorem turn_list{P:Program}{w:World}{K:PySem.W.Frag}{tg:Expr}(a it:Addr):Turn P w K tg (Itl K a) [it] it (λi h=>h.IsListIter it a i) where
 mem:=by simp
 obj:=λi h st b hb=>by
  have e:b=it:=by simpa using hb
  subst e;obtain⟨o,e,c,d⟩:=st;exact⟨o,e,λv z=>by rw[d]at z;cases z⟩
 keep:=λi h h' st k=>st.at λo e=>k it (by simp) o e
 item:=by
  intro X hP hw hK hc i pins s σ H E I hf st hg;subst hP hw hK;obtain⟨xs,x,hq,hx⟩:=hg;obtain⟨its,rv,p,hz⟩:=I.list hq;obtain⟨u,hu,ru⟩:=rv.get hx;obtain⟨f0,f1,f2,f3,f4,f5⟩:=hf it (by simp);refine wpAny_pyNext_list_item st p.isList (x:=u) (by simpa using hu) λh' st' sb=>?_;have I1:Inv X pins σ H { s with heap:=h' } :=I.turned (t':=s.toks) (λb o hb e=>(sb.2 b hb).trans e) f0 f1 f3 f4 f5;obtain⟨o,e,c,d⟩:=id st';exact⟨u,rfl,go_of (s:={ s with heap:=h' }) e c d (by decide) ⟨x,H,I1,ru,⟨rfl,λys hy=>by rw[I.list_inj hy hq];exact hx⟩,st',λb hb=>(hf b hb).1⟩⟩
 done:=by
  intro X hP hw hK hc i pins s σ H E I hf st hg;subst hP hw hK;obtain⟨xs,hq,hx⟩:=hg;obtain⟨its,rv,p,hz⟩:=I.list hq;obtain⟨f0,f1,f2,f3,f4,f5⟩:=hf it (by simp);have hl:=rv.length;exact wpAny_pyNext_list_end (I.ok.hd hc) st p.isList (by simp;omega) λh' eb=>⟨rfl,I.turned (t':=s.toks) (λb o hb e=>eb b o hb e) f0 f1 f3 f4 f5⟩
 self:=λ_ _ _ _ _ st h=>wpAny_pyIter_listiter st h
theorem turn_tuple{P:Program}{w:World}{K:PySem.W.Frag}{tg:Expr}(a it:Addr):Turn P w K tg (Itt K a) [it] it (λi h=>h.IsTupleIter it a i) where
 mem:=by simp
 obj:=λi h st b hb=>by
  have e:b=it:=by simpa using hb
  subst e;obtain⟨o,e,c,d⟩:=st;exact⟨o,e,λv z=>by rw[d]at z;cases z⟩
 keep:=λi h h' st k=>st.at λo e=>k it (by simp) o e
 item:=by
  intro X hP hw hK hc i pins s σ H E I hf st hg;subst hP hw hK;obtain⟨xs,x,hq,hx⟩:=hg;obtain⟨its,rv,p,hz⟩:=I.tuple hq;obtain⟨u,hu,ru⟩:=rv.get hx;obtain⟨f0,f1,f2,f3,f4,f5⟩:=hf it (by simp);refine wpAny_pyNext_tuple_item st (show s.heap.IsTuple a its.toArray from p) (x:=u) (by simpa using hu) λh' st' sb=>?_;have I1:Inv X pins σ H { s with heap:=h' } :=I.turned (t':=s.toks) (λb o hb e=>(sb.2 b hb).trans e) f0 f1 f3 f4 f5;obtain⟨o,e,c,d⟩:=id st';exact⟨u,rfl,go_of (s:={ s with heap:=h' }) e c d (by decide) ⟨x,H,I1,ru,⟨rfl,λys hy=>by rw[I.tuple_inj hy hq];exact hx⟩,st',λb hb=>(hf b hb).1⟩⟩
 done:=by
  intro X hP hw hK hc i pins s σ H E I hf st hg;subst hP hw hK;obtain⟨xs,hq,hx⟩:=hg;obtain⟨its,rv,p,hz⟩:=I.tuple hq;obtain⟨f0,f1,f2,f3,f4,f5⟩:=hf it (by simp);have hl:=rv.length;exact wpAny_pyNext_tuple_end (I.ok.hd hc) st (show s.heap.IsTuple a its.toArray from p) (by simp;omega) λh' eb=>⟨rfl,I.turned (t':=s.toks) (λb o hb e=>eb b o hb e) f0 f1 f3 f4 f5⟩
 self:=λ_ _ _ _ _ st h=>wpAny_pyIter_tupleiter st h
theorem turn_range{P:Program}{w:World}{K:PySem.W.Frag}{tg:Expr}(it:Addr)(lo:Int)(n:Nat):Turn P w K tg (Itr lo n) [it] it (λi h=>IsRangeIter h it (lo+(i:Nat)*1) ((n:Int)-(i:Nat)) 1) where
 mem:=by simp
 obj:=λi h st b hb=>by
  have e:b=it:=by simpa using hb
  subst e;exact⟨_,st,λv z=>by
   have z':Data.fields _=Data.cell v:=z;cases z'⟩
 keep:=λi h h' st k=>k it (by simp) _ st
 item:=by
  intro X hP hw hK hc i pins s σ H E I hf st hg;subst hP hw hK;obtain⟨f0,f1,f2,f3,f4,f5⟩:=hf it (by simp);have W:=Walks.range (prog:=X.prog) (w:=X.w) (I.ok.hd hc) it lo 1 n;refine W.item i s _ _ hg st λv h' tk hv st' kk=>?_;obtain⟨t,rfl⟩:=hv;have I1:Inv X pins σ H { s with heap:=h',toks:=tk } :=I.turned (λb o hb e=>kk b o (by simpa using hb) e) f0 f1 f3 f4 f5;refine⟨_,rfl,go_of (s:={ s with heap:=h',toks:=tk }) (n:="range_iterator") st' rfl rfl (by decide) ⟨.int (lo+i),H,I1,⟨t, ?_⟩,⟨rfl,rfl⟩,st',λb hb=>(hf b hb).1⟩⟩;rw[Int.mul_one]
 done:=by
  intro X hP hw hK hc i pins s σ H E I hf st hg;subst hP hw hK;obtain⟨f0,f1,f2,f3,f4,f5⟩:=hf it (by simp);exact wpAny_pyNext_range_end (I.ok.hd hc) st (by have:n<=i:=hg;omega) λh' eb=>⟨rfl,I.turned (t':=s.toks) (λb o hb e=>eb b o hb e) f0 f1 f3 f4 f5⟩
 self:=λ_ _ _ _ _ st h=>wpAny_pyIter_rangeiter st h
end L2
namespace L2
open PySem PySem.Spec PyProof.Rows
section
variable{X:Cx}{tg:Expr}
noncomputable def iList(K:PySem.W.Frag)(tl:TE):TI:=fun σ H R=>tl σ H λx H1=>∃a,x=.ref a/\(∃xs,SqL K H1 a xs)/\R (Itl K a) H1
noncomputable def iTup(K:PySem.W.Frag)(tl:TE):TI:=fun σ H R=>tl σ H λx H1=>∃a,x=.ref a/\(∃xs,SqT K H1 a xs)/\R (Itt K a) H1
theorem vC{l:Expr}{tl:TE}(hl:PE X l tl):PI X tg l (iList X.K tl):=by
 intro pins s σ H R I h;refine thn (hl pins s σ H _ I h) λv s1 ⟨x,H1,I1,r1,q1⟩=>?_;obtain⟨a,e,⟨xs,hq⟩,q⟩:=q1;subst e;cases r1;obtain⟨its,rv,p,hz⟩:=I1.list hq;refine wpAny_pyIter_list p.isList ?_;refine⟨s1.heap.objs.size,[s1.heap.objs.size],_,_,H1,rfl,I1.kept (t':=s1.toks) λb o e=>Heap.get?_push_of_some _ e,turn_list a _,⟨_,Heap.get?_push_size _ rfl,rfl,rfl⟩,λb hb=>?_,q⟩;have e:b=s1.heap.objs.size:=by simpa using hb
 subst e;exact I1.fpOk (Nat.le_refl _) (I1.hok.fresh (Nat.le_refl _))
theorem pi_tup{l:Expr}{tl:TE}(hl:PE X l tl):PI X tg l (iTup X.K tl):=by
 intro pins s σ H R I h;refine thn (hl pins s σ H _ I h) λv s1 ⟨x,H1,I1,r1,q1⟩=>?_;obtain⟨a,e,⟨xs,hq⟩,q⟩:=q1;subst e;cases r1;obtain⟨its,rv,p,hz⟩:=I1.tuple hq;refine wpAny_pyIter_tuple (show s1.heap.IsTuple a its.toArray from p) ?_;refine⟨s1.heap.objs.size,[s1.heap.objs.size],_,_,H1,rfl,I1.kept (t':=s1.toks) λb o e=>Heap.get?_push_of_some _ e,turn_tuple a _,⟨_,Heap.get?_push_size _ rfl,rfl,rfl⟩,λb hb=>?_,q⟩;have e:b=s1.heap.objs.size:=by simpa using hb
 subst e;exact I1.fpOk (Nat.le_refl _) (I1.hok.fresh (Nat.le_refl _))
theorem range_it{pins:List (Addr×Obj)}{σ:St}{H:Hp}{s:Shared}{R:It->Hp->Prop}{E:Value->Shared->Prop}{lo hi:Int}{t u v:Tok}{tk:Nat}(I:Inv X pins σ H s)(h1: -(2^62)<=lo)(h2:lo<2^62)(h3: -(2^62)<=hi)(h4:hi<2^62)
  (q:R (Itr lo (hi-lo).toNat) H):wpAny (model X.prog X.w) X.A (pyIter (.ref s.heap.objs.size)) (PIE X pins σ tg R) E { s with heap:=s.heap.push { cls:=.type "range",data:=.fields #[.int lo t,.int hi u,.int 1 v] },toks:=tk } :=by
 refine wpAny_pyIter_range (IsRange.new ..) (small_one h1 h2 h3 h4) ?_;have I1:Inv X pins σ H { s with heap:=s.heap.push { cls:=.type "range",data:=.fields #[.int lo t,.int hi u,.int 1 v] },toks:=tk } :=I.kept λb o e=>Heap.get?_push_of_some _ e;refine⟨(s.heap.push { cls:=.type "range",data:=.fields #[.int lo t,.int hi u,.int 1 v] }).objs.size,[(s.heap.push { cls:=.type "range",data:=.fields #[.int lo t,.int hi u,.int 1 v] }).objs.size],_,_,H,rfl,
  I1.kept (t':=tk) λb o e=>Heap.get?_push_of_some _ e,turn_range _ lo (hi-lo).toNat, ?_,λb hb=>?_,q⟩
 ·have e1:lo+((0:Nat):Int)*1=lo:=by simp
  have e2:(((hi-lo).toNat:Nat):Int)-((0:Nat):Int)=Builtin.Range.rangeSize lo hi 1:=by rw[rangeSize_one];split<;>omega
  show IsRangeIter _ _ (lo+((0:Nat):Int)*1) ((((hi-lo).toNat:Nat):Int)-((0:Nat):Int)) 1;rw[e1,e2];exact Heap.get?_push_size _ rfl
 ·have e:b=(s.heap.push { cls:=.type "range",data:=.fields #[.int lo t,.int hi u,.int 1 v] }).objs.size:=by simpa using hb
  subst e;exact I1.fpOk (Nat.le_refl _) (I1.hok.fresh (Nat.le_refl _))
noncomputable def iRng1(ta:TA):TI:=fun σ H R=>ta σ H λvs H1=>∃j:Int,vs=[.int j]/\-(2^62)<=j/\j<2^62/\R (Itr 0 j.toNat) H1
noncomputable def iRng2(ta:TA):TI:=fun σ H R=>ta σ H λvs H1=>∃i j:Int,vs=[.int i,.int j]/\(-(2^62)<=i/\i<2^62/\-(2^62)<=j/\j<2^62)/\R (Itr i (j-i).toNat) H1
theorem qD{a:Expr}{ta:TA}{p pos:Pos}(hg:Gl X "range")(hm:X.mg "range" = none)(ha:PA X [a] ta)(hs:starEach [a] X.env=[(false,eval a X.env)]:=by rfl):PI X tg (.Call (.Name "range" p) [a] [] pos) (iRng1 ta):=by
 intro pins s σ H R I h;refine Call_ (xA I hg hm boot_range (PyProof.Rows.callWith_type1 (thn (ha pos pins s σ H _ I h) λus s1 ⟨vs,H1,I1,r1,q1⟩=>?_) hs rfl));obtain⟨j,e,q1,q2,q⟩:=q1;subst e;cases r1 with
 | cons r rr=>
  cases rr;obtain⟨t,rfl⟩:=r;exact call_range_1 (range_it I1 (by omega) (by omega) q1 q2 (by simpa using q))
theorem pi_range2{a b:Expr}{ta:TA}{p pos:Pos}(hg:Gl X "range")(hm:X.mg "range" = none)(ha:PA X [a,b] ta)(hs:starEach [a,b] X.env=[(false,eval a X.env),(false,eval b X.env)]:=by rfl)(hs2:starEach [b] X.env=[(false,eval b X.env)]:=by rfl) :
  PI X tg (.Call (.Name "range" p) [a,b] [] pos) (iRng2 ta):=by
 intro pins s σ H R I h;refine Call_ (xA I hg hm boot_range (PyProof.Rows.callWith_type1 (thn (ha pos pins s σ H _ I h) λus s1 ⟨vs,H1,I1,r1,q1⟩=>?_) (by rw[hs,hs2]) (by rw[hs2];rfl)));obtain⟨i,j,e,⟨q1,q2,q3,q4⟩,q⟩:=q1;subst e;cases r1 with
 | cons r rr=>
  cases rr with
  | cons r' rr=>
   cases rr;obtain⟨t,rfl⟩:=r;obtain⟨t',rfl⟩:=r';exact call_range_2 (range_it I1 q1 q2 q3 q4 q)
noncomputable def tFor(wi:TI)(g:TG)(tb:TS):TS:=λD σ H=>wi σ H λJ H1=>∃W:Nat->Nat->St->Hp->Prop,(∃m,W 0 m σ H1)/\∀i m σ H,W i m σ H->
 (J.stop i H/\D.nx σ H)∨(J.go i H/\∃N:St->Hp->Prop,(∀σ' H',N σ' H'->∃m',m'<m/\W (i+1) m' σ' H')/\∀x H',J.yld i H x H'->g x σ H' fun σ2 H2=>tb { D with nx:=N,ct:=N,bk:=D.nx } σ2 H2)
noncomputable def pinsAt(fp:List Addr)(h:Heap):List (Addr×Obj):=fp.filterMap λb=>(h.get? b).map λo=>(b,o)
theorem qW{fp:List Addr}{h:Heap}{b:Addr}{o:Obj}(hb:b∈fp)(e:h.get? b=some o):(b,o)∈pinsAt fp h:=List.mem_filterMap.mpr ⟨b,hb,by rw[e];rfl⟩
theorem of_pinsAt{fp:List Addr}{h:Heap}{p:Addr×Obj}(hp:p∈pinsAt fp h):p.1∈fp/\h.get? p.1=some p.2:=by
 obtain⟨b,hb,e⟩:=List.mem_filterMap.mp hp;cases q:h.get? b with
 | none=>rw[q]at e;cases e
 | some o=>
  rw[q]at e;have e':(b,o)=p:=Option.some.inj e;subst e';exact⟨hb,q⟩
theorem Inv.pinned{pins:List (Addr×Obj)}{σ:St}{H:Hp}{s:Shared}{fp:List Addr}(I:Inv X pins σ H s)(hf:∀b∈fp,FpOk X pins H b)(ho:∀b∈fp,∃o,s.heap.get? b=some o/\∀v,o.data≠.cell v):Inv X (pins++pinsAt fp s.heap) σ H s:=
 I.pins_of λp hp=>(List.mem_append.mp hp).elim (λz=>I.pin p (List.mem_append_right _ z)) λz=>by
  obtain⟨hb,e⟩:=of_pinsAt z;obtain⟨f0,f1,f2,_⟩:=hf p.1 hb;obtain⟨o,e',d⟩:=ho p.1 hb;rw[e]at e';cases e';exact⟨e,f0,f1,f2,d⟩
theorem Inv.unpinned{pins pl:List (Addr×Obj)}{σ:St}{H:Hp}{s:Shared}(I:Inv X (pins++pl) σ H s):Inv X pins σ H s:=I.pins_of λp hp=>I.pin p (List.mem_append_right _ (List.mem_append_left _ hp))
theorem kW{iter:Expr}{body:List Stmt}{wi:TI}{g:TG}{tb:TS}{pos:Pos}(hp:PassesOwn (model X.prog X.w) X.A X.env X.xe)(hc:X.calm=true)(hi:PI X tg iter wi)(hg:PG X tg g)(hb:PSs X body tb)
  (hs:∀x,foldedSetIterable iter X.env x=pure x:=by intro _;rfl):PS X (.For tg iter body [] pos) (tFor wi g tb):=by
 intro pins s σ H D I h;refine wpAny_For (thn (hi pins s σ H _ I h) λv s1 h1=>thn h1 λitv s2 h2=>?_) hs;obtain⟨it,fp,tn,J,H2,e,I2,T,st2,f2,W,⟨m0,w0⟩,turn⟩:=h2;subst e;have stat:∀{H':Hp},(∀b∈fp,H' b=none)->∀b∈fp,FpOk X pins H' b:=λhn b hb=>⟨hn b hb,(f2 b hb).2⟩;refine codeAny_forLoop_any (λn s'=>∃i σ' H',Inv X pins σ' H' s'/\tn i s'.heap/\(∀b∈fp,H' b=none)/\W i n σ' H') ?_ m0 ⟨0,σ,H2,I2,st2,λb hb=>(f2 b hb).1,w0⟩;rintro n s3 ⟨i,σ3,H3,I3,st3,fr3,w3⟩;rcases turn i n σ3 H3 w3 with⟨stop,qn⟩ | ⟨go,N,hN,step⟩
 ·refine wpAny_passesOwn hp (thn (T.done X rfl rfl rfl hc i pins s3 σ3 H3 X.xe I3 (stat fr3) st3 stop) λr s4 ⟨hr,I4⟩=>?_);subst hr;exact wpAny_execs_nil ⟨σ3,H3,I4,qn⟩
 ·refine wpAny_passesOwn hp (thn (T.item X rfl rfl rfl hc i pins s3 σ3 H3 X.xe I3 (stat fr3) st3 go) λr s4 ⟨u,hr,h4⟩=>?_);subst hr;refine wpAny_passesOwn hp (thn h4 λ_ s5 ⟨x,H5,I5,r5,y5,st5,fr5⟩=>?_);have I5':=I5.pinned (stat fr5) (T.obj _ _ st5);refine wpAny_passesOwn hp (thn (hg _ s5 σ3 H5 x u _ I5' r5 (step x H5 y5)) λ_ s6 ⟨σ6,H6,I6,q6⟩=>?_);refine wpAny_passesOwn hp (thn (hb _ s6 σ6 H6 _ I6 q6) λf s7 q7=>?_);have again:∀{σ7:St} {H7:Hp},Inv X (pins++pinsAt fp s5.heap) σ7 H7 s7->N σ7 H7->∃m,m<n/\∃i σ' H',Inv X pins σ' H' s7/\tn i s7.heap/\(∀b∈fp,H' b=none)/\W i m σ' H':=fun {σ7 H7} I7 n7=>by
   obtain⟨m',hm,w7⟩:=hN σ7 H7 n7;refine⟨m',hm,i+1,σ7,H7,I7.unpinned,T.keep _ _ _ st5 λb hb o e=>(I7.pin (b,o) (List.mem_append_right _ (List.mem_append_right _ (qW hb e)))).1,λb hb=>?_,w7⟩;obtain⟨o,e,d⟩:=T.obj _ _ st5 b hb;exact(I7.pin (b,o) (List.mem_append_right _ (List.mem_append_right _ (qW hb e)))).2.1
  cases f with
  | next=>obtain⟨σ7,H7,I7,n7⟩:=q7;exact again I7 n7
  | cont=>obtain⟨σ7,H7,I7,n7⟩:=q7;exact again I7 n7
  | brk=>obtain⟨σ7,H7,I7,q7⟩:=q7;exact⟨σ7,H7,I7.unpinned,q7⟩
  | ret v=>obtain⟨x7,σ7,H7,I7,r7,q7⟩:=q7;exact⟨x7,σ7,H7,I7.unpinned,r7,q7⟩
end
theorem wW{K:PySem.W.Frag}{a:Addr}{xs:List V}{g:TG}{tb:TS}{D:Ends}{σ:St}{H:Hp}(Pv:Nat->St->Hp->Prop)(h0:Pv 0 σ H)(hl:∀i σ H,i<=xs.length->Pv i σ H->SqL K H a xs)
  (hs:∀i x σ H,xs[i]? = some x->Pv i σ H->g x σ H fun σ2 H2=>tb { D with nx:=Pv (i+1),ct:=Pv (i+1),bk:=D.nx } σ2 H2) (hd:∀σ H,Pv xs.length σ H->D.nx σ H) :
  ∃W:Nat->Nat->St->Hp->Prop,(∃m,W 0 m σ H)/\∀i m σ H,W i m σ H->
   ((Itl K a).stop i H/\D.nx σ H)∨((Itl K a).go i H/\∃N:St->Hp->Prop,(∀σ' H',N σ' H'->∃m',m'<m/\W (i+1) m' σ' H')/\∀x H',(Itl K a).yld i H x H'->g x σ H' fun σ2 H2=>tb { D with nx:=N,ct:=N,bk:=D.nx } σ2 H2):=by
 refine⟨λi m σ H=>m=xs.length-i/\i<=xs.length/\Pv i σ H,⟨xs.length,by simp,Nat.zero_le _,h0⟩, ?_⟩;rintro i m σ H ⟨rfl,hi,p⟩;have q:=hl i σ H hi p;by_cases hlt:i<xs.length
 ·refine .inr ⟨⟨xs,xs[i],q,by simp [hlt]⟩,Pv (i+1),fun σ' H' p'=>⟨xs.length-(i+1),by omega,rfl,hlt,p'⟩,λx H' y=>?_⟩;obtain⟨e,y⟩:=y;subst e;exact hs i x σ _ (y xs q) p
 ·have e:i=xs.length:=by omega
  subst e;exact .inl ⟨⟨xs,q,Nat.le_refl _⟩,hd σ H p⟩
theorem for_tup{K:PySem.W.Frag}{a:Addr}{xs:List V}{g:TG}{tb:TS}{D:Ends}{σ:St}{H:Hp}(Pv:Nat->St->Hp->Prop)(h0:Pv 0 σ H)(hl:∀i σ H,i<=xs.length->Pv i σ H->SqT K H a xs)
  (hs:∀i x σ H,xs[i]? = some x->Pv i σ H->g x σ H fun σ2 H2=>tb { D with nx:=Pv (i+1),ct:=Pv (i+1),bk:=D.nx } σ2 H2) (hd:∀σ H,Pv xs.length σ H->D.nx σ H) :
  ∃W:Nat->Nat->St->Hp->Prop,(∃m,W 0 m σ H)/\∀i m σ H,W i m σ H->
   ((Itt K a).stop i H/\D.nx σ H)∨((Itt K a).go i H/\∃N:St->Hp->Prop,(∀σ' H',N σ' H'->∃m',m'<m/\W (i+1) m' σ' H')/\∀x H',(Itt K a).yld i H x H'->g x σ H' fun σ2 H2=>tb { D with nx:=N,ct:=N,bk:=D.nx } σ2 H2):=by
 refine⟨λi m σ H=>m=xs.length-i/\i<=xs.length/\Pv i σ H,⟨xs.length,by simp,Nat.zero_le _,h0⟩, ?_⟩;rintro i m σ H ⟨rfl,hi,p⟩;have q:=hl i σ H hi p;by_cases hlt:i<xs.length
 ·refine .inr ⟨⟨xs,xs[i],q,by simp [hlt]⟩,Pv (i+1),fun σ' H' p'=>⟨xs.length-(i+1),by omega,rfl,hlt,p'⟩,λx H' y=>?_⟩;obtain⟨e,y⟩:=y;subst e;exact hs i x σ _ (y xs q) p
 ·have e:i=xs.length:=by omega
  subst e;exact .inl ⟨⟨xs,q,Nat.le_refl _⟩,hd σ H p⟩
theorem qE{lo:Int}{n:Nat}{g:TG}{tb:TS}{D:Ends}{σ:St}{H:Hp}(Pv:Nat->St->Hp->Prop)(h0:Pv 0 σ H)
  (hs:∀i σ H,i<n->Pv i σ H->g (.int (lo+i)) σ H fun σ2 H2=>tb { D with nx:=Pv (i+1),ct:=Pv (i+1),bk:=D.nx } σ2 H2) (hd:∀σ H,Pv n σ H->D.nx σ H) :
  ∃W:Nat->Nat->St->Hp->Prop,(∃m,W 0 m σ H)/\∀i m σ H,W i m σ H->
   ((Itr lo n).stop i H/\D.nx σ H)∨((Itr lo n).go i H/\∃N:St->Hp->Prop,(∀σ' H',N σ' H'->∃m',m'<m/\W (i+1) m' σ' H')/\∀x H',(Itr lo n).yld i H x H'->g x σ H' fun σ2 H2=>tb { D with nx:=N,ct:=N,bk:=D.nx } σ2 H2):=by
 refine⟨λi m σ H=>m=n-i/\i<=n/\Pv i σ H,⟨n,by simp,Nat.zero_le _,h0⟩, ?_⟩;rintro i m σ H ⟨rfl,hi,p⟩;by_cases hlt:i<n
 ·refine .inr ⟨hlt,Pv (i+1),fun σ' H' p'=>⟨n-(i+1),by omega,rfl,hlt,p'⟩,λx H' y=>?_⟩;obtain⟨e,y⟩:=y;subst e y;exact hs i σ _ hlt p
 ·have e:i=n:=by omega
  subst e;exact .inl ⟨Nat.le_refl _,hd σ H p⟩
theorem while_by{c:TT}{tb:TS}{D:Ends}{σ:St}{H:Hp}(Pv:St->Hp->Prop)(μ:St->Hp->Nat)(h0:Pv σ H)
  (hs:∀σ H,Pv σ H->c σ H λb H1=>if b=true then tb { D with nx:=fun σ' H'=>Pv σ' H'/\μ σ' H'<μ σ H,ct:=fun σ' H'=>Pv σ' H'/\μ σ' H'<μ σ H,bk:=D.nx } σ H1 else D.nx σ H1)
  (mono:∀σ H Q Q',(∀b H1,Q b H1->Q' b H1)->c σ H Q->c σ H Q'):tWhile c tb D σ H:=by
 refine⟨λm σ H=>m=μ σ H/\Pv σ H,⟨_,rfl,h0⟩, ?_⟩;rintro m σ H ⟨rfl,p⟩;refine mono σ H _ _ (λb H1 q=>?_) (hs σ H p);cases b with
 | true=>exact⟨_,fun σ' H' ⟨p',l⟩=>⟨_,l,rfl,p'⟩,q⟩
 | false=>exact q
end L2
namespace L2
open PySem PySem.Spec PyProof.Rows
noncomputable abbrev R2:=V->V->Hp->VK->Prop
noncomputable def OpR(X:Cx)(f:Value->Value->Sem Value)(r:R2):Prop:=
 ∀(pins:List (Addr×Obj)) (s:Shared) (σ:St) (H:Hp) (x y:V) (v u:Value) (Q:VK),Inv X pins σ H s->RelV x v->RelV y u->r x y H Q->
  wpAny (model X.prog X.w) X.A (f v u) (EP X pins σ Q) X.xe s
noncomputable def UnR(X:Cx)(f:Value->Sem Value)(r:V->Hp->VK->Prop):Prop:=
 ∀(pins:List (Addr×Obj)) (s:Shared) (σ:St) (H:Hp) (x:V) (v:Value) (Q:VK),Inv X pins σ H s->RelV x v->r x H Q->
  wpAny (model X.prog X.w) X.A (f v) (EP X pins σ Q) X.xe s
noncomputable def CallR(X:Cx)(f:Value)(r:List V->Hp->VK->Prop):Prop:=
 ∀(pins:List (Addr×Obj)) (s:Shared) (σ:St) (H:Hp) (xs:List V) (us:List Value) (Q:VK),Inv X pins σ H s->Vals xs us->r xs H Q->
  wpAny (model X.prog X.w) X.A (call f us) (EP X pins σ Q) X.xe s
noncomputable def tOp(r:R2)(ta tb:TE):TE:=fun σ H Q=>ta σ H λx H1=>tb σ H1 λy H2=>r x y H2 Q
noncomputable def tUn(r:V->Hp->VK->Prop)(ta:TE):TE:=fun σ H Q=>ta σ H λx H1=>r x H1 Q
noncomputable def rI(C:Int->Int->Prop)(g:Int->Int->V):R2:=λx y H Q=>∃i j,x=.int i/\y=.int j/\C i j/\Q (g i j) H
noncomputable def rI0(g:Int->Int->V):R2:=λx y H Q=>∃i j,x=.int i/\y=.int j/\Q (g i j) H
noncomputable def rU(g:Int->V):V->Hp->VK->Prop:=λx H Q=>∃i,x=.int i/\Q (g i) H
section
variable{X:Cx}{a b c:Expr}{ta tb tc:TE}{pos:Pos}
theorem binT(ha:PE X a ta)(hb:PE X b tb){pins:List (Addr×Obj)}{s:Shared}{σ:St}{H:Hp}{R:V->V->Hp->Prop}(I:Inv X pins σ H s)
  (h:ta σ H λx H1=>tb σ H1 λy H2=>R x y H2) {Q:Value->Shared->Prop} {f:Value->Value->Sem Value}
  (hf:∀v u s2 x y H2,Inv X pins σ H2 s2->RelV x v->RelV y u->R x y H2->wpAny (model X.prog X.w) X.A (f v u) Q X.xe s2) :
  wpAny (model X.prog X.w) X.A (eval a X.env) (λv s₁=>wpAny (model X.prog X.w) X.A (eval b X.env) (λu s₂=>wpAny (model X.prog X.w) X.A (f v u) Q X.xe s₂) X.xe s₁) X.xe s:=by
 refine thn (ha pins s σ H _ I h) λv s1 ⟨x,H1,I1,r1,q1⟩=>?_;refine thn (hb pins s1 σ H1 _ I1 q1) λu s2 ⟨y,H2,I2,r2,q2⟩=>?_;exact hf v u s2 x y H2 I2 r1 r2 q2
theorem jJ{op:Operator}{r:R2}(ho:OpR X (binaryOp op) r)(ha:PE X a ta)(hb:PE X b tb):PE X (.BinOp a op b pos) (tOp r ta tb):=by
 intro pins s σ H Q I h;exact wpAny_BinOp (binT ha hb I h λv u s2 x y H2 I2 rx ry q=>ho pins s2 σ H2 x y v u Q I2 rx ry q)
theorem yW{op:UnaryOp}{r:V->Hp->VK->Prop}(ho:UnR X (unaryOp op) r)(ha:PE X a ta):PE X (.UnaryOp op a pos) (tUn r ta):=by
 intro pins s σ H Q I h;exact UnaryOp_ (thn (ha pins s σ H _ I h) λv s1 ⟨x,H1,I1,r1,q1⟩=>ho pins s1 σ H1 x v Q I1 r1 q1)
theorem opI{f:Value->Value->Sem Value}{C:Int->Int->Prop}{g:Int->Int->Int}
  (rule:∀(i j:Int) (t u:Tok) (s:Shared) (Q:Value->Shared->Prop) (E:Value->Shared->Prop),C i j->Q (.int (g i j) s.toks) { s with toks:=s.toks+1 }->wpAny (model X.prog X.w) X.A (f (.int i t) (.int j u)) Q E s) :
  OpR X f (rI C λi j=>.int (g i j)):=by
 intro pins s σ H x y v u Q I rx ry h;obtain⟨i,j,rfl,rfl,hc,q⟩:=h;obtain⟨t,rfl⟩:=rx;obtain⟨t',rfl⟩:=ry;exact rule i j t t' s _ _ hc ⟨.int (g i j),H,I.tok _,⟨_,rfl⟩,q⟩
theorem opI0{f:Value->Value->Sem Value}{g:Int->Int->Int}
  (rule:∀(i j:Int) (t u:Tok) (s:Shared) (Q:Value->Shared->Prop) (E:Value->Shared->Prop),Q (.int (g i j) s.toks) { s with toks:=s.toks+1 }->wpAny (model X.prog X.w) X.A (f (.int i t) (.int j u)) Q E s) :
  OpR X f (rI0 λi j=>.int (g i j)):=by
 intro pins s σ H x y v u Q I rx ry h;obtain⟨i,j,rfl,rfl,q⟩:=h;obtain⟨t,rfl⟩:=rx;obtain⟨t',rfl⟩:=ry;exact rule i j t t' s _ _ ⟨.int (g i j),H,I.tok _,⟨_,rfl⟩,q⟩
theorem opB0{f:Value->Value->Sem Value}{g:Int->Int->Bool}
  (rule:∀(i j:Int) (t u:Tok) (s:Shared) (Q:Value->Shared->Prop) (E:Value->Shared->Prop),Q (.bool (g i j)) s->wpAny (model X.prog X.w) X.A (f (.int i t) (.int j u)) Q E s) :
  OpR X f (rI0 λi j=>.bl (g i j)):=by
 intro pins s σ H x y v u Q I rx ry h;obtain⟨i,j,rfl,rfl,q⟩:=h;obtain⟨t,rfl⟩:=rx;obtain⟨t',rfl⟩:=ry;exact rule i j t t' s _ _ ⟨.bl (g i j),H,I,rfl,q⟩
noncomputable def CDiv(i j:Int):Prop:=0<j/\j<1073741824
noncomputable def CPow(i j:Int):Prop:=0<=j/\j<=1000000/\i.natAbs<2^64
noncomputable def CMul(i j:Int):Prop:=(-(2^64)<i/\i<2^64)∨(-(2^64)<j/\j<2^64)
theorem CMul.ok{i j:Int}(h:CMul i j):IntMulOk i j:=by
 rcases h with⟨h1,h2⟩ | ⟨h1,h2⟩
 ·exact .of_left (intBits_le_64 h1 h2)
 ·exact .of_right (intBits_le_64 h1 h2)
theorem kM:OpR X (binaryOp .Add) (rI0 λi j=>.int (i+j)):=opI0 λ_ _ _ _ _ _ _ q=>add_int q
theorem qB:OpR X (binaryOp .Sub) (rI0 λi j=>.int (i-j)):=opI0 λ_ _ _ _ _ _ _ q=>sub_int q
theorem zU:OpR X (binaryOp .Mult) (rI CMul λi j=>.int (i*j)):=opI λ_ _ _ _ _ _ _ hc q=>mul_int q hc.ok
theorem op_fdiv:OpR X (binaryOp .FloorDiv) (rI CDiv λi j=>.int (i/j)):=opI λi j _ _ _ _ _ hc q=>by
 have h1:(0:Int)<j:=hc.1;have h2:j<1073741824:=hc.2;exact floordiv_int (by omega) (by rw[Int.fdiv_eq_ediv_of_nonneg i (by omega)];exact q) (.inl (PyProof.noPylong_small (by omega)))
theorem vR:OpR X (binaryOp .Mod) (rI (λ_ j=>0<j) λi j=>.int (i%j)):=opI λi j _ _ _ _ _ hc q=>by
 have h1:(0:Int)<j:=hc;exact mod_int' (by omega) (by rw[Int.fmod_eq_emod_of_nonneg i (by omega)];exact q)
theorem op_pow:OpR X (binaryOp .Pow) (rI CPow λi j=>.int (i^j.toNat)):=opI λ_ _ _ _ _ _ _ hc q=>pow_int_small hc.1 hc.2.1 hc.2.2 q
theorem unI{f:Value->Sem Value}{g:Int->Int}
  (rule:∀(i:Int) (t:Tok) (s:Shared) (Q:Value->Shared->Prop) (E:Value->Shared->Prop),Q (.int (g i) s.toks) { s with toks:=s.toks+1 }->wpAny (model X.prog X.w) X.A (f (.int i t)) Q E s) :
  UnR X f (rU λi=>.int (g i)):=by
 intro pins s σ H x v Q I rx h;obtain⟨i,rfl,q⟩:=h;obtain⟨t,rfl⟩:=rx;exact rule i t s _ _ ⟨.int (g i),H,I.tok _,⟨_,rfl⟩,q⟩
theorem xG:UnR X (unaryOp .USub) (rU λi=>.int (-i)):=unI λ_ _ _ _ _ q=>neg_int q
end
noncomputable def scal:V->V->Bool
 | .non,.non=>true | .non,.int _=>true | .int _,.non=>true | .non,.bl _=>true | .bl _,.non=>true | .non,.str _=>true | .str _,.non=>true
 | .int _,.int _=>true | .bl _,.bl _=>true | .str _,.str _=>true | .byt _,.byt _=>true
 | .int _,.str _=>true | .str _,.int _=>true | .bl _,.str _=>true | .str _,.bl _=>true
 | _,_=>false
noncomputable def rEq:R2:=λx y H Q=>scal x y=true/\Q (.bl (decide (x=y))) H
noncomputable def rNe:R2:=λx y H Q=>scal x y=true/\Q (.bl (!decide (x=y))) H
theorem vV{i j:Int} :decide (V.int i=V.int j)=(i==j):=by
 rw[Bool.eq_iff_iff];simp
theorem dec_bl{i j:Bool} :decide (V.bl i=V.bl j)=(i==j):=by
 rw[Bool.eq_iff_iff];simp
theorem dec_str{i j:Str} :decide (V.str i=V.str j)=(i==j):=by
 rw[Bool.eq_iff_iff];simp
theorem dec_byt{i j:Array UInt8} :decide (V.byt i=V.byt j)=(i.toList==j.toList):=by
 rw[Bool.eq_iff_iff];cases i;cases j;simp
section
variable{X:Cx}{a b c:Expr}{ta tb tc:TE}{pos:Pos}
theorem kO{pins:List (Addr×Obj)}{σ:St}{H:Hp}{s:Shared}{Q:VK}{k k':Bool}(I:Inv X pins σ H s)(q:Q (.bl k) H)(e:k=k'):EP X pins σ Q (.bool k') s:=by
 subst e;exact⟨.bl k,H,I,rfl,q⟩
theorem qP:OpR X (compareOp .Eq) rEq:=by
 intro pins s σ H x y v u Q I rx ry h;obtain⟨hs,q⟩:=h;cases x with
 | non=>
  cases rx;cases y with
  | non=>cases ry;exact PySem.EqNone.eq_none_none (kO I q (by simp))
  | bl j=>cases ry;exact PySem.EqNone.eq_none_bool (kO I q (by simp))
  | int j=>obtain⟨t',rfl⟩:=ry;exact PySem.EqNone.eq_none_int (kO I q (by simp))
  | str j=>obtain⟨t',rfl⟩:=ry;exact PySem.EqNone.eq_none_str (kO I q (by simp))
  | _=>exact absurd (show false=true from hs) Bool.false_ne_true
 | bl i=>
  cases rx;cases y with
  | non=>cases ry;exact PySem.EqNone.eq_bool_none (kO I q (by simp))
  | bl j=>cases ry;exact eq_bool (kO I q dec_bl)
  | str j=>obtain⟨t',rfl⟩:=ry;exact PySem.EqMixed.eq_bool_str (kO I q (by simp))
  | _=>exact absurd (show false=true from hs) Bool.false_ne_true
 | int i=>
  obtain⟨t,rfl⟩:=rx;cases y with
  | non=>cases ry;exact PySem.EqNone.eq_int_none (kO I q (by simp))
  | int j=>obtain⟨t',rfl⟩:=ry;exact eq_int (kO I q vV)
  | str j=>obtain⟨t',rfl⟩:=ry;exact PySem.EqMixed.eq_int_str (kO I q (by simp))
  | _=>exact absurd (show false=true from hs) Bool.false_ne_true
 | str i=>
  obtain⟨t,rfl⟩:=rx;cases y with
  | non=>cases ry;exact PySem.EqNone.eq_str_none (kO I q (by simp))
  | bl j=>cases ry;exact PySem.EqMixed.eq_str_bool (kO I q (by simp))
  | int j=>obtain⟨t',rfl⟩:=ry;exact PySem.EqMixed.eq_str_int (kO I q (by simp))
  | str j=>obtain⟨t',rfl⟩:=ry;exact eq_str (kO I q dec_str)
  | _=>exact absurd (show false=true from hs) Bool.false_ne_true
 | byt i=>
  obtain⟨t,rfl⟩:=rx;cases y with
  | byt j=>obtain⟨t',rfl⟩:=ry;exact PySem.W.eq_bytes (kO I q dec_byt)
  | _=>exact absurd (show false=true from hs) Bool.false_ne_true
 | _=>cases y<;>exact absurd (show false=true from hs) Bool.false_ne_true
theorem uM:OpR X (compareOp .NotEq) rNe:=by
 intro pins s σ H x y v u Q I rx ry h;obtain⟨hs,q⟩:=h;cases x with
 | non=>
  cases rx;cases y with
  | non=>cases ry;exact PySem.EqNone.ne_none_none (kO I q (by simp))
  | bl j=>cases ry;exact PySem.EqNone.ne_none_bool (kO I q (by simp))
  | int j=>obtain⟨t',rfl⟩:=ry;exact PySem.EqNone.ne_none_int (kO I q (by simp))
  | str j=>obtain⟨t',rfl⟩:=ry;exact PySem.EqNone.ne_none_str (kO I q (by simp))
  | _=>exact absurd (show false=true from hs) Bool.false_ne_true
 | bl i=>
  cases rx;cases y with
  | non=>cases ry;exact PySem.EqNone.ne_bool_none (kO I q (by simp))
  | bl j=>cases ry;exact ne_bool (kO I q (congrArg not dec_bl))
  | str j=>obtain⟨t',rfl⟩:=ry;exact PySem.EqMixed.ne_bool_str (kO I q (by simp))
  | _=>exact absurd (show false=true from hs) Bool.false_ne_true
 | int i=>
  obtain⟨t,rfl⟩:=rx;cases y with
  | non=>cases ry;exact PySem.EqNone.ne_int_none (kO I q (by simp))
  | int j=>obtain⟨t',rfl⟩:=ry;exact ne_int (kO I q (congrArg not vV))
  | str j=>obtain⟨t',rfl⟩:=ry;exact PySem.EqMixed.ne_int_str (kO I q (by simp))
  | _=>exact absurd (show false=true from hs) Bool.false_ne_true
 | str i=>
  obtain⟨t,rfl⟩:=rx;cases y with
  | non=>cases ry;exact PySem.EqNone.ne_str_none (kO I q (by simp))
  | bl j=>cases ry;exact PySem.EqMixed.ne_str_bool (kO I q (by simp))
  | int j=>obtain⟨t',rfl⟩:=ry;exact PySem.EqMixed.ne_str_int (kO I q (by simp))
  | str j=>obtain⟨t',rfl⟩:=ry;exact ne_str (kO I q (congrArg not dec_str))
  | _=>exact absurd (show false=true from hs) Bool.false_ne_true
 | byt i=>
  obtain⟨t,rfl⟩:=rx;cases y with
  | byt j=>obtain⟨t',rfl⟩:=ry;exact PySem.W.ne_bytes (kO I q (congrArg not dec_byt))
  | _=>exact absurd (show false=true from hs) Bool.false_ne_true
 | _=>cases y<;>exact absurd (show false=true from hs) Bool.false_ne_true
theorem xZ:OpR X (compareOp .Lt) (rI0 λi j=>.bl (decide (i<j))):=opB0 λ_ _ _ _ _ _ _ q=>lt_int q
theorem op_le:OpR X (compareOp .LtE) (rI0 λi j=>.bl (decide (i<=j))):=opB0 λ_ _ _ _ _ _ _ q=>le_int q
theorem wM:OpR X (compareOp .Gt) (rI0 λi j=>.bl (decide (j<i))):=opB0 λ_ _ _ _ _ _ _ q=>gt_int q
theorem op_ge:OpR X (compareOp .GtE) (rI0 λi j=>.bl (decide (j<=i))):=opB0 λ_ _ _ _ _ _ _ q=>ge_int q
theorem op_isN:OpR X (compareOp .Is) (λx y H Q=>y=.non/\Q (.bl (decide (x=.non))) H):=by
 intro pins s σ H x y v u Q I rx ry h;obtain⟨rfl,q⟩:=h;cases ry;refine is_none_gen (kO I q ?_);cases x<;>first
  | (cases rx;rfl)
  | (obtain⟨t,rfl⟩:=rx;rfl)
theorem op_notN:OpR X (compareOp .IsNot) (λx y H Q=>y=.non/\Q (.bl (!decide (x=.non))) H):=by
 intro pins s σ H x y v u Q I rx ry h;obtain⟨rfl,q⟩:=h;cases ry;refine isnot_none_gen (kO I q ?_);cases x<;>first
  | (cases rx;rfl)
  | (obtain⟨t,rfl⟩:=rx;rfl)
theorem jS(b:Expr){op:CmpOp}(h:op≠.In:=by decide)(h2:op≠.NotIn:=by decide):behindInMarks op b=false:=by
 have e1:(op==CmpOp.In)=false:=by cases op<;>first | rfl | exact absurd rfl h
 have e2:(op==CmpOp.NotIn)=false:=by cases op<;>first | rfl | exact absurd rfl h2
 cases b<;>simp [behindInMarks,e1,e2]
theorem vD{op:CmpOp}{r:R2}(ho:OpR X (compareOp op) r)(ha:PE X a ta)(hb:PE X b tb)(hm:behindInMarks op b=false):PE X (.Compare a [op] [b] pos) (tOp r ta tb):=by
 intro pins s σ H Q I h;exact wpAny_Compare1 (binT ha hb I h λv u s2 x y H2 I2 rx ry q=>ho pins s2 σ H2 x y v u Q I2 rx ry q) hm
noncomputable def tTest(t:TE):TT:=fun σ H Q=>t σ H λx H'=>∃k,x=.bl k/\Q k H'
theorem jR{op:CmpOp}{r:R2}(ho:OpR X (compareOp op) r)(ha:PE X a ta)(hb:PE X b tb)(hm:behindInMarks op b=false):PT X (.Compare a [op] [b] pos) (tTest (tOp r ta tb)):=by
 intro pins s σ H Q I h;refine wpAny_isTrue_Compare1 (thn (ha pins s σ H _ I h) λv s1 ⟨x,H1,I1,r1,q1⟩=>thn (hb pins s1 σ H1 _ I1 q1) λu s2 ⟨y,H2,I2,r2,q2⟩=>
  thn (ho pins s2 σ H2 x y v u _ I2 r1 r2 q2) λc s3 ⟨z,H3,I3,r3,k,e,q3⟩=>?_) hm
 subst e;cases r3;exact wpAny_truthy_bool ⟨H3,I3,q3⟩
theorem mB:(sizeLine:Nat)<2^63:=by rw[sizeLine_eq];decide
theorem vQ{x:V}{us:List Value}(r:Vals [x] us):∃u,us=[u]/\RelV x u:=by
 cases r with
 | cons r1 r2=>cases r2;exact⟨_,rfl,r1⟩
theorem vals2{x y:V}{us:List Value}(r:Vals [x,y] us):∃u w',us=[u,w']/\RelV x u/\RelV y w':=by
 cases r with
 | cons r1 r2=>
  cases r2 with
  | cons r3 r4=>cases r4;exact⟨_,_,rfl,r1,r3⟩
theorem mO:CallR X (.builtin "abs") (λxs H Q=>∃i,xs=[.int i]/\Q (.int (if i<0 then -i else i)) H):=by
 intro pins s σ H xs us Q I r h;obtain⟨i,rfl,q⟩:=h;obtain⟨u,rfl,t,rfl⟩:=vQ r;exact call_abs_int λu tk=>⟨.int (if i<0 then -i else i),H,I.tok _,⟨_,rfl⟩,q⟩
end
end L2
namespace L2
open PySem PySem.Spec PyProof.Rows
structure ObjM(h:Heap)(x dx C:Addr)(mA:Str->Option Value):Prop where
 obj:h.get? x=some (PySem.W.instObj C dx)
 ns:h.Ns1 dx mA
 ne:dx≠x
theorem lookIn_ns{h:Heap}{dx:Addr}{mA:Str->Option Value}(n:h.Ns1 dx mA):∃od,h.get? dx=some od/\∀name,PySem.W.lookIn name od=some (mA name):=by
 obtain⟨o,es,ep,ho,hd,hk,_,hm⟩:=n;refine⟨o,ho,λname=>?_⟩;have e:=hm name;unfold nsFind findBy at e;rw[<-Array.find?_toList]at e;unfold PySem.W.lookIn;rw[hd];dsimp only;split
 ·rename_i y q;rw[q]at e;exact congrArg some e
 ·rename_i q;rw[q]at e;have a:es.toList.any (·.refKey)=false:=by
   rw[List.any_eq_false];intro y hy;obtain⟨z,t,hkey⟩:=hk y (Array.mem_toList_iff.mp hy);simp [DictEntry.refKey,hkey]
  have a':¬es.toList.any (·.refKey)=true:=by rw[a];exact Bool.false_ne_true
  rw[if_neg a'];exact congrArg some e
theorem ObjM.look{h:Heap}{x dx C:Addr}{mA:Str->Option Value}(I:ObjM h x dx C mA):∃od,PySem.W.InstAt h x (PySem.W.instObj C dx) C (some od)/\∀name,PySem.W.lookIn name od=some (mA name):=
 let ⟨od,ho,hl⟩:=lookIn_ns I.ns
 ⟨od,⟨I.obj,rfl,rfl,ho⟩,hl⟩
section
variable{prog:Program}{w:World}{A:Around}{E:Value->Shared->Prop}{s:Shared}{K:PySem.W.Frag}{x dx C f:Addr}{mA:Str->Option Value}{name:Str}{v:Value}
end
theorem RelO.some_of{v:V}{o:Option Value}(r:RelO (some v) o):∃u,o=some u/\RelV v u:=by
 cases o with
 | none=>exact(show False from r).elim
 | some u=>exact⟨u,rfl,r⟩
section
variable{P:Program}{w:World}{H H':Hp}{h h':Heap}{a C dx:Addr}{fs fs':List (Str×V)}
theorem ins_get(hok:HOk P w H h)(e:H a=some (.ins C dx fs)):∃mA,ObjM h a dx C mA/\(∀f,RelO (fs.lookup f) (mA f))/\PySem.Within mA (fs.map (·.1))/\fs.length<=1000/\H dx=some (.own a):=by
 obtain⟨d,z,ne,ob,mA,n,r,q⟩:=(show ObjOk P w H h a (.ins C dx fs)from hok a _ e);exact⟨mA,⟨ob,n,ne⟩,r,q,z,d⟩
end
structure Cls(K:PySem.W.Frag)(C:Addr):Prop where
 pg:PySem.W.plainGet K C Str.empty=true
 hd:PySem.W.hasDictIn K C=true
 po:PySem.W.plainOver K C=true
 sa:PySem.W.findIn K (.ref C) "__setattr__" = some (some (.builtin "object.__setattr__"))
theorem Cls.get{K:PySem.W.Frag}{C:Addr}(c:Cls K C)(f:Str):PySem.W.plainGet K C f=true:=c.pg
structure Con(K:PySem.W.Frag)(C:Addr)(f:Str)(v:V)(u:Value):Prop where
 at_:PySem.W.findIn K (.ref C) f=some (some u)
 rel:RelV v u
 get:PySem.W.specialIn K u "__get__" = some none
 cp:PySem.W.copiedNames.contains f=false
structure Meth(K:PySem.W.Frag)(C:Addr)(m:Str)(f:Addr):Prop where
 at_:PySem.W.findIn K (.ref C) m=some (some (.ref f))
 fn:PySem.W.isFn K (.ref f)=true
 kp:PySem.W.keepIn K (.ref f)=true
section
variable{X:Cx}{pins:List (Addr×Obj)}{σ:St}{H:Hp}{s:Shared}{a C dx:Addr}{fs:List (Str×V)}{f:Str}{v:V}{A:Around}{E:Value->Shared->Prop}
end
section
variable{X:Cx}{o e value:Expr}{f:Str}{pos pos' tpos:Pos}{ta tv:TE}
end
section
variable{X:Cx}{pins:List (Addr×Obj)}{σ:St}{H:Hp}{s:Shared}{A:Around}{E:Value->Shared->Prop}{Q:Value->Shared->Prop}{c:Value}{b:Bool}
inductive TyOf(K:PySem.W.Frag)(H:Hp):V->Value->Prop where
 | non:TyOf K H .non (.type "NoneType")
 | bl (x:Bool):TyOf K H (.bl x) (.type "bool")
 | int (i:Int):TyOf K H (.int i) (.type "int")
 | str (x:Str):TyOf K H (.str x) (.type "str")
 | flt (x:UInt64):TyOf K H (.flt x) (.type "float")
 | lst {a:Addr} {xs:List V} (e:H a=some (.lst xs)):TyOf K H (.ref a) (.type "list")
 | frz {a:Addr} {o:Obj} {xs:List V} (e:H a=some (.frz o (.lst xs))):TyOf K H (.ref a) (.type "list")
 | tup {a:Addr} {xs:List V} (e:H a=some (.tup xs)):TyOf K H (.ref a) (.type "tuple")
 | dK {a:Addr} {kvs:List (Key×V)} (e:H a=some (.dK kvs)):TyOf K H (.ref a) (.type "dict")
 | dT {a:Addr} {kvs:List (List Key×V)} (e:H a=some (.dT kvs)):TyOf K H (.ref a) (.type "dict")
 | ins {a C dx:Addr} {fs:List (Str×V)} (e:H a=some (.ins C dx fs)) (cl:Cls K C) (ha:PySem.W.findIn K (.ref C) "__class__" = some (some (.builtin "object.__class__")))
   (hn:PySem.W.specialIn K (.builtin "object.__class__") "__get__" = some (some (.builtin "getset_descriptor.__get__"))) (htk:PySem.W.takesIn K (.builtin "object.__class__")=some true)
   (hm:PySem.W.mroIn K C (.type "object")=some true):TyOf K H (.ref a) (.ref C)
theorem isinst_ok{x:V}{u t:Value}(I:Inv X pins σ H s)(rx:RelV x u)(ty:TyOf X.K H x t)(e:PySem.W.kitOne X.K t c=some b)(h:∀tk,Q (.bool b) { s with toks:=tk }) :
  wpAny (model X.prog X.w) A (call (.builtin "isinstance") [u,c]) Q E s:=by
 cases ty with
 | non=>cases (show u=Value.none from rx);exact PySem.W.kia_one PySem.W.kitx_none I.kIn True.intro e (λz=>nomatch z) h
 | bl y=>cases (show u=Value.bool y from rx);exact PySem.W.kia_one PySem.W.kitx_bool I.kIn True.intro e (λz=>nomatch z) h
 | int i=>obtain⟨t,q⟩:=(show ∃t,u=Value.int i t from rx);cases q;exact PySem.W.kia_one PySem.W.kitx_int I.kIn True.intro e (λz=>nomatch z) h
 | str y=>obtain⟨t,q⟩:=(show ∃t,u=Value.str y t from rx);cases q;exact PySem.W.kia_one PySem.W.kitx_str I.kIn True.intro e (λz=>nomatch z) h
 | flt y=>obtain⟨t,q⟩:=(show ∃t,u=Value.float y t from rx);cases q;exact PySem.W.kia_one PySem.W.kitx_float I.kIn True.intro e (λz=>nomatch z) h
 | @lst a xs ea=>
  cases (show u=Value.ref a from rx);obtain⟨_,_,n,_,h1⟩:=(show ObjOk X.prog X.w H s.heap a (.lst xs)from I.hok a _ ea);exact PySem.W.kia_one PySem.W.kitx_list I.kIn ⟨_,h1,rfl⟩ e (λz=>nomatch z) h
 | @frz a ob xs ea=>
  cases (show u=Value.ref a from rx);obtain⟨_,_,_,n,_,h1⟩:=(show ObjOk X.prog X.w H s.heap a (.frz ob (.lst xs))from I.hok a _ ea);exact PySem.W.kia_one PySem.W.kitx_list I.kIn ⟨_,h1,rfl⟩ e (λz=>nomatch z) h
 | @tup a xs ea=>
  cases (show u=Value.ref a from rx);obtain⟨_,_,_,p⟩:=(show ObjOk X.prog X.w H s.heap a (.tup xs)from I.hok a _ ea);obtain⟨o,h1,h2,_⟩:=p;exact PySem.W.kia_one PySem.W.kitx_tuple I.kIn ⟨o,h1,h2⟩ e (λz=>nomatch z) h
 | @dK a kvs ea=>
  cases (show u=Value.ref a from rx);obtain⟨_,_,vs,_,p⟩:=(show ObjOk X.prog X.w H s.heap a (.dK kvs)from I.hok a _ ea);obtain⟨o,es,ep,h1,h2,_⟩:=p;exact PySem.W.kia_one PySem.W.kitx_dict I.kIn ⟨o,h1,h2.1⟩ e (λz=>nomatch z) h
 | @dT a kvs ea=>
  cases (show u=Value.ref a from rx);obtain⟨_,_,xs,_,o,es,ep,h1,h2,_⟩:=(show ObjOk X.prog X.w H s.heap a (.dT kvs)from I.hok a _ ea);exact PySem.W.kia_one PySem.W.kitx_dict I.kIn ⟨o,h1,h2.1⟩ e (λz=>nomatch z) h
 | @ins a C dx fs ea cl ha hn htk hm=>
  cases (show u=Value.ref a from rx);obtain⟨mA,O,_⟩:=ins_get I.hok ea;obtain⟨od,J,_⟩:=O.look;exact PySem.W.kia_one (PySem.W.kitx_own (cl.get _) cl.hd ha hn htk hm) I.kIn J e (λz=>nomatch z) h
end
end L2
namespace L2
open PySem PySem.Spec PyProof.Rows
structure Room(k:Nat)(A:Around):Prop where
 hd:A.handled=none
 dp:A.depth+3*k+5<recursionLimit
 un:A.units+16*k+200<cLine
theorem Room.mono{j k:Nat}{A:Around}(r:Room k A)(h:j<=k):Room j A:=⟨r.hd,by have:=r.dp;omega,by have:=r.un;omega⟩
theorem Room.deeper{k:Nat}{A:Around}(r:Room (k+1) A)(env:Env):Room k (A.deeper env):=
 ⟨r.hd,by have:=r.dp;show A.depth+1+3*k+5<_;omega,by have:=r.un;show A.units+3+16*k+200<_;omega⟩
theorem Room.depth{k:Nat}{A:Around}(r:Room k A):A.depth<recursionLimit:=by have:=r.dp;omega
theorem Room.units{k:Nat}{A:Around}(r:Room k A):A.units+64<cLine:=by have:=r.un;omega
theorem Room.units0{k:Nat}{A:Around}(r:Room k A):A.units<cLine:=by have:=r.un;omega
noncomputable def tNil:TA:=λ_ H Q=>Q [] H
noncomputable def kT(ta:TE)(tr:TA):TA:=fun σ H Q=>ta σ H λx H1=>tr σ H1 λxs H2=>Q (x::xs) H2
section
variable{X:Cx}{e:Expr}{es:List Expr}{te:TE}{t:TA}{pos:Pos}
theorem jC:PA X [] tNil:=λ_ _ _ _ H Q I h=>Calls.spliced_nil ⟨[],H,I,.nil,h⟩
theorem jA(ha:PE X e te)(hr:PA X es t)(hs:starEach (e::es) X.env=(false,eval e X.env)::starEach es X.env:=by rfl):PA X (e::es) (kT te t):=by
 intro pos pins s σ H Q I h;rw[hs];show wpAny _ _ (spliced ((false,eval e X.env)::backTo pos (starEach es X.env))) _ _ s;refine Calls.spliced_cons (thn (ha pins s σ H _ I h) λu s1 ⟨x,H1,I1,r1,q1⟩=>?_);exact thn (hr pos pins s1 σ H1 _ I1 q1) λus s2 ⟨xs,H2,I2,r2,q2⟩=>⟨x::xs,H2,I2,.cons r1 r2,q2⟩
noncomputable def tTup(t:TA):TE:=fun σ H Q=>t σ H λxs H1=>xs.length<=sizeLine/\∀p,H1 p=none->Q (.ref p) (upd H1 p (.tup xs))
theorem pe_tup{x1}(h:PA X es t):PE X (.Tuple es x1 pos) (tTup t):=by
 intro pins s σ H Q I hq;refine wpAny_Tuple_spliced (thn (h pos pins s σ H _ I hq) λus s1 ⟨xs,H1,I1,r,z,q⟩=>⟨by rw[<-r.length];exact z, ?_⟩);have hf:H1 s1.heap.objs.size=none:=I1.hok.fresh (Nat.le_refl _);refine⟨.ref s1.heap.objs.size,upd H1 s1.heap.objs.size (.tup xs),I1.laid (t':=s1.toks) (λb u e=>Heap.get?_push_of_some _ e) (Nat.le_refl _) ?_,rfl,q _ hf⟩;exact⟨z,us,r,⟨_,Heap.get?_push_size _ rfl,rfl,_,rfl⟩⟩
end
noncomputable abbrev Sp:=List V->Hp->VK->XK->Prop
noncomputable abbrev CXT:=List Env->Hp->Shared->XK->Value->Shared->Prop
structure Env0(P:Program)(w:World)(K:PySem.W.Frag)(mg:Str->Option Value)(base:Heap)(A:Around)(outer:List Env)(s:Shared)(H:Hp):Prop where
 frames:A.frames=some outer
 mod:Mod K mg base
 bs:∀b o,base.get? b=some o->s.heap.get? b=some o/\H b=none
 bsz:base.objs.size<=s.heap.objs.size
 funs:s.heap.FunFrames base outer
 frf:∀b∈frs outer,H b=none
 hok:HOk P w H s.heap
 bare:AllBare s.gens
noncomputable def CE(outer:List Env)(P:Program)(w:World)(H:Hp)(s:Shared)(Q:VK)(u:Value)(s':Shared):Prop:=
 ∃v H',s'.os=s.os/\AllBare s'.gens/\Un (frs outer) [] H H' s.heap s'.heap/\HOk P w H' s'.heap/\RelV v u/\Q v H'
noncomputable def CR(CX:CXT)(outer:List Env)(P:Program)(w:World)(H:Hp)(s:Shared)(Q:VK)(E:XK)(r:Result)(s':Shared):Prop:=
 match r with
 | .ok (.ret u)=>CE outer P w H s Q u s'
 | .ok _=>False
 | .error e=>CX outer H s E e s'
structure FnOk(P:Program)(w:World)(K:PySem.W.Frag)(mg:Str->Option Value)(base:Heap)(CX:CXT)(k:Nat)(f:Addr)(fd:FuncData)(ps:List Str)(sp:Sp):Prop where
 len:∀vs H Q E,sp vs H Q E->vs.length=ps.length
 run:∀(A:Around) (outer:List Env) (s:Shared) (H:Hp) (args:Args) (us:List Value) (vs:List V) (Q:VK) (E:XK),Room k A->Env0 P w K mg base A outer s H->BindsTo s fd args (ps.zip us)->Vals vs us->sp vs H Q E->
  codeAny (model P w) A (.call (.ref f) args) (CR CX outer P w H s Q E) s
section
variable{X:Cx}{pins:List (Addr×Obj)}{σ:St}{H:Hp}{s s':Shared}
theorem Inv.env0(I:Inv X pins σ H s):Env0 X.prog X.w X.K X.mg X.base X.A X.stack s H:=
 ⟨I.ok.frames,I.ok.mod,I.bs,Nat.le_trans I.ok.bsz I.sz,I.stack,I.stkFree,I.hok,I.bare⟩
theorem Inv.after{Q:VK}{u:Value}(I:Inv X pins σ H s)(h:CE X.stack X.prog X.w H s Q u s'):EP X pins σ Q u s':=by
 obtain⟨v,H',os,bare,un,hok,r,q⟩:=h;obtain⟨hh,g,d,t,os'⟩:=s';obtain rfl:os'=s.os:=os;exact⟨v,H',I.call (h':=hh) (g':=g) (d':=d) (t':=t) (ch:=[]) un hok bare (λb z=>absurd z (by simp)),r,q⟩
end
noncomputable def zX(sp:Sp)(dvs:List V)(E:XK)(t:TA):TE:=fun σ H Q=>t σ H λvs H1=>sp (vs++dvs) H1 Q E
noncomputable def Binds(K:PySem.W.Frag)(fd:FuncData)(ps:List Str)(ds:List Value):Prop:=
 ∀(s:Shared) (us:List Value),K.In s.heap->(us++ds).length=ps.length->BindsTo s fd ⟨us,[]⟩ (ps.zip (us++ds))
theorem Binds.all{K:PySem.W.Frag}{fd:FuncData}{ps:List Str}(h:∀us:List Value,us.length=ps.length->bindArgs fd ⟨us,[]⟩=pure (ps.zip us)):Binds K fd ps []:=λs us _ hl=>by
 rw[List.append_nil]at hl ⊢;exact .of_eq (h us hl)
noncomputable def Passes(CX:CXT)(X:Cx)(E:XK):Prop:=∀(pins:List (Addr×Obj)) (σ:St) (H:Hp) (s:Shared) (e:Value) (s':Shared),Inv X pins σ H s->CX X.stack H s E e s'->X.xe e s'
section
variable{X:Cx}{CX:CXT}{k:Nat}{f C:Addr}{fd:FuncData}{ps:List Str}{sp:Sp}{dvs:List V}{ds:List Value}{E:XK}{x m:Str}{p pos apos:Pos}{e o:Expr}{es:List Expr}{ta:TE}{t:TA}
theorem run_fn{pins:List (Addr×Obj)}{σ:St}{H:Hp}{s:Shared}{Q:VK}{us:List Value}{vs:List V}(F:FnOk X.prog X.w X.K X.mg X.base CX k f fd ps sp)(hr:Room k X.A)(hb:Binds X.K fd ps ds)(hd:Vals dvs ds)(hx:Passes CX X E)
  (I:Inv X pins σ H s) (r:Vals vs us) (h:sp (vs++dvs) H Q E):wpAny (model X.prog X.w) X.A (call (.ref f) us) (EP X pins σ Q) X.xe s:=by
 have r2:Vals (vs++dvs) (us++ds):=r.append hd;have hl:(us++ds).length=ps.length:=by rw[<-r2.length];exact F.len _ _ _ _ h
 refine wpAny_call (codeAny_mono (F.run X.A X.stack s H ⟨us,[]⟩ (us++ds) (vs++dvs) Q E hr I.env0 (hb s us I.kIn hl) r2 h) λr s' hq=>?_);cases r with
 | error e=>exact hx pins σ H s e s' I hq
 | ok fl=>
  cases fl with
  | ret u=>exact I.after hq
  | next=>exact False.elim hq
  | brk=>exact False.elim hq
  | cont=>exact False.elim hq
theorem jG(F:FnOk X.prog X.w X.K X.mg X.base CX k f fd ps sp)(hr:Room k X.A)(hg:Gl X x)(hm:X.mg x=some (.ref f))(hk:PySem.W.keepIn X.K (.ref f)=true)(hb:Binds X.K fd ps ds)(hd:Vals dvs ds)(hx:Passes CX X E)
  (ha:PA X (e::es) t) (hdb:(x==("__debug__" :Str))=false:=by decide) (he:starEach (e::es) X.env=(false,eval e X.env)::starEach es X.env:=by rfl) (hpl:(backTo pos (starEach es X.env)).any (·.1)=false:=by rfl) :
  PE X (.Call (.Name x p) (e::es) [] pos) (zX sp dvs E t):=by
 intro pins s σ H Q I h;refine wpAny_Call_Name_kw (ld_glob I hg hm ?_ hdb);refine PySem.W.callWith_K (h₀:=X.base) I.ok.mod.kin hk (thn (ha pos pins s σ H _ I h) λus s1 ⟨vs,H1,I1,r,q⟩=>⟨I1.kIn, ?_⟩) he hpl;exact run_fn F hr hb hd hx I1 r q
structure Mk(K:PySem.W.Frag)(C f:Addr):Prop where
 makes:PySem.W.makesIn K C=true
 init:PySem.W.findIn K (.ref C) "__init__" = some (some (.ref f))
 fn:PySem.W.isFn K (.ref f)=true
 kp:PySem.W.keepIn K (.ref C)=true
end
noncomputable def PK(X:Cx)(kws:List Keyword)(t:TA):Prop:=
 ∀(pos:Pos) (pins:List (Addr×Obj)) (s:Shared) (σ:St) (H:Hp) (Q:List V->Hp->Prop),Inv X pins σ H s->t σ H Q->wpAny (model X.prog X.w) X.A (evalAll ((backToKw pos (keywordEach kws X.env)).map (·.2))) (AP X pins σ Q) X.xe s
section
variable{X:Cx}{CX:CXT}{k:Nat}{f C:Addr}{fd:FuncData}{ps ks:List Str}{sp:Sp}{E:XK}{x m:Str}{p pos apos kpos:Pos}{e o:Expr}{es:List Expr}{kws:List Keyword}{te ta:TE}{t tk:TA}{nm:Option Str}
theorem pk_nil:PK X [] tNil:=λ_ _ _ _ H Q I h=>wpAny_evalAll_nil ⟨[],H,I,.nil,h⟩
theorem pk_cons(ha:PE X e te)(hr:PK X kws t):PK X (⟨nm,e,kpos⟩::kws) (kT te t):=by
 intro pos pins s σ H Q I h;show wpAny _ _ (evalAll ((do let v<-eval e X.env;standAt pos;pure v)::(backToKw pos (keywordEach kws X.env)).map (·.2))) _ _ s;refine wpAny_evalAll_cons (wpAny_bind (thn (ha pins s σ H _ I h) λu s1 ⟨x,H1,I1,r1,q1⟩=>wpAny_bind (wpAny_standAt (wpAny_pure ?_))));exact thn (hr pos pins s1 σ H1 _ I1 q1) λus s2 ⟨xs,H2,I2,r2,q2⟩=>⟨x::xs,H2,I2,.cons r1 r2,q2⟩
structure KBinds(K:PySem.W.Frag)(fd:FuncData)(ps ks:List Str)(g:List Value->List Value->List Value)(gV:List V->List V->List V):Prop where
 to:∀(s:Shared) (us ws:List Value),K.In s.heap->(g us ws).length=ps.length->BindsTo s fd ⟨us,ks.zip ws⟩ (ps.zip (g us ws))
 rel:∀{vs:List V} {us:List Value} {zs:List V} {ws:List Value},Vals vs us->Vals zs ws->Vals (gV vs zs) (g us ws)
variable{g:List Value->List Value->List Value}{gV:List V->List V->List V}
end
structure FnScope(N P:List Str)(sc:Scope):Prop where
 kind:sc.kind=.function
 co:sc.isCoroutine=false
 gen:sc.isGenerator=false
 nd:N.Nodup
 pre:N.take P.length=P
 par:∀x∈P,sc.names.lookup x=some .local∨sc.names.lookup x=some .cell
 nofree:∀y∈sc.names,y.2≠.free
theorem nT{kindOf:Str->Option NameKind}{x:Str} :∀{binds:List (Str×Value)} {m:Str->Option Value},(∀v,(x,v)∉binds)->bindL kindOf binds m x=m x
 | [],_,_=>rfl
 | (n,v)::r,m,h=>by
  unfold bindL;rw[nT λw hw=>h w (List.mem_cons_of_mem _ hw)];split
  ·have:x≠n:=by rintro rfl;exact h v List.mem_cons_self
   simp [this]
  ·rfl
theorem nV{kindOf:Str->Option NameKind}{x:Str} :∀{binds:List (Str×Value)} {m:Str->Option Value},(∀v,(x,v)∉binds)->bindC kindOf binds m x=m x
 | [],_,_=>rfl
 | (n,v)::r,m,h=>by
  unfold bindC;rw[nV λw hw=>h w (List.mem_cons_of_mem _ hw)];split
  ·rfl
  ·have:x≠n:=by rintro rfl;exact h v List.mem_cons_self
   simp [this]
theorem nU{kindOf:Str->Option NameKind}{x:Str}{v:Value} :∀{P:List Str} {vs:List Value} {i:Nat} {m:Str->Option Value},P.Nodup->P[i]? = some x->vs[i]? = some v->kindOf x=some .local->
  bindL kindOf (P.zip vs) m x=some v
 | [],_,_,_,_,h,_,_=>by simp at h
 | _::_,[],_,_,_,_,h,_=>by simp at h
 | p::P,w::vs,0,m,nd,h1,h2,hk=>by
  simp at h1 h2;subst h1;subst h2;show bindL kindOf ((p,w)::P.zip vs) m p=_;unfold bindL;rw[nT λv hv=>(List.nodup_cons.mp nd).1 (List.of_mem_zip hv).1,if_pos hk];simp
 | p::P,w::vs,i+1,m,nd,h1,h2,hk=>by
  show bindL kindOf ((p,w)::P.zip vs) m x=_;unfold bindL;exact nU (i:=i) (List.nodup_cons.mp nd).2 (by simpa using h1) (by simpa using h2) hk
theorem bindC_get{kindOf:Str->Option NameKind}{x:Str}{v:Value} :∀{P:List Str} {vs:List Value} {i:Nat} {m:Str->Option Value},P.Nodup->P[i]? = some x->vs[i]? = some v->kindOf x≠some .local->
  bindC kindOf (P.zip vs) m x=some v
 | [],_,_,_,_,h,_,_=>by simp at h
 | _::_,[],_,_,_,_,h,_=>by simp at h
 | p::P,w::vs,0,m,nd,h1,h2,hk=>by
  simp at h1 h2;subst h1;subst h2;show bindC kindOf ((p,w)::P.zip vs) m p=_;unfold bindC;rw[nV λv hv=>(List.nodup_cons.mp nd).1 (List.of_mem_zip hv).1,if_neg hk];simp
 | p::P,w::vs,i+1,m,nd,h1,h2,hk=>by
  show bindC kindOf ((p,w)::P.zip vs) m x=_;unfold bindC;exact bindC_get (i:=i) (List.nodup_cons.mp nd).2 (by simpa using h1) (by simpa using h2) hk
noncomputable def uK(N:List Str)(vs:List V):St:=vs.map some++List.replicate (N.length-vs.length) none
noncomputable def cxOf(CX:CXT)(P:Program)(w:World)(K:PySem.W.Frag)(mg:Str->Option Value)(base:Heap)(N:List Str)(qual:Str)(scope:Scope)(f:Addr)(cd:Value)(A:Around)(outer:List Env)(s:Shared)(H:Hp)(E:XK):Cx where
 prog:=P
 w:=w
 K:=K
 mg:=mg
 base:=base
 A:=A.deeper (envOfC qual scope s.heap.objs.size f cd)
 N:=N
 s₀:=s
 H₀:=H
 env:=envOfC qual scope s.heap.objs.size f cd
 outer:=outer
 stack:=envOfC qual scope s.heap.objs.size f cd::outer
 ex:=[]
 calm:=true
 fn:=λ_=>true
 pn:=[]
 xe:=λe s'=>wpAny (model P w) (A.deeper (envOfC qual scope s.heap.objs.size f cd)) (leaving (envOfC qual scope s.heap.objs.size f cd) e) (λ_ s''=>CX outer H s E e s'') (λe' s''=>CX outer H s E e' s'') s'
theorem cell_has{sc:Scope}{n:Nat}{x:Str}(h:sc.names.lookup x=some .cell):∃c,(cellsFrom n sc.names []).lookup x=some c:=by
 have q:=PySem.W.cellsFrom_some sc.names n [] (.inl h);exact Option.isSome_iff_exists.mp q
theorem inv_start{CX:CXT}{P:Program}{w:World}{K:PySem.W.Frag}{mg:Str->Option Value}{base:Heap}{N ps:List Str}{qual:Str}{scope:Scope}{f:Addr}{cd:Value}{A:Around}{outer:List Env}{s s1:Shared}{H:Hp}{E:XK}{us:List Value}{vs:List V}
  (S:FnScope N ps scope) (hd:A.handled=none) (e0:Env0 P w K mg base A outer s H) (hl:vs.length=ps.length) (r:Vals vs us)
  (x:InCallC s s.heap.objs.size (bindL (envOfC qual scope s.heap.objs.size f cd).kindOf (ps.zip us) λ_=>none) (cellsFrom (s.heap.objs.size+1) scope.names []) (bindC (envOfC qual scope s.heap.objs.size f cd).kindOf (ps.zip us) λ_=>none) s1) :
  Inv (cxOf CX P w K mg base N qual scope f cd A outer s H E) [] (uK N vs) H s1:=by
 have hpl:ps.length<=N.length:=by have:=congrArg List.length S.pre;rw[List.length_take]at this;omega
 obtain⟨h1,tk,rfl,hk⟩:=x.done;have noA:∀b:Addr,b∉(cxOf CX P w K mg base N qual scope f cd A outer s H E).ex:=λb z=>absurd (show b∈([]:List Addr)from z) (by simp);refine⟨⟨e0.mod,S.kind,rfl,rfl,Nat.le_refl _,λy z c h1 h2=>?_,λy hy=>?_,λy c _ h=>?_,λ_=>hd,Around.frames_deeper e0.frames,.inr ⟨rfl,rfl⟩,λb z=>absurd z (noA b),e0.bs,e0.bsz,λb _ _=>noA b,λb z=>absurd z (noA b),e0.funs,e0.frf⟩,
  rfl,e0.bare,Un.kept hk,⟨_,x.toInCall.ns,λi y v h1 h2 h3=>?_⟩,λy c h=>⟨_,x.cell y c h⟩,e0.hok.fresh (Nat.le_refl _),λy c h=>?_,λp hp=>absurd (show p∈([]:List (Addr×Obj))from hp) (by simp),e0.hok.kept hk, ?_⟩
 ·exact name_of_addr x.apart (PySem.mem_of_lookup h1) (PySem.mem_of_lookup h2)
 ·have hy:scope.names.lookup y=some .cell∨scope.names.lookup y=some .free:=hy;rcases hy with hy | hy
  ·exact cell_has hy
  ·exact absurd rfl (S.nofree _ (PySem.mem_of_lookup hy))
 ·exact Nat.le_of_lt (x.above y c (PySem.mem_of_lookup h))
 ·have hi:i<vs.length:=by
   unfold uK at h2;by_cases hi:i<vs.length
   ·exact hi
   ·rw[List.getElem?_append_right (by simpa using hi)]at h2;rw[List.getElem?_replicate]at h2;split at h2<;>cases h2
  have ha:vs[i]? = some v:=by
   unfold uK at h2;rw[List.getElem?_append_left (by simpa using hi),List.getElem?_map]at h2;cases e:vs[i]? with
   | none=>rw[e]at h2;cases h2
   | some a=>rw[e]at h2;cases h2;rfl
  obtain⟨u,hu,rv⟩:=r.get ha;have hp:ps[i]? = some y:=by
   rw[<-S.pre,List.getElem?_take_of_lt (by omega)];exact h1
  have ndP:ps.Nodup:=by rw[<-S.pre];exact S.nd.sublist (List.take_sublist _ _)
  refine⟨u,rv, ?_⟩;rcases S.par y (List.mem_of_getElem? hp)with k | k
  ·exact .inl ⟨k,nU ndP hp hu k⟩
  ·obtain⟨c,e⟩:=cell_has (n:=s.heap.objs.size+1) k;refine .inr ⟨.inl k,c,e, ?_⟩;have q:=x.cell y c e;rw[bindC_get ndP hp hu (by show scope.names.lookup y≠_;rw[k];decide)]at q;exact q
 ·exact e0.hok.fresh (Nat.le_of_lt (x.above y c (PySem.mem_of_lookup h)))
 ·unfold uK;show _=N.length;rw[List.length_append,List.length_map,List.length_replicate];omega
theorem fn_of{CX:CXT}{P:Program}{w:World}{K:PySem.W.Frag}{mg:Str->Option Value}{base:Heap}{k:Nat}{f:Addr}{name qual:Str}{params:Arguments}{body:List Stmt}{scope:Scope}{dV kV doc pm cdv ct oc:Value}{an od:Option Addr}
  {osl:Array (Option Value)} {N ps:List Str} {sp:Sp} (lk:K.lookup f=some ⟨oc,od,.func (PySem.W.fnOf name qual params body scope dV kV doc pm an cdv ct),osl⟩) (hcd:PySem.W.codeIn K cdv qual=true) (S:FnScope N ps scope)
  (len:∀vs H Q E,sp vs H Q E->vs.length=ps.length)
  (hbody:∀(A:Around) (outer:List Env) (s:Shared) (H:Hp) (vs:List V) (Q:VK) (E:XK),Room k (A.deeper (envOfC qual scope s.heap.objs.size f cdv))->sp vs H Q E->
   ∃t,PSs (cxOf CX P w K mg base N qual scope f cdv A outer s H E) body t/\t { nx:=λ_ H'=>Q .non H',rt:=Q } (uK N vs) H) :
  FnOk P w K mg base CX (k+1) f (PySem.W.fnOf name qual params body scope dV kV doc pm an cdv ct) ps sp:=by
 refine⟨len,λA outer s H args us vs Q E hr e0 hb r hsp=>?_⟩;have hl:=len _ _ _ _ hsp;have KX:K.In s.heap:=e0.mod.kin.keeps λb o e=>(e0.bs b o e).1;have lim:s.heap.NoLimit:=e0.mod.nolimit.keeps λb o e=>(e0.bs b o e).1;have hkind:∀y∈ps.zip us,scope.names.lookup y.1=some .local∨(scope.names.lookup y.1=some .cell/\((cellsFrom (s.heap.objs.size+1) scope.names []).lookup y.1).isSome=true):=λ⟨n,v⟩ hy=>by
  rcases S.par n (List.of_mem_zip hy).1 with q | q
  ·exact .inl q
  ·exact .inr ⟨q,PySem.W.cellsFrom_some _ _ _ (.inl q)⟩
 refine codeAny_call_function hr.depth (KX _ _ lk) rfl S.co S.gen rfl (PySem.W.codeRec_of KX hcd) (hb _ _ _ _ ?_);refine wpAny_newFunctionEnv_cells S.kind hkind λenv he s1 x=>?_;subst he;refine⟨lim.keeps x.toInCall.keep,codeAny_func ?_⟩;obtain⟨t,ht,hq⟩:=hbody A outer s H vs Q E (hr.deeper _) hsp;have I:Inv (cxOf CX P w K mg base N qual scope f cdv A outer s H E) [] (uK N vs) H s1:=inv_start S hr.hd e0 hl r x;refine wpAny_mono (ht [] s1 (uK N vs) H _ I hq) (λfl s' hs=>?_) λe s' hs=>hs;have fin:∀{σ':St} {H':Hp} {v:V} {u:Value},Inv (cxOf CX P w K mg base N qual scope f cdv A outer s H E) [] σ' H' s'->RelV v u->Q v H'->CE outer P w H s Q u s':=
  fun {σ' H' v u} J rv q=>⟨v,H',J.os,J.bare,J.base,J.hok,rv,q⟩
 cases fl with
 | ret u=>
  obtain⟨v,σ',H',J,rv,q⟩:=hs;exact fin J rv q
 | next=>
  obtain⟨σ',H',J,q⟩:=hs;exact fin (v:=V.non) (u:=Value.none) J rfl q
 | brk=>
  obtain⟨_,_,_,q⟩:=hs;exact False.elim q
 | cont=>
  obtain⟨_,_,_,q⟩:=hs;exact False.elim q
end L2
namespace L2
open PySem PySem.Spec PyProof.Rows
section
variable{X:Cx}{x:Str}{p pos:Pos}{e:Expr}{es:List Expr}{t:TA}{id T:String}{r:List V->Hp->VK->Prop}
noncomputable def tCB(r:List V->Hp->VK->Prop)(t:TA):TE:=fun σ H Q=>t σ H λvs H1=>r vs H1 Q
theorem kA(hc:CallR X (.builtin id) r)(hg:Gl X x)(hm:X.mg x=none)(hv:bootBuiltins x=some (.builtin id))(ha:PA X (e::es) t)(hn:x≠"__name__":=by decide)(hdb:(x==("__debug__" :Str))=false:=by decide)
  (he:starEach (e::es) X.env=(false,eval e X.env)::starEach es X.env:=by rfl) (hpl:(backTo pos (starEach es X.env)).any (·.1)=false:=by rfl):PE X (.Call (.Name x p) (e::es) [] pos) (tCB r t):=by
 intro pins s σ H Q I h;refine wpAny_Call_Name_kw (xA I hg hm hv ?_ hn hdb);exact PyProof.Rows.callWith_builtin1 (thn (ha pos pins s σ H _ I h) λus s1 ⟨vs,H1,I1,r1,q1⟩=>hc pins s1 σ H1 vs us Q I1 r1 q1) he hpl
theorem vL(hc:CallR X (.type T) r)(hg:Gl X x)(hm:X.mg x=none)(hv:bootBuiltins x=some (.type T))(ha:PA X (e::es) t)(hn:x≠"__name__":=by decide)(hdb:(x==("__debug__" :Str))=false:=by decide)
  (he:starEach (e::es) X.env=(false,eval e X.env)::starEach es X.env:=by rfl) (hpl:(backTo pos (starEach es X.env)).any (·.1)=false:=by rfl):PE X (.Call (.Name x p) (e::es) [] pos) (tCB r t):=by
 intro pins s σ H Q I h;refine wpAny_Call_Name_kw (xA I hg hm hv ?_ hn hdb);exact PyProof.Rows.callWith_type1 (thn (ha pos pins s σ H _ I h) λus s1 ⟨vs,H1,I1,r1,q1⟩=>hc pins s1 σ H1 vs us Q I1 r1 q1) he hpl
end
end L2
namespace HT
open PySem PyProof.Rows
section
open PySem.SeqAt
open PySem.AutoSeq1 (wpAny_loadPart')
open PySem.MeetsSeq PySem.MeetsSeq2 PySem.MeetsSeq3
end
section
variable{prog:Program}{w:World}{A:Around}{E:Value->Shared->Prop}{s:Shared}
noncomputable def sIx(n d:Nat):Option Int->Nat
 | none=>d
 | some v=>if v<0 then(v+(n:Int)).toNat else min v.toNat n
theorem sIx_none(n d:Nat):sIx n d none=d:=rfl
theorem sIx_nat(n d k:Nat):sIx n d (some (k:Int))=min k n:=by
 show(if (k:Int)<0 then((k:Int)+(n:Int)).toNat else min (k:Int).toNat n)=min k n;rw[if_neg (by omega),Int.toNat_natCast]
end
end HT
namespace L2
open PySem PySem.Spec PyProof.Rows
noncomputable abbrev TO:=St->Hp->(Option Int->Hp->Prop)->Prop
noncomputable def PO(X:Cx)(e:Option Expr)(t:TO):Prop:=
 ∀(pins:List (Addr×Obj)) (s:Shared) (σ:St) (H:Hp) (Q:Option Int->Hp->Prop),Inv X pins σ H s->t σ H Q->
  wpAny (model X.prog X.w) X.A (evalPart e X.env) (λu s'=>∃o H',Inv X pins σ H' s'/\IsPart u o/\Q o H') X.xe s
noncomputable def tNoPart:TO:=λ_ H Q=>Q none H
noncomputable def tPart(t:TE):TO:=fun σ H Q=>t σ H λx H1=>∃i,x=.int i/\Q (some i) H1
theorem qX{ns:List Int} :∀{us:List Value},Vals (ns.map V.int) us->IntsAre us ns:=by
 induction ns with
 | nil=>intro us r;rw[List.map_nil]at r;cases r;exact .nil
 | cons n ns ih=>
  intro us r;rw[List.map_cons]at r;cases r with
  | cons r1 r2=>
   obtain⟨t,e⟩:=r1;subst e;exact .cons n t (ih r2)
section
variable{X:Cx}{e:Expr}{te:TE}{lo hi:Option Expr}{tl th:TO}{pos p2:Pos}
theorem qA:PO X none tNoPart:=by
 intro pins s σ H Q I h;rw[evalPart_none];exact wpAny_pure ⟨none,H,I,.none,h⟩
theorem kX(h:PE X e te):PO X (some e) (tPart te):=by
 intro pins s σ H Q I hw;rw[evalPart_some];refine thn (h pins s σ H _ I hw) λu s1 ⟨x,H1,I1,r1,q1⟩=>?_;obtain⟨i,rfl,q⟩:=q1;obtain⟨t,rfl⟩:=r1;exact⟨some i,H1,I1,.int i t,q⟩
noncomputable def SlR(X:Cx)(r:V->Option Int->Option Int->Hp->VK->Prop):Prop:=
 ∀(pins:List (Addr×Obj)) (s:Shared) (σ:St) (H:Hp) (x:V) (v vl vu:Value) (lo hi:Option Int) (sl:Addr) (Q:VK),Inv X pins σ H s->RelV x v->s.heap.IsSliceOf sl vl vu .none->IsPart vl lo->IsPart vu hi->r x lo hi H Q->
  ∃T id,typeLookup (.type T) "__getitem__" = pure (some (.builtin id))/\s.TypeIs v T/\wpAny (model X.prog X.w) X.A (getItem v (.ref sl)) (EP X pins σ Q) X.xe s
noncomputable def tSl(r:V->Option Int->Option Int->Hp->VK->Prop)(te:TE)(tl th:TO):TE:=fun σ H Q=>te σ H λx H1=>tl σ H1 λl H2=>th σ H2 λu H3=>r x l u H3 Q
theorem kL{r:V->Option Int->Option Int->Hp->VK->Prop}(hr:SlR X r)(he:PE X e te)(hl:PO X lo tl)(hu:PO X hi th):PE X (.Subscript e (.Slice lo hi none p2) pos) (tSl r te tl th):=by
 intro pins s σ H Q I h;refine Subscript_ (thn (he pins s σ H _ I h) λv s1 ⟨x,H1,I1,r1,q1⟩=>?_);refine wpAny_Slice (thn (hl pins s1 σ H1 _ I1 q1) λvl s2 ⟨l,H2,I2,pl,q2⟩=>thn (hu pins s2 σ H2 _ I2 q2) λvu s3 ⟨u,H3,I3,pu,q3⟩=>?_);rw[evalPart_none];refine wpAny_pure ?_;have I4:Inv X pins σ H3 { s3 with heap:=s3.heap.push { cls:=.type "slice",data:=.fields #[vl,vu,.none] } } :=I3.kept (t':=s3.toks) λb ob q=>Heap.get?_push_of_some _ q;obtain⟨T,id,hT,ht,hg⟩:=hr pins { s3 with heap:=s3.heap.push { cls:=.type "slice",data:=.fields #[vl,vu,.none] } } σ H3 x v vl vu l u s3.heap.objs.size Q I4 r1 (Heap.IsSliceOf.new ..) pl pu q3;show wpAny (model X.prog X.w) X.A (subscriptTail e (.Slice lo hi none p2) v (.ref s3.heap.objs.size)) (EP X pins σ Q) X.xe { s3 with heap:=s3.heap.push { cls:=.type "slice",data:=.fields #[vl,vu,.none] } };exact tail_any (ops:=[.ref s3.heap.objs.size,v]) ht hT hg (by with_unfolding_all rfl)
noncomputable def cutV(xs:List V)(lo hi:Option Int):List V:=(xs.drop (HT.sIx xs.length 0 lo)).take (HT.sIx xs.length xs.length hi-HT.sIx xs.length 0 lo)
theorem cutV_length(xs:List V)(lo hi:Option Int):(cutV xs lo hi).length<=xs.length:=by
 unfold cutV;rw[List.length_take,List.length_drop];omega
end
end L2
namespace L2
open PySem PySem.Spec PyProof.Rows
noncomputable def ixN(n:Nat)(i:Int):Option Nat:=if 0<=i then(if i<n then some i.toNat else none)else if -(n:Int)<=i then some (i+n).toNat else none
noncomputable def atI{α:Type}(xs:List α)(i:Int):Option α:=(ixN xs.length i).bind λj=>xs[j]?
theorem ixN_seq{n:Nat}{i:Int}{j:Nat}(h:ixN n i=some j):seqIndex? i n=some j/\j<n/\-(n:Int)<=i/\i<n:=by
 unfold ixN at h;by_cases h0:0<=i
 ·rw[if_pos h0]at h;by_cases h1:i<n
  ·rw[if_pos h1]at h;have e:i.toNat=j:=Option.some.inj h;exact⟨by rw[seqIndex_of h0 h1,e],by omega,by omega,h1⟩
  ·rw[if_neg h1]at h;cases h
 ·rw[if_neg h0]at h;by_cases h1: -(n:Int)<=i
  ·rw[if_pos h1]at h;have e:(i+n).toNat=j:=Option.some.inj h;exact⟨by rw[seqIndex_neg (by omega) h1,e],by omega,h1,by omega⟩
  ·rw[if_neg h1]at h;cases h
theorem atI_get{α:Type}{xs:List α}{i:Int}{v:α}(h:atI xs i=some v):∃j,seqIndex? i xs.length=some j/\xs[j]? = some v/\j<xs.length/\-(xs.length:Int)<=i/\i<xs.length:=by
 unfold atI at h;cases e:ixN xs.length i with
 | none=>rw[e]at h;cases h
 | some j=>
  rw[e]at h;obtain⟨h1,h2,h3,h4⟩:=ixN_seq e;exact⟨j,h1,h,h2,h3,h4⟩
theorem xR{α:Type}{xs:List α}{j:Nat}{v:α}(h:xs[j]? = some v):atI xs (j:Int)=some v:=by
 have hj:j<xs.length:=(List.getElem?_eq_some_iff.mp h).1;have e:ixN xs.length (j:Int)=some j:=by
  unfold ixN;rw[if_pos (by omega),if_pos (by omega)];simp
 unfold atI;rw[e];exact h
noncomputable def PlainIx(b:Expr):Prop:=∀o i,subscripted b false o i=operate [o,i] (getItem o i)
noncomputable def IxR(X:Cx)(r:R2):Prop:=
 ∀(value slice:Expr) (pins:List (Addr×Obj)) (s:Shared) (σ:St) (H:Hp) (x y:V) (v u:Value) (Q:VK),Inv X pins σ H s->RelV x v->RelV y u->r x y H Q->
  subscripted slice false v u=operate [v,u] (getItem v u)->wpAny (model X.prog X.w) X.A (subscriptTail value slice v u) (EP X pins σ Q) X.xe s
noncomputable def MtR(X:Cx)(id:String)(r:V->List V->Hp->VK->Prop):Prop:=
 ∀(pins:List (Addr×Obj)) (s:Shared) (σ:St) (H:Hp) (x:V) (xs:List V) (v:Value) (us:List Value) (Q:VK),Inv X pins σ H s->RelV x v->Vals xs us->r x xs H Q->
  wpAny (model X.prog X.w) X.A (call (.builtin id) (v::us)) (EP X pins σ Q) X.xe s
section
variable{X:Cx}{a b:Expr}{ta tb:TE}{pos:Pos}
theorem jT{r:R2}(hr:IxR X r)(ha:PE X a ta)(hb:PE X b tb)(hs:PlainIx b):PE X (.Subscript a b pos) (tOp r ta tb):=by
 intro pins s σ H Q I h;exact Subscript_ (binT ha hb I h λv u s2 x y H2 I2 rx ry q=>hr a b pins s2 σ H2 x y v u Q I2 rx ry q (hs _ _))
noncomputable def rIxL(K:PySem.W.Frag):R2:=λx y H Q=>∃p xs i v,x=.ref p/\y=.int i/\SqL K H p xs/\atI xs i=some v/\Q v H
noncomputable def rIxT(K:PySem.W.Frag):R2:=λx y H Q=>∃p xs i v,x=.ref p/\y=.int i/\SqT K H p xs/\atI xs i=some v/\Q v H
theorem kQ:IxR X (rIxL X.K):=by
 intro value slice pins s σ H x y v u Q I rx ry h hs;obtain⟨p,xs,i,z,rfl,rfl,hq,he,q⟩:=h;cases rx;obtain⟨t,rfl⟩:=ry;obtain⟨its,r,pl,hz⟩:=I.list hq;obtain⟨j,h1,h2,h3,h4,h5⟩:=atI_get he;obtain⟨w,ew,rw'⟩:=r.get h2;have hl:=r.length;have hn:=mB;have fin:EP X pins σ Q w s:=⟨z,H,I,rw',q⟩;by_cases h0:0<=i
 ·have hj:i.toNat=j:=by
   rw[seqIndex_of h0 h5]at h1;exact Option.some.inj h1
  exact item_listR pl.isList h0 (by omega) (by rw[hj];simpa using ew) fin hs
 ·have hj:(i+(its.toArray.size:Int)).toNat=j:=by
   rw[seqIndex_neg (by omega) h4]at h1;rw[List.size_toArray,<-hl];exact Option.some.inj h1
  exact subscriptTail_builtinR (x:=w) pl.isList.typeIs slot_list_getitem.lookup
   (wpAny_getItem_list_neg (Q:=λr s'=>r=w/\EP X pins σ Q r s') pl.isList (by omega) (by rw[List.size_toArray]<;>omega) (by omega) (by rw[hj];simpa using ew) ⟨rfl,fin⟩) hs
theorem jU:IxR X (rIxT X.K):=by
 intro value slice pins s σ H x y v u Q I rx ry h hs;obtain⟨p,xs,i,z,rfl,rfl,hq,he,q⟩:=h;cases rx;obtain⟨t,rfl⟩:=ry;obtain⟨its,r,pl,hz⟩:=I.tuple hq;obtain⟨j,h1,h2,h3,h4,h5⟩:=atI_get he;obtain⟨w,ew,rw'⟩:=r.get h2;have hl:=r.length;have hn:=mB;have fin:EP X pins σ Q w s:=⟨z,H,I,rw',q⟩;exact subscriptTail_builtinR (x:=w) pl.typeIs slot_tuple_getitem.lookup
  (getItem_tuple (j:=j) (Q:=λr s'=>r=w/\EP X pins σ Q r s') pl (by omega) (by omega) (by rw[List.size_toArray,<-hl];exact h1) (by simpa using ew) ⟨rfl,fin⟩) hs
theorem mapSeq_set(its:List Value)(n j:Nat)(u:Value):Obj.mapSeq (·.setIfInBounds j u) { cls:=.type "list",data:=.seq its.toArray n } = { cls:=.type "list",data:=.seq (its.set j u).toArray n } :=by
 simp [Obj.mapSeq]
theorem Inv.lst{pins:List (Addr×Obj)}{σ:St}{H:Hp}{s:Shared}{p:Addr}{xs:List V}(I:Inv X pins σ H s)(h:H p=some (.lst xs)) :
  ∃(its:List Value) (n:Nat),Vals xs its/\s.heap.get? p=some { cls:=.type "list",data:=.seq its.toArray n }/\xs.length<=sizeLine:=by
 obtain⟨z,its,n,r,e⟩:=I.hok p _ h;exact⟨its,n,r,e,z⟩
theorem Inv.lstUpd{pins:List (Addr×Obj)}{σ:St}{H:Hp}{s:Shared}{p:Addr}{xs ys:List V}{its its':List Value}{n n':Nat}{f:Obj->Obj}(I:Inv X pins σ H s)(h:H p=some (.lst xs))
  (ho:s.heap.get? p=some { cls:=.type "list",data:=.seq its.toArray n }) (hf:f { cls:=.type "list",data:=.seq its.toArray n } = { cls:=.type "list",data:=.seq its'.toArray n' }) (r:Vals ys its') (hz:ys.length<=sizeLine) (t:Nat) :
  Inv X pins σ (upd H p (.lst ys)) { s with heap:=s.heap.update p f,toks:=t } :=by
 have e:(s.heap.update p f).get? p=some { cls:=.type "list",data:=.seq its'.toArray n' } :=by
  rw[Heap.get?_update_self f ho (by rw[hf]<;>rfl),hf]
 refine I.write (x:=p) (e:=p) (by rw[h];trivial) (.inl rfl) (λb u hb q=>(Heap.get?_update_other _ _ (Ne.symm hb)).trans q) ⟨_,e⟩ ?_;exact⟨hz,its',n',r,e⟩
noncomputable def rSetL:V->V->V->Hp->(Hp->Prop)->Prop:=λo i v H Q=>∃p xs k j,o=.ref p/\i=.int k/\H p=some (.lst xs)/\ixN xs.length k=some j/\Q (upd H p (.lst (xs.set j v)))
theorem qS:PSet X rSetL:=by
 intro pins s σ H o i v ov iv u Q I ro ri rv h;obtain⟨p,xs,k,j,rfl,rfl,hp,hj,q⟩:=h;cases ro;obtain⟨t,rfl⟩:=ri;obtain⟨its,n,r,ho,hz⟩:=I.lst hp;obtain⟨h1,h2,h3,h4⟩:=ixN_seq hj;have hl:=r.length;have hn:=mB;have I':Inv X pins σ (upd H p (.lst (xs.set j v))) { s with heap:=s.heap.update p (Obj.mapSeq (·.setIfInBounds j u)) } :=
  I.lstUpd hp ho (mapSeq_set its n j u) (r.set rv j) (by rw[List.length_set];exact hz) s.toks
 by_cases h0:0<=k
 ·have hk:k.toNat=j:=by
   rw[seqIndex_of h0 h4]at h1;exact Option.some.inj h1
  exact PySem.W.ki_setAt ho h0 (by omega) (by rw[List.size_toArray,<-hl];exact h4) (by rw[hk];exact⟨_,I',q⟩)
 ·have hk:(k+(its.toArray.size:Int)).toNat=j:=by
   rw[seqIndex_neg (by omega) h3]at h1;rw[List.size_toArray,<-hl];exact Option.some.inj h1
  exact PySem.W.ki_setBack ho (by omega) (by rw[List.size_toArray,<-hl];exact h3) (by omega) (by rw[hk];exact⟨_,I',q⟩)
theorem slice_bounds(lo hi:Option Int)(n:Nat):(sliceBounds lo hi none n).1=((HT.sIx n 0 lo:Nat):Int)/\(sliceBounds lo hi none n).2.1=((HT.sIx n n hi:Nat):Int)/\(sliceBounds lo hi none n).2.2=1:=by
 refine⟨?_, ?_,rfl⟩
 ·cases lo with
  | none=>simp [sliceBounds,HT.sIx]
  | some i=>
   simp only[sliceBounds,HT.sIx,Option.getD_none,show(1:Int)>0 by decide,if_true];by_cases h:i<0
   ·simp only[h,if_true]<;>omega
   ·simp only[h,if_false]<;>omega
 ·cases hi with
  | none=>simp [sliceBounds,HT.sIx]
  | some i=>
   simp only[sliceBounds,HT.sIx,Option.getD_none,show(1:Int)>0 by decide,if_true];by_cases h:i<0
   ·simp only[h,if_true]<;>omega
   ·simp only[h,if_false]<;>omega
theorem mR(its:List Value)(lo hi:Option Int):slicePick its.toArray lo hi none=((its.drop (HT.sIx its.length 0 lo)).take (HT.sIx its.length its.length hi-HT.sIx its.length 0 lo)).toArray:=by
 obtain⟨h1,h2,h3⟩:=slice_bounds lo hi its.toArray.size;unfold slicePick;rw[h1,h2,h3];simp only[sliceRange_one,pick_run,List.size_toArray]<;>rfl
noncomputable def rSlL(K:PySem.W.Frag):V->Option Int->Option Int->Hp->VK->Prop:=λx lo hi H Q=>∃a xs,x=.ref a/\SqL K H a xs/\∀p,H p=none->Q (.ref p) (upd H p (.lst (cutV xs lo hi)))
theorem sl_list:SlR X (rSlL X.K):=by
 intro pins s σ H x v vl vu lo hi sl Q I rx hs pl pu h;obtain⟨a,xs,rfl,hx,q⟩:=h;cases rx;obtain⟨its,r,ht,hz⟩:=I.list hx;have hlen:=r.length;refine⟨"list",_,slot_list_getitem.lookup,ht.isList.typeIs, ?_⟩;refine wpAny_getItem_list_slice ht.isList hs pl pu .none (by simp) ?_ (by rw[List.size_toArray]<;>omega);rw[mR,<-hlen];refine⟨.ref s.heap.objs.size,_,I.laid (t':=s.toks) (o:=.lst (cutV xs lo hi)) (λb ob q=>Heap.get?_push_of_some _ q) (Nat.le_refl _) ?_,rfl,q _ (I.hok.fresh (Nat.le_refl _))⟩;exact⟨Nat.le_trans (cutV_length xs lo hi) hz,_,0,(r.drop (HT.sIx xs.length 0 lo)).take (HT.sIx xs.length xs.length hi-HT.sIx xs.length 0 lo),Heap.get?_push_size _ rfl⟩
theorem kD:CallR X (.builtin "len") (λxs H Q=>∃p ys,xs=[.ref p]/\(SqL X.K H p ys∨SqT X.K H p ys)/\Q (.int ys.length) H):=by
 intro pins s σ H xs us Q I r h;obtain⟨p,ys,rfl,hq,q⟩:=h;obtain⟨u,rfl,rx⟩:=vQ r;cases rx;have hn:=mB;rcases hq with hq | hq
 ·obtain⟨its,r',pl,hz⟩:=I.list hq;have hlen:=r'.length;exact Calls.call_len_list pl.isList (by simp only[List.size_toArray]<;>omega) ⟨.int ys.length,H,I.tok _,⟨s.toks+1,by rw[List.size_toArray,hlen]⟩,q⟩
 ·obtain⟨its,r',pl,hz⟩:=I.tuple hq;have hlen:=r'.length;exact len_tuple pl (by simp only[List.size_toArray]<;>omega) ⟨.int ys.length,H,I.tok _,⟨s.toks+1,by rw[List.size_toArray,hlen]⟩,q⟩
theorem call_list_of:CallR X (.type "list") (λxs H Q=>∃p ys,xs=[.ref p]/\(SqL X.K H p ys∨SqT X.K H p ys)/\∀l,H l=none->Q (.ref l) (upd H l (.lst ys))):=by
 intro pins s σ H xs us Q I r h;obtain⟨p,ys,rfl,hq,q⟩:=h;obtain⟨u,rfl,rx⟩:=vQ r;cases rx;have fin:∀(its:List Value),Vals ys its->ys.length<=sizeLine->∀(h':Heap) (c':Nat),(∀b o',s.heap.get? b=some o'->h'.get? b=some o')->
   h'.get? s.heap.objs.size=some { cls:=.type "list",dict:=none,data:=.seq its.toArray c',slots:=#[] }->EP X pins σ Q (.ref s.heap.objs.size) { s with heap:=h' } :=λits r' hz h' c' kp e=>
  ⟨.ref s.heap.objs.size,_,I.laid (t':=s.toks) kp (Nat.le_refl _) (show ObjOk X.prog X.w _ h' _ (.lst ys)from⟨hz,its,c',r',e⟩),rfl,q _ (I.hok.fresh (Nat.le_refl _))⟩
 rcases hq with hq | hq
 ·obtain⟨its,r',pl,hz⟩:=I.list hq;have hlen:=r'.length;obtain⟨o,ho,hc,n,hd⟩:=pl.isList;exact call_list_seq p (.inl rfl) ho hc hd (λh' c' kp e=>fin its r' hz h' c' kp e) (by simp only[List.size_toArray]<;>omega)
 ·obtain⟨its,r',pl,hz⟩:=I.tuple hq;have hlen:=r'.length;obtain⟨o,ho,hc,n,hd⟩:=pl;exact call_list_seq p (.inr rfl) ho hc hd (λh' c' kp e=>fin its r' hz h' c' kp e) (by simp only[List.size_toArray]<;>omega)
theorem zQ:CallR X (.type "tuple") (λxs H Q=>∃p ys,xs=[.ref p]/\((SqL X.K H p ys/\∀l,H l=none->Q (.ref l) (upd H l (.tup ys)))∨(SqT X.K H p ys/\Q (.ref p) H))):=by
 intro pins s σ H xs us Q I r h;obtain⟨p,ys,rfl,h⟩:=h;obtain⟨u,rfl,rx⟩:=vQ r;cases rx;rcases h with⟨hq,q⟩ | ⟨hq,q⟩
 ·obtain⟨its,r',pl,hz⟩:=I.list hq;have hlen:=r'.length;refine call_tuple_list pl.isList (λh' kp=>?_) (by simp only[List.size_toArray]<;>omega);have I1:Inv X pins σ H { s with heap:=h' } :=I.kept (t':=s.toks) kp;have I2:Inv X pins σ (upd H h'.objs.size (.tup ys)) { s with heap:=h'.push { cls:=.type "tuple",data:=.seq its.toArray } } :=
   I1.laid (t':=s.toks) (λb o e=>Heap.get?_push_of_some _ e) (Nat.le_refl _) (show ObjOk X.prog X.w _ _ _ (.tup ys)from⟨hz,its,r',IsTup.new _ _⟩)
  exact⟨.ref h'.objs.size,_,I2,rfl,q _ (I1.hok.fresh (Nat.le_refl _))⟩
 ·obtain⟨its,r',pl,hz⟩:=I.tuple hq;exact call_tuple_same pl ⟨.ref p,H,I,rfl,q⟩
noncomputable def tyV(K:PySem.W.Frag)(T:String)(x:V)(H:Hp):Prop:=match x with
 | .str _=>T="str"
 | .int _=>T="int"
 | .ref p=>(T="list"/\∃xs,SqL K H p xs)∨(T="tuple"/\∃o,K.lookup p=some o/\o.cls=.type "tuple"/\o.dict=none)∨
   (T="dict"/\((∃kvs,H p=some (.dK kvs))∨∃kvs,H p=some (.dT kvs)))∨(T="set"/\∃S n,H p=some (.set S n))
 | _=>False
theorem tyV_is{pins:List (Addr×Obj)}{σ:St}{H:Hp}{s:Shared}{T:String}{x:V}{v:Value}(I:Inv X pins σ H s)(r:RelV x v)(ty:tyV X.K T x H) :
  s.TypeIs v T/\∀a,v=.ref a->∃ob,s.heap.get? a=some ob/\ob.dict=none:=by
 cases x with
 | str z=>
  obtain⟨t,rfl⟩:=r;cases (show T="str" from ty);exact⟨typeIs_str s z t,λ_ e=>nomatch e⟩
 | int i=>
  obtain⟨t,rfl⟩:=r;cases (show T="int" from ty);exact⟨typeIs_int s i t,λ_ e=>nomatch e⟩
 | ref p=>
  cases r;rcases ty with⟨rfl,xs,hq⟩ | ⟨rfl,o,hk,hc,hd⟩ | ⟨rfl,hk⟩ | ⟨rfl,S,n,hk⟩
  ·obtain⟨its,_,pl,_⟩:=I.list hq;refine⟨pl.isList.typeIs,λa e=>?_⟩;cases e;obtain⟨o,n,e,c,hd,_⟩:=pl;exact⟨o,e,hd⟩
  ·refine⟨⟨o,I.kIn p o hk,hc⟩,λa e=>?_⟩;cases e;exact⟨o,I.kIn _ o hk,hd⟩
  ·have z:∃o,s.heap.get? p=some o/\o.ExactDict:=by
    rcases hk with⟨kvs,hk⟩ | ⟨kvs,hk⟩
    ·obtain⟨_,_,_,_,o,_,_,e,ex,_⟩:=I.hok p _ hk;exact⟨o,e,ex⟩
    ·obtain⟨_,_,_,_,o,_,_,e,ex,_⟩:=I.hok p _ hk;exact⟨o,e,ex⟩
   obtain⟨o,e,ex⟩:=z;refine⟨⟨o,e,ex.1⟩,λa e2=>?_⟩;cases e2;exact⟨o,e,ex.2.1⟩
  ·obtain⟨o,_,_,_,e,ex,_⟩:=I.hok p _ hk;refine⟨⟨o,e,ex.1⟩,λa e2=>?_⟩;cases e2;exact⟨o,e,ex.2.1⟩
 | _=>exact False.elim ty
noncomputable def tBM0(K:PySem.W.Frag)(T:String)(r:V->List V->Hp->VK->Prop)(to:TE):TE:=fun σ H Q=>to σ H λx H1=>tyV K T x H1/\r x [] H1 Q
noncomputable def tBM(K:PySem.W.Frag)(T:String)(r:V->List V->Hp->VK->Prop)(to:TE)(t:TA):TE:=fun σ H Q=>to σ H λx H1=>tyV K T x H1/\t σ H1 λxs H2=>r x xs H2 Q
variable{o e:Expr}{es:List Expr}{to:TE}{t:TA}{name:Str}{apos cpos:Pos}{T id:String}{r:V->List V->Hp->VK->Prop}
theorem pe_bm0(pa:PlainAttrs T)(slot:Slot T name id)(hty:typeOf (.builtin id)=pure (.type "method_descriptor"))(hm:MtR X id r)(ho:PE X o to)
  (hbase:attributeBase o name X.env (eval o X.env)=eval o X.env:=by rfl) (hline:(apos.endLine==cpos.line)=true:=by rfl):PE X (.Call (.Attribute o name apos) [] [] cpos) (tBM0 X.K T r to):=by
 intro pins s σ H Q I h;refine wpAny_Call_method0_late hbase hline (thn (ho pins s σ H _ I h) λv s1 ⟨x,H1,I1,r1,ty,q1⟩=>?_);obtain⟨h1,h2⟩:=tyV_is I1 r1 ty;exact⟨T,id,pa,slot,hty,h1,h2,Calls.callWith_builtin rfl (PySem.evalArgs_none (hm pins s1 σ H1 x [] v [] Q I1 r1 .nil q1))⟩
theorem pe_bm(pa:PlainAttrs T)(slot:Slot T name id)(hty:typeOf (.builtin id)=pure (.type "method_descriptor"))(hm:MtR X id r)(ho:PE X o to)(ha:PA X (e::es) t)
  (hbase:attributeBase o name X.env (eval o X.env)=eval o X.env:=by rfl)
  (hfew:((backTo cpos (starEach (e::es) X.env)).all (λx=>!x.1)&&(backToKw cpos (keywordEach [] X.env)).all (λx=>x.1.isSome)
   &&decide ((e::es).length+([]:List Keyword).length+(if ([]:List Keyword).isEmpty then 0 else 1)<30))=true:=by rfl)
  (hline:(apos.endLine==cpos.line)=true:=by rfl) (hs:starEach (e::es) X.env=(false,eval e X.env)::starEach es X.env:=by rfl) (hplain:(backTo cpos (starEach es X.env)).any (·.1)=false:=by rfl) :
  PE X (.Call (.Attribute o name apos) (e::es) [] cpos) (tBM X.K T r to t):=by
 intro pins s σ H Q I h;refine wpAny_Call_method_late hbase hfew hline rfl (thn (ho pins s σ H _ I h) λv s1 ⟨x,H1,I1,r1,ty,q1⟩=>?_);obtain⟨h1,h2⟩:=tyV_is I1 r1 ty;refine⟨T,id,pa,slot,hty,h1,h2, ?_⟩;have hA:=ha cpos pins s1 σ H1 _ I1 q1;rw[hs]at hA ⊢;refine Calls.callWith_builtin (by show(false||(backTo cpos (starEach es X.env)).any (·.1))=false;rw[hplain]<;>rfl) (Calls.evalArgs_plain ?_);exact thn hA λus s2 ⟨vs,H2,I2,r2,q2⟩=>hm pins s2 σ H2 x vs v us Q I2 r1 r2 q2
end
end L2
namespace L2
open PySem PySem.Spec PyProof.Rows
noncomputable def MtM(X:Cx)(id:String)(r:V->List V->Hp->VK->Prop):Prop:=
 ∀(pins:List (Addr×Obj)) (s:Shared) (σ:St) (H:Hp) (x:V) (xs:List V) (v:Value) (us:List Value) (Q:VK),Inv X pins σ H s->RelV x v->Vals xs us->r x xs H Q->
  wpAny (model X.prog X.w) X.A (call (.builtin id) (v::us)) (EP X pins σ Q) X.xe s
theorem Vals.one:∀{x:V} {us:List Value},Vals [x] us->∃u,us=[u]/\RelV x u
 | _,_,.cons r .nil=>⟨_,rfl,r⟩
section
variable{X:Cx}{pins:List (Addr×Obj)}{σ:St}{H:Hp}{s:Shared}{l b:Addr}{xs ys zs:List V}
theorem Inv.lset{its its':List Value}{n:Nat}{f:Array Value->Array Value}{t':Nat}(I:Inv X pins σ H s)(hH:H l=some (.lst xs))
  (e:s.heap.get? l=some { cls:=.type "list",data:=.seq its.toArray n }) (hf:f its.toArray=its'.toArray) (hv:Vals ys its') (hz:ys.length<=sizeLine) :
  Inv X pins σ (upd H l (.lst ys)) { s with heap:=s.heap.update l (Obj.mapSeq f),toks:=t' } :=by
 have q:=PySem.IsL.update e f;rw[hf]at q;refine I.write (x:=l) (e:=l) (by rw[hH];exact trivial) (.inl rfl) (λb' u hb hu=>(Heap.get?_update_other s.heap (Obj.mapSeq f) (Ne.symm hb)).trans hu) ⟨_,q⟩ ?_;exact⟨hz,its',_,hv,q⟩
theorem Inv.lnew{its:List Value}{t':Nat}(I:Inv X pins σ H s)(hv:Vals ys its)(hz:ys.length<=sizeLine) :
  Inv X pins σ (upd H s.heap.objs.size (.lst ys)) { s with heap:=s.heap.push { cls:=.type "list",data:=.seq its.toArray },toks:=t' } :=
 I.laid (λ_ _ q=>Heap.get?_push_of_some _ q) (Nat.le_refl _) ⟨hz,its,0,hv,Heap.get?_push_size _ rfl⟩
theorem Inv.fresh(I:Inv X pins σ H s):H s.heap.objs.size=none:=I.hok.fresh (Nat.le_refl _)
theorem Inv.lstM(I:Inv X pins σ H s)(hH:H l=some (.lst xs)):xs.length<=sizeLine/\∃(its:List Value) (n:Nat),Vals xs its/\xs.length=its.length/\s.heap.get? l=some { cls:=.type "list",data:=.seq its.toArray n } :=by
 obtain⟨z,its,n,r,e⟩:=I.hok l _ hH;exact⟨z,its,n,r,r.length,e⟩
theorem notLongL{n:Nat}(h:n<=sizeLine):Builtin.List.listTooLong n=false:=by
 unfold Builtin.List.listTooLong;exact decide_eq_false (by omega)
end
section
variable{X:Cx}
noncomputable def rAppend:V->List V->Hp->VK->Prop:=λx vs H Q=>∃l xs y,x=.ref l/\vs=[y]/\H l=some (.lst xs)/\xs.length<sizeLine/\Q .non (upd H l (.lst (xs++[y])))
theorem xF:MtM X "list.append" rAppend:=by
 intro pins s σ H x vs v us Q I rx rv h;obtain⟨l,xs,y,rfl,rfl,hH,hz,q⟩:=h;cases rx;obtain⟨u,rfl,ru⟩:=rv.one;obtain⟨z,its,n,r,hl,e⟩:=I.lstM hH;refine call_meets F.slot_list_append ⟨_,e,rfl⟩ F.entry_list_append (F.args_list_append_2 _ _) (PySem.list_append l its.toArray n u (by rw[List.size_toArray];omega)) ⟨e, ?_⟩;refine⟨.non,_,I.lset (its':=its++[u]) hH e (by simp) (r.append (.cons ru .nil)) ?_,rfl,q⟩;rw[List.length_append,List.length_singleton];omega
noncomputable def rExtend:V->List V->Hp->VK->Prop:=λx vs H Q=>∃l b xs zs,x=.ref l/\vs=[.ref b]/\H l=some (.lst xs)/\H b=some (.lst zs)/\xs.length+zs.length<=sizeLine/\Q .non (upd H l (.lst (xs++zs)))
theorem mt_extend:MtM X "list.extend" rExtend:=by
 intro pins s σ H x vs v us Q I rx rv h;obtain⟨l,b,xs,zs,rfl,rfl,hH,hB,hz,q⟩:=h;cases rx;obtain⟨u,rfl,ru⟩:=rv.one;cases ru;obtain⟨z,its,n,r,hl,e⟩:=I.lstM hH;obtain⟨z2,its2,n2,r2,hl2,e2⟩:=I.lstM hB;have hsz:its.toArray.size+its2.toArray.size<=sizeLine:=by rw[List.size_toArray,List.size_toArray];omega
 have hlong:¬(!its.toArray.isEmpty&&Builtin.List.listTooLong (its.toArray.size+its2.toArray.size))=true:=by
  rw[notLongL hsz,Bool.and_false];exact Bool.false_ne_true
 refine call_meets F.slot_list_extend ⟨_,e,rfl⟩ F.entry_list_extend (F.args_list_extend_2 _ _)
  (AutoSeq1.list_extend_list_list_0 l its.toArray n b its2.toArray n2 hlong (by rw[List.size_toArray];omega) (by omega)) ⟨e,e2, ?_⟩
 refine⟨.non,_,I.lset (its':=its++its2) hH e (by simp) (r.append r2) ?_,rfl,q⟩;rw[List.length_append];omega
noncomputable def rCat:R2:=λx y H Q=>∃l b xs zs,x=.ref l/\y=.ref b/\H l=some (.lst xs)/\H b=some (.lst zs)/\xs.length+zs.length<=sizeLine/\∀p,H p=none->Q (.ref p) (upd H p (.lst (xs++zs)))
theorem op_cat:OpR X (binaryOp .Add) rCat:=by
 intro pins s σ H x y v u Q I rx ry h;obtain⟨l,b,xs,zs,rfl,rfl,hH,hB,hz,q⟩:=h;cases rx;cases ry;obtain⟨z,its,n,r,hl,e⟩:=I.lstM hH;obtain⟨z2,its2,n2,r2,hl2,e2⟩:=I.lstM hB;refine PySem.P.add_list e e2 ?_ (by rw[List.size_toArray,List.size_toArray];omega);have ea:its.toArray++its2.toArray=(its++its2).toArray:=by simp
 rw[ea];exact⟨.ref _,_,I.lnew (t':=s.toks) (r.append r2) (by rw[List.length_append];omega),rfl,q _ I.fresh⟩
end
section
variable{prog:Program}{w:World}{A:Around}{E:Value->Shared->Prop}{s:Shared}
set_option maxRecDepth 100000 in
end
section
variable{X:Cx}
end
end L2
namespace Att
open PySem PySem.W PySem.Calls PyProof.Rows
theorem uS{P:Params}{h:Heap} :∀(ns:List Int) (vs:List Value),WellAll P h vs (ns.map WData.int)->IntsAre vs ns:=by
 intro ns;induction ns with
 | nil=>
  intro vs w;rw[List.map_nil]at w;cases w;exact .nil
 | cons n ns ih=>
  intro vs w;rw[List.map_cons]at w;cases w with
  | cons a b=>
   cases a;exact .cons _ _ (ih _ b)
theorem script_of{l:OpenLaw}{n:Nat}(hn:l.most=some n){P:Params}{h:Heap}{args:List WData}{vals:List Value}
  (hpre:l.row.toRowW.claim.pre args=true) (hwl:WellAll P h vals args) :
  ∃a vs ns,vals=[Value.ref a]/\args=[WData.list (ns.map WData.int)]/\h.get? a=some { cls:=.type "list",data:=.seq vs.toArray }/\IntsAre vs ns/\ns.length<=n:=by
 have hsh:WShape.hasAll [] args [.list .int]=true:=(pre_splitW hpre).1;have hc:l.pre.holds [] { args:=args } = true:=(pre_splitW hpre).2;obtain⟨d,r,rfl,h1,h2⟩:=hasAllW_cons hsh;obtain rfl:=hasAllW_nil h2;obtain⟨xs,rfl,h3⟩:=hasW_list h1;obtain⟨ns,rfl⟩:=items_int h3;have hlen:ns.length<=n:=by
  unfold OpenLaw.pre at hc;have h4:(WTm.not (.lt (.lit (.int (n:Int))) (.len (.arg 0)))).holds [] { args:=[.list (ns.map .int)] } = true:=by
   have h4:=(holds_andW hc).1;rw[hn]at h4;exact h4
  have h5:=condW_of h4 (w_not (w_lt w_lit (w_len_list (w_arg rfl))));rw[List.length_map]at h5;refine Nat.le_of_not_lt λq=>?_;have q':(n:Int)<((ns.length:Nat):Int):=by omega
  first
   | (rw[decide_eq_true q']at h5;exact absurd h5 (by decide))
   | (simp at h5;omega)
 cases hwl with
 | cons w1 w2=>
  cases w2;cases w1 with
  | list ho hall=>exact⟨_,_,ns,rfl,rfl,ho,uS ns _ hall,hlen⟩
theorem post_true(l:OpenLaw)(args:List WData):l.row.toRowW.claim.post args (.bool true) args=true:=
 postW_of (r:=l.row.toRowW) (X:=(true==true))
  (show WShape.has [] (.bool true) .bool=true by first | rfl | decide | simp [WShape.has,WShape.arms,WShape.armsAll])
  (show(WTm.eq .res (.lit (.bool true))).value [] { args:=args,res:=some (.bool true),after:=args } = some (.bool (true==true))from w_eq_bool (w_res rfl) w_lit) rfl
theorem attach_call{l:OpenLaw}{n:Nat}{q:Program}{loose:List Str}{XP:(Str->Option Value)->Heap->Prop}{YP:World->Heap->Prop}{d:DefRec}
  (hn:l.most=some n) (hdf:d.params.defaults=[])
  (call:∀(w:World) (s₀ s₁:Shared) (mg mb:Str->Option Value) (fa:Addr) (o:Obj) (pm cd doc:Value) (a:Addr) (vs:List Value) (ns:List Int),
   Ground q loose [] XP w s₀ mg mb s₁.heap->YP w s₁.heap->
   s₁.heap.get? fa=some o->o.data=.func (docDef d.name d.params d.body d.scope pm cd doc)->s₁.heap.CodeRec cd d.name->mg d.name=some (.ref fa)->
   s₁.heap.get? a=some { cls:=.type "list",data:=.seq vs.toArray }->IntsAre vs ns->ns.length<=n->s₁.gens = #[]->
   codeAny (model l.prog w) callerA (.call (.ref fa) ⟨[.ref a],[]⟩) (λr s'=>r=.ok (.ret (.bool true))/\OldK s₁.heap s'.heap/\s'.os=s₁.os/\AllBare s'.gens) s₁) :
  WalkO q loose XP YP l.row.toRowW d [] (λf vs=>PySem.call f vs):=by
 intro w s₀ s₁ mg mb G Y fa o pm cd doc dV kV ho hd hcd hD hmg hg args vals as hpre hlay hrd hwl hlo;obtain rfl:dV=.none:=Dflts.none hD hdf;obtain rfl:kV=.none:=Dflts.noKw hD;obtain⟨a,vs,ns,rfl,rfl,hobj,hints,hlen⟩:=script_of hn hpre hwl;refine enter_call (codeAny_mono (call w s₀ s₁ mg mb fa o pm cd doc a vs ns G Y ho (fd_plain hd) hcd hmg hobj hints hlen hg) λr s' hq=>?_);obtain⟨rfl,h2,h3,h4⟩:=hq;exact⟨.inl ⟨.bool true,.bool true,[],rfl,λ_=>rfl,.bool true,post_true l _,λ_=>⟨List.Pairwise.nil,λ_ hm=>(nomatch hm)⟩⟩,h2,h3,h4⟩
section
variable{prog:Program}{w:World}{A:Around}{E:Value->Shared->Prop}{s:Shared}{K:Frag}
end
end Att
namespace L2
open PySem PySem.Spec PyProof.Rows
theorem mU:∀{vs:List Value} {ns:List Int},IntsAre vs ns->Vals (ns.map V.int) vs
 | _,_,.nil=>.nil
 | _,_,.cons n t h=>.cons ⟨t,rfl⟩ (mU h)
noncomputable def Only(H:Hp):Prop:=∀b,H b=none∨∃o xs,H b=some (.frz o (.lst xs))
theorem law_call{P:Program}{w:World}{K:PySem.W.Frag}{mg mb:Str->Option Value}{CX:CXT}{k:Nat}{fa a:Addr}{fd:FuncData}{x:Str}{sp:Sp}{s₁:Shared}{vs:List Value}{ns:List Int}
  (KX:K.In s₁.heap) (hns:s₁.heap.Ns mainGlobals mg) (hb:s₁.heap.Ns builtinsNs mb) (hbb:∀x:Str,x≠"__name__"->mb x=bootBuiltins x) (hlim:s₁.heap.NoLimit) (hg:s₁.gens = #[])
  (ha:s₁.heap.get? a=some { cls:=.type "list",data:=.seq vs.toArray }) (hi:IntsAre vs ns) (hl:ns.length<=sizeLine) (hr:Room k callerA)
  (F:∀base:Heap,K.In base->base.Ns mainGlobals mg->FnOk P w K mg base CX k fa fd [x] sp) (hbind:∀(s:Shared) (u:Value),BindsTo s fd ⟨[u],[]⟩ [(x,u)])
  (hsp:∀H:Hp,Only H->SqL K H a (ns.map V.int)->sp [.ref a] H (λv _=>v=.bl true) λ_ _ _=>False)
  (hCX:∀H e s',CX [] H s₁ (λ_ _ _=>False) e s'->False) :
  codeAny (model P w) callerA (.call (.ref fa) ⟨[.ref a],[]⟩) (λr s'=>r=.ok (.ret (.bool true))/\OldK s₁.heap s'.heap/\s'.os=s₁.os/\AllBare s'.gens) s₁:=by
 have rv:=mU hi;have lenV:=hi.length;have core:∀H:Hp,Only H->SqL K H a (ns.map V.int)->HOk P w H s₁.heap->(∀b,H b≠none->b=a)->(H a≠none->K.lookup a=none)->
   codeAny (model P w) callerA (.call (.ref fa) ⟨[.ref a],[]⟩) (λr s'=>r=.ok (.ret (.bool true))/\OldK s₁.heap s'.heap/\s'.os=s₁.os/\AllBare s'.gens) s₁:=by
  intro H hO hS hok hA hK;have base_of:∀{b:Addr} {o:Obj},s₁.heap.get? b=some o->H b=none->(hidT s₁.heap H).get? b=some o:=λe n=>hidT_get e n;have noA:∀{b:Addr} {o:Obj} {es:Array DictEntry} {ep:Nat},s₁.heap.get? b=some o->o.data=.dict es ep->H b=none:=fun {b o es ep} e d=>by
   cases q:H b with
   | none=>rfl
   | some u=>
    have e':b=a:=hA b (by rw[q];simp);subst e';rw[ha]at e;cases e;have d':Data.seq vs.toArray _=Data.dict es ep:=d;cases d'
  have nsK:∀{b:Addr} {m:Str->Option Value},s₁.heap.Ns b m->(hidT s₁.heap H).Ns b m:=fun {b m} ⟨o,es,ep,e,d,r⟩=>⟨o,es,ep,base_of e (noA e d),d,r⟩;have hKb:K.In (hidT s₁.heap H):=λb o e=>base_of (KX b o e) (by
   cases q:H b with
   | none=>rfl
   | some u=>
    have e':b=a:=hA b (by rw[q];simp);subst e';rw[hK (by rw[q];simp)]at e;cases e)
  have hM:Mod K mg (hidT s₁.heap H):=⟨hKb,nsK hns,⟨mb,nsK hb,hbb⟩,let ⟨mc,h1,h2⟩:=hlim;⟨mc,nsK h1,h2⟩⟩;have e0:Env0 P w K mg (hidT s₁.heap H) callerA [] s₁ H:=⟨rfl,hM,λb o e=>of_hidT e,Nat.le_of_eq (hidT_size _ _),trivial,λb hb=>absurd (show b∈([]:List Addr)from hb) (by simp),hok,.of_eq hg⟩;refine codeAny_mono ((F _ hKb (nsK hns)).run callerA [] s₁ H ⟨[.ref a],[]⟩ [.ref a] [.ref a] _ _ hr e0 (hbind s₁ (.ref a)) (.cons rfl .nil) (hsp H hO hS)) λr s' h=>?_;cases r with
  | error e=>exact(hCX H e s' h).elim
  | ok fl=>
   cases fl with
   | next=>exact False.elim h
   | brk=>exact False.elim h
   | cont=>exact False.elim h
   | ret u=>
    obtain⟨v,H',os,bare,un,hok',r',q⟩:=h;have q':v=.bl true:=q;subst q';obtain rfl:u=Value.bool true:=r';refine⟨rfl,OldK.of_keep λb o e=>?_,os,bare⟩;cases q:H b with
    | none=>exact un.keep b o e q (by intro z;exact absurd (show b∈([]:List Addr)from z) (by simp)) (by simp)
    | some u=>
     rcases hO b with z | ⟨ob,xs,z⟩
     ·rw[q]at z;cases z
     ·have z2:=un.frzs b ob _ z;obtain⟨e1,_⟩:=hok b _ z;obtain⟨e2,_⟩:=hok' b _ z2;rw[e]at e1;cases e1;exact e2
 cases hk:K.lookup a with
 | some o=>
  have e:=KX a o hk;rw[ha]at e;cases e;refine core (λ_=>none) (λ_=>.inl rfl) (.inr ⟨_,vs.toArray,_,hk,rfl,rfl,rfl,by rw[List.size_toArray,lenV];exact hl,by simpa using rv⟩) (λb u z=>by have z':(none:Option HO)=some u:=z;cases z') (λb z=>absurd rfl z) λz=>absurd rfl z
 | none=>
  refine core (λb=>if b=a then some (.frz { cls:=.type "list",data:=.seq vs.toArray } (.lst (ns.map V.int)))else none) (λb=>?_) (.inl (.inr ⟨{ cls:=.type "list",data:=.seq vs.toArray },if_pos rfl⟩)) (λb u z=>?_) (λb z=>?_) λ_=>hk
  ·by_cases hb:b=a
   ·exact .inr ⟨_,_,if_pos hb⟩
   ·exact .inl (if_neg hb)
  ·by_cases hb:b=a
   ·have z':=(if_pos hb).symm.trans z;cases z';subst hb;exact⟨ha,by rw[List.length_map];exact hl,vs,_,rv,ha⟩
   ·have z':=(if_neg hb).symm.trans z;cases z'
  ·by_cases hb:b=a
   ·exact hb
   ·exact absurd (if_neg hb) z
end L2
namespace L2
open PySem PySem.Spec PyProof.Rows
theorem walk_of{l:PySem.W.OpenLaw}{n k:Nat}{q:Program}{loose:List Str}{XP:(Str->Option Value)->Heap->Prop}{YP:World->Heap->Prop}{d:DefRec}{K:Params->PySem.W.Frag}{CX:World->CXT}{sp:World->Sp}{x:Str}
  (hn:l.most=some n) (hn2:n<=sizeLine) (hdf:d.params.defaults=[]) (hr:Room k callerA)
  (hY:∀(w:World) (h:Heap),YP w h->(K w.params).In h)
  (F:∀(w:World) (mg:Str->Option Value) (fa:Addr) (h:Heap),(K w.params).In h->h.Ns mainGlobals mg->mg d.name=some (.ref fa)->
   ∃fd:FuncData,(∀(s:Shared) (u:Value),BindsTo s fd ⟨[u],[]⟩ [(x,u)])/\
    ∀base:Heap,(K w.params).In base->base.Ns mainGlobals mg->FnOk l.prog w (K w.params) mg base (CX w) k fa fd [x] (sp w))
  (hsp:∀(w:World) (H:Hp) (a:Addr) (ns:List Int),ns.length<=n->Only H->SqL (K w.params) H a (ns.map V.int)->sp w [.ref a] H (λv _=>v=.bl true) λ_ _ _=>False)
  (hCX:∀(w:World) (H:Hp) (s:Shared) (e:Value) (s':Shared),CX w [] H s (λ_ _ _=>False) e s'->False) :
  PySem.W.WalkO q loose XP YP l.row.toRowW d [] (λf vs=>PySem.call f vs):=by
 refine Att.attach_call hn hdf λw s₀ s₁ mg mb fa o pm cd doc a vs ns G Y ho hd hcd hmg hobj hints hlen hg=>?_;have KX:=hY w _ Y;obtain⟨fd,hb,hF⟩:=F w mg fa _ KX G.T.g hmg;exact law_call KX G.T.g G.T.b G.T.builtins G.T.nolimit hg hobj hints (Nat.le_trans hlen hn2) hr hF hb (λH hO hS=>hsp w H a ns hlen hO hS) λH e s'=>hCX w H s₁ e s'
end L2
namespace L2
open PySem PySem.Spec PyProof.Rows
noncomputable abbrev CX0:CXT:=λ_ _ _ _ _ _=>False
noncomputable abbrev E0:XK:=λ_ _ _=>False
theorem jL{X:Cx} :Passes CX0 X E0:=λ_ _ _ _ _ _ _ h=>h.elim
structure Fun(K:PySem.W.Frag)(x qual:Str)(st:Stmt)(f:Addr)(fd:FuncData):Prop where
 ex:∃(oc:Value) (od:Option Addr) (kV doc pm:Value) (an:Option Addr) (cdv ct:Value) (osl:Array (Option Value)),
  fd=PySem.W.fnOf x qual (xQ st) (xE st) (jO st) .none kV doc pm an cdv ct/\K.lookup f=some ⟨oc,od,.func fd,osl⟩/\PySem.W.codeIn K cdv qual=true
 kp:PySem.W.keepIn K (.ref f)=true
section
variable{P:Program}{w:World}{K:PySem.W.Frag}{mg:Str->Option Value}{base:Heap}
theorem Fun.ok{x qual:Str}{st:Stmt}{f:Addr}{fd:FuncData}{N ps:List Str}{k:Nat}{sp:Sp}(F:Fun K x qual st f fd)(S:FnScope N ps (jO st))(len:∀vs H Q E,sp vs H Q E->vs.length=ps.length)
  (hbody:∀(cdv:Value) (A:Around) (outer:List Env) (s:Shared) (H:Hp) (vs:List V) (Q:VK) (E:XK),Room k (A.deeper (envOfC qual (jO st) s.heap.objs.size f cdv))->sp vs H Q E->
   ∃t,PSs (cxOf CX0 P w K mg base N qual (jO st) f cdv A outer s H E).nox (xE st) t/\t { nx:=λ_ H'=>Q .non H',rt:=Q } (uK N vs) H):FnOk P w K mg base CX0 (k+1) f fd ps sp:=by
 obtain⟨oc,od,kV,doc,pm,an,cdv,ct,osl,rfl,lk,hcd⟩:=F.ex;refine fn_of lk hcd S len λA outer s H vs Q E hr hsp=>?_;obtain⟨t,h,q⟩:=hbody cdv A outer s H vs Q E hr hsp;exact⟨t,h.nox,q⟩
theorem Fun.binds{x qual:Str}{st:Stmt}{f:Addr}{fd:FuncData}{ps:List Str}(F:Fun K x qual st f fd)
  (h:∀(kV doc pm:Value) (an:Option Addr) (cdv ct:Value) (us:List Value),us.length=ps.length->bindArgs (PySem.W.fnOf x qual (xQ st) (xE st) (jO st) .none kV doc pm an cdv ct) ⟨us,[]⟩=pure (ps.zip us)):Binds K fd ps []:=by
 obtain⟨oc,od,kV,doc,pm,an,cdv,ct,osl,rfl,lk,hcd⟩:=F.ex;exact .all (h kV doc pm an cdv ct)
theorem fun_mk{x qual:Str}{st:Stmt}{f:Addr}{oc:Value}{od an:Option Addr}{osl:Array (Option Value)}{kV doc pm cdv ct:Value}(l:K.lookup f=some ⟨oc,od,.func (PySem.W.fnOf x qual (xQ st) (xE st) (jO st) .none kV doc pm an cdv ct),osl⟩)
  (c:PySem.W.codeIn K cdv qual=true) (k:PySem.W.keepIn K (.ref f)=true):Fun K x qual st f (PySem.W.fnOf x qual (xQ st) (xE st) (jO st) .none kV doc pm an cdv ct):=⟨⟨oc,od,kV,doc,pm,an,cdv,ct,osl,rfl,l,c⟩,k⟩
end
section
variable{X:Cx}
theorem pv(i:Nat){x:Str}{pos:Pos}(hN:X.N[i]? = some x:=by rfl)(hv:Vis X.env.scope x:=by first | exact Or.inl rfl | exact Or.inr (Or.inl rfl) | exact Or.inr (Or.inr rfl))(hd:(x==("__debug__" :Str))=false:=by decide)
  (hcd:(x==("__classdict__" :Str))=false:=by decide):PE X (.Name x pos) (tVar i):=pe_var hN hv hd hcd
end
theorem iteF{A B:Prop}(h:B):if false=true then A else B:=by
 rw[if_neg Bool.false_ne_true];exact h
theorem iteT{A B:Prop}(h:A):if true=true then A else B:=by
 rw[if_pos rfl];exact h
theorem ite2{c A B:Prop} [Decidable c](h1:c->A)(h2:¬c->B):if c then A else B:=by
 by_cases h:c
 ·rw[if_pos h];exact h1 h
 ·rw[if_neg h];exact h2 h
noncomputable def Same(H H':Hp):Prop:=∀b o,H b=some o->H' b=some o
theorem Same.refl(H:Hp):Same H H:=λ_ _ h=>h
theorem Same.trans{H H1 H2:Hp}(a:Same H H1)(b:Same H1 H2):Same H H2:=λc o h=>b c o (a c o h)
theorem Same.free{H H':Hp}(e:Same H H'){l:Addr}(h:H' l=Option.none):H l=Option.none:=by
 cases q:H l with
 | none=>rfl
 | some o=>
  rw[e l o q]at h;cases h
end L2
namespace LwM
theorem qY{a b c:Int}(h:Int.gcd a b=1)(d:c∣b):Int.gcd a c=1:=by
 have:=Int.gcd_dvd_gcd_of_dvd_right a d;rw[h]at this;exact Nat.eq_one_of_dvd_one this
theorem yM{a b c:Int}(h:Int.gcd a b=1)(d:c∣a):Int.gcd c b=1:=by
 rw[Int.gcd_comm]at h ⊢;exact qY h d
theorem add_low{t b o u:Int}(hb:0<b)(hu:0<u)(g1:Int.gcd t b=1)(g2:Int.gcd o u=1) :
  (t*(u/(Int.gcd b u:Int))+o*(b/(Int.gcd b u:Int)))/(Int.gcd (t*(u/(Int.gcd b u:Int))+o*(b/(Int.gcd b u:Int))) (Int.gcd b u):Int)=(t*u+o*b)/(Int.gcd (t*u+o*b) (b*u):Int)/\
  (b/(Int.gcd b u:Int))*(u/(Int.gcd (t*(u/(Int.gcd b u:Int))+o*(b/(Int.gcd b u:Int))) (Int.gcd b u):Int))=(b*u)/(Int.gcd (t*u+o*b) (b*u):Int):=by
 have sp:0<Int.gcd b u:=Int.gcd_pos_of_ne_zero_left _ (by omega);have c1:Int.gcd (b/(Int.gcd b u:Int)) (u/(Int.gcd b u:Int))=1:=Int.gcd_ediv_gcd_ediv_gcd sp;have d1:(Int.gcd b u:Int)∣b:=Int.gcd_dvd_left ..;have d2:(Int.gcd b u:Int)∣u:=Int.gcd_dvd_right ..;have e1:(Int.gcd b u:Int)*(b/(Int.gcd b u:Int))=b:=Int.mul_ediv_cancel' d1;have e2:(Int.gcd b u:Int)*(u/(Int.gcd b u:Int))=u:=Int.mul_ediv_cancel' d2;have sp':(0:Int)<(Int.gcd b u:Int):=by omega
 generalize hs:(Int.gcd b u:Int)=s at *;generalize hb':b/s=b' at *;generalize hu':u/s=u' at *;generalize hT:t*u'+o*b'=T at *;have v1:b'∣b:=⟨s,by rw[Int.mul_comm];exact e1.symm⟩;have v2:u'∣u:=⟨s,by rw[Int.mul_comm];exact e2.symm⟩;have x1:t*u+o*b=s*T:=by
  rw[<-hT,Int.mul_add,<-Int.mul_assoc,<-Int.mul_assoc,Int.mul_comm s t,Int.mul_comm s o,Int.mul_assoc,Int.mul_assoc,e1,e2]
 have x2:b*u=s*(b'*u):=by rw[<-Int.mul_assoc,e1]
 have x3:b'*u=s*b'*u':=by rw[Int.mul_comm s b',Int.mul_assoc,e2]
 have y1:Int.gcd T b'=1:=by
  rw[<-hT,Int.gcd_add_mul_right_left,Int.gcd_mul_right_left_of_gcd_eq_one (qY g1 v1),Int.gcd_comm];exact c1
 have y2:Int.gcd T u'=1:=by
  rw[<-hT,Int.add_comm,Int.gcd_add_mul_right_left,Int.gcd_mul_right_left_of_gcd_eq_one (qY g2 v2)];exact c1
 have z:Int.gcd T (b'*u)=Int.gcd T s:=by
  rw[x3,Int.gcd_mul_left_right_of_gcd_eq_one y2,Int.gcd_mul_left_right_of_gcd_eq_one y1]
 have g:(Int.gcd (t*u+o*b) (b*u):Int)=s*(Int.gcd T s:Int):=by
  rw[x1,x2,Int.gcd_mul_left,z,Int.natCast_mul,Int.natAbs_of_nonneg (by omega)]
 rw[g];refine⟨?_, ?_⟩
 ·rw[x1,Int.mul_ediv_mul_of_pos _ _ sp']
 ·rw[x2,Int.mul_ediv_mul_of_pos _ _ sp'];exact(Int.mul_ediv_assoc _ (Int.dvd_trans (Int.gcd_dvd_right ..) d2)).symm
theorem mul_low{t b o u:Int}(hb:0<b)(hu:0<u)(g1:Int.gcd t b=1)(g2:Int.gcd o u=1) :
  (t/(Int.gcd t u:Int))*(o/(Int.gcd o b:Int))=(t*o)/(Int.gcd (t*o) (b*u):Int)/\
  (b/(Int.gcd o b:Int))*(u/(Int.gcd t u:Int))=(b*u)/(Int.gcd (t*o) (b*u):Int):=by
 have fp:0<Int.gcd t u:=Int.gcd_pos_of_ne_zero_right _ (by omega);have sp:0<Int.gcd o b:=Int.gcd_pos_of_ne_zero_right _ (by omega);have c1:=Int.gcd_ediv_gcd_ediv_gcd fp;have c2:=Int.gcd_ediv_gcd_ediv_gcd sp;have e1:(Int.gcd t u:Int)*(t/(Int.gcd t u:Int))=t:=Int.mul_ediv_cancel' (Int.gcd_dvd_left ..);have e2:(Int.gcd t u:Int)*(u/(Int.gcd t u:Int))=u:=Int.mul_ediv_cancel' (Int.gcd_dvd_right ..);have e3:(Int.gcd o b:Int)*(o/(Int.gcd o b:Int))=o:=Int.mul_ediv_cancel' (Int.gcd_dvd_left ..);have e4:(Int.gcd o b:Int)*(b/(Int.gcd o b:Int))=b:=Int.mul_ediv_cancel' (Int.gcd_dvd_right ..);have fp':(0:Int)<(Int.gcd t u:Int):=by omega
 have sp':(0:Int)<(Int.gcd o b:Int):=by omega
 generalize (Int.gcd t u:Int)=f at *;generalize (Int.gcd o b:Int)=s at *;generalize t/f=t' at *;generalize u/f=u' at *;generalize o/s=o' at *;generalize b/s=b' at *;have v1:t'∣t:=⟨f,by rw[Int.mul_comm];exact e1.symm⟩;have v2:u'∣u:=⟨f,by rw[Int.mul_comm];exact e2.symm⟩;have v3:o'∣o:=⟨s,by rw[Int.mul_comm];exact e3.symm⟩;have v4:b'∣b:=⟨s,by rw[Int.mul_comm];exact e4.symm⟩;have x1:t*o=(f*s)*(t'*o'):=by
  rw[<-e1,<-e3];simp only[Int.mul_assoc,Int.mul_left_comm,Int.mul_comm]
 have x2:b*u=(f*s)*(b'*u'):=by
  rw[<-e2,<-e4];simp only[Int.mul_assoc,Int.mul_left_comm,Int.mul_comm]
 have n1:Int.gcd (t'*o') b'=1:=by
  rw[Int.gcd_mul_right_left_of_gcd_eq_one (yM (qY g1 v4) v1)];exact c2
 have n2:Int.gcd (t'*o') u'=1:=by
  rw[Int.gcd_mul_right_left_of_gcd_eq_one c1];exact yM (qY g2 v2) v3
 have n3:Int.gcd (t'*o') (b'*u')=1:=by
  rw[Int.gcd_mul_right_right_of_gcd_eq_one n1];exact n2
 have fs:(0:Int)<f*s:=Int.mul_pos fp' sp';have g:(Int.gcd (t*o) (b*u):Int)=f*s:=by
  rw[x1,x2,Int.gcd_mul_left,n3,Nat.mul_one,Int.natAbs_of_nonneg (by omega)]
 rw[g,x1,x2,Int.mul_ediv_cancel_left _ (by omega),Int.mul_ediv_cancel_left _ (by omega)];exact⟨rfl,rfl⟩
end LwM
namespace LwM
theorem gcd_step(a b:Int):Int.gcd b (a%b)=Int.gcd a b:=by
 rw[Int.emod_def,Int.mul_comm b,Int.gcd_sub_mul_right_right,Int.gcd_comm]
theorem qQ(a b:Int)(h:0<b):(1:Int)<=(Int.gcd a b:Int):=by
 have:0<Int.gcd a b:=Int.gcd_pos_of_ne_zero_right _ (by omega);omega
theorem gcd_le(a b:Int)(h:0<b):(Int.gcd a b:Int)<=b:=Int.le_of_dvd h (Int.gcd_dvd_right a b)
theorem low_same(t b:Int)(h:0<b):(t/(Int.gcd t b:Int)=t/\b/(Int.gcd t b:Int)=b)↔Int.gcd t b=1:=by
 have g1:=qQ t b h;constructor
 ·rintro⟨_,h2⟩;by_cases g:Int.gcd t b=1
  ·exact g
  ·exfalso;have g2:(2:Int)<=(Int.gcd t b:Int):=by omega
   have:=Int.ediv_lt_of_lt_mul (a:=b) (b:=b) (c:=(Int.gcd t b:Int)) (by omega) (by
    have:b*2<=b*(Int.gcd t b:Int):=Int.mul_le_mul_of_nonneg_left g2 (by omega);omega)
   omega
 ·intro g;rw[g];simp
theorem wY(t g:Int)(h:1<=g):(t/g).natAbs<=t.natAbs:=by
 rcases Int.lt_or_le t 0 with n | n
 ·have h1:t/g<0:=Int.ediv_neg_of_neg_of_pos n (by omega);have h2:t<=t/g:=by
   rw[Int.le_ediv_iff_mul_le (by omega)];have:=Int.mul_le_mul_of_nonpos_left (a:=t) (b:=g) (c:=1) (by omega) h;omega
  omega
 ·have h1:0<=t/g:=Int.ediv_nonneg n (by omega);have h2:t/g<=t:=Int.ediv_le_self g n;omega
theorem log2_lt{n:Nat}{k:Nat}(hk:0<k)(h:n<2^k):n.log2<k:=by
 by_cases e:n=0
 ·subst e;simpa using hk
 ·exact(Nat.log2_lt e).mpr h
end LwM
namespace Lw
open PySem PySem.Spec PyProof.Rows L2
inductive Kd where
 | non | bl | int | str | lst | tup
 deriving DecidableEq
noncomputable def Kd.ty:Kd->String
 | .non=>"NoneType" | .bl=>"bool" | .int=>"int" | .str=>"str" | .lst=>"list" | .tup=>"tuple"
inductive KdOf(H:Hp):V->Kd->Prop where
 | non:KdOf H .non .non
 | bl (b:Bool):KdOf H (.bl b) .bl
 | int (i:Int):KdOf H (.int i) .int
 | str (x:Str):KdOf H (.str x) .str
 | lst {a:Addr} {xs:List V} (e:H a=some (.lst xs)):KdOf H (.ref a) .lst
 | tup {a:Addr} {xs:List V} (e:H a=some (.tup xs)):KdOf H (.ref a) .tup
theorem KdOf.ty{K:PySem.W.Frag}{H:Hp}{v:V}{k:Kd}(h:KdOf H v k):TyOf K H v (.type k.ty):=by
 cases h with
 | non=>exact .non
 | bl b=>exact .bl b
 | int i=>exact .int i
 | str x=>exact .str x
 | lst e=>exact .lst e
 | tup e=>exact .tup e
noncomputable def Kd.isInt:Kd->Bool
 | .int=>true | .bl=>true | _=>false
noncomputable def Kd.isBool:Kd->Bool
 | .bl=>true | _=>false
noncomputable def Kd.isTup:Kd->Bool
 | .tup=>true | _=>false
noncomputable def Isi(T:String)(f:Kd->Bool):Prop:=∀(K:PySem.W.Frag) (k:Kd),PySem.W.kitOne K (.type k.ty) (.type T)=some (f k)
theorem isi_int:Isi "int" Kd.isInt:=λK k=>by cases k<;>rfl
theorem isi_bool:Isi "bool" Kd.isBool:=λK k=>by cases k<;>rfl
theorem isi_tup:Isi "tuple" Kd.isTup:=λK k=>by cases k<;>rfl
section
variable{X:Cx}
noncomputable def rIsi(T:String)(f:Kd->Bool):List V->Hp->VK->Prop:=λxs H Q=>match xs with
 | [x,y]=>y=.ty T/\∃k,KdOf H x k/\Q (.bl (f k)) H
 | _=>False
theorem call_isi{T:String}{f:Kd->Bool}(hf:Isi T f):CallR X (.builtin "isinstance") (rIsi T f):=by
 intro pins s σ H xs us Q I r h
 match xs,h with
 | [x,y],h=>
  obtain⟨rfl,k,ty,q⟩:=h;obtain⟨u,w',rfl,ru,rw'⟩:=vals2 r;cases (show w'=Value.type T from rw');exact isinst_ok I ru (ty.ty) (hf X.K k) λtk=>⟨.bl (f k),H,I.tok tk,rfl,q⟩
theorem yB{T:String}{f:Kd->Bool}{x:Str}{e:Expr}{te:TE}{p p2 pos:Pos}(hf:Isi T f)(hm:X.mg "isinstance" = none)(hm2:X.mg x=none)(hb:bootBuiltins x=some (.type T))(he:PE X e te)
  (hg:Gl X "isinstance":=by rfl) (hg2:Gl X x:=by rfl) (hn:x≠"__name__":=by decide) (hd:(x==("__debug__" :Str))=false:=by decide)
  (hs:starEach [e,.Name x p2] X.env=(false,eval e X.env)::starEach [.Name x p2] X.env:=by rfl) (hs2:starEach [.Name x p2] X.env=(false,eval (.Name x p2) X.env)::starEach [] X.env:=by rfl)
  (hpl:(backTo pos (starEach [.Name x p2] X.env)).any (·.1)=false:=by rfl):PE X (.Call (.Name "isinstance" p) [e,.Name x p2] [] pos) (tCB (rIsi T f) (kT te (kT (tC (.ty T)) tNil))):=
 kA (X:=X) (p:=p) (pos:=pos) (call_isi hf) hg hm boot_isinstance (jA he (jA (pe_bltn (v:=.ty T) hg2 hm2 hb rfl hn hd) jC hs2) hs) (by decide) (by decide) hs hpl
theorem vI:∀{vs:List Value} {ns:List Int} {j:Nat} (_:IntsAre vs ns) (h:j<vs.length),∃n t,ns[j]? = some n/\vs[j]=.int n t
 | _,_,_,.nil,h=>absurd h (Nat.not_lt_zero _)
 | _,_,0,.cons n t _,_=>⟨n,t,rfl,rfl⟩
 | _,_,j+1,.cons _ _ r,h=>by
  obtain⟨n,t,e1,e2⟩:=vI (j:=j) r (by simpa using h);exact⟨n,t,by simpa using e1,by simpa using e2⟩
theorem vO:∀{vs:List Value} {ns:List Int},IntsAre vs ns->vs.length=ns.length
 | _,_,.nil=>rfl
 | _,_,.cons _ _ r=>by simp [vO r]
theorem all_eq(ns ms:List Int):((List.range (min ns.length ms.length)).all (λj=>decide (ns[j]? = ms[j]?))&&ns.length==ms.length)=decide (ns=ms):=by
 by_cases e:ns=ms
 ·subst e;simp
 ·rw[decide_eq_false e];by_cases hl:ns.length=ms.length
  ·rw[Bool.and_eq_false_iff]
   left
   rw[<-Bool.not_eq_true];intro h;apply e;rw[List.all_eq_true]at h;apply List.ext_getElem?;intro j;by_cases hj:j<ns.length
   ·exact of_decide_eq_true (h j (List.mem_range.mpr (by omega)))
   ·rw[List.getElem?_eq_none (by omega),List.getElem?_eq_none (by omega)]
  ·simp [hl]
noncomputable def rEqT(K:PySem.W.Frag):R2:=λx y H Q=>∃(a b:Addr) (ns ms:List Int),x=.ref a/\y=.ref b/\SqT K H a (ns.map V.int)/\SqT K H b (ms.map V.int)/\Q (.bl (decide (ns=ms))) H
theorem op_eqT(hu:X.A.units<cLine):OpR X (compareOp .Eq) (rEqT X.K):=by
 intro pins s σ H x y v u Q I rx ry h;obtain⟨a,b,ns,ms,rfl,rfl,ha,hb,q⟩:=h;cases rx;cases ry;obtain⟨its,r1,p1,_⟩:=I.tuple ha;obtain⟨its2,r2,p2,_⟩:=I.tuple hb;have i1:IntsAre its ns:=qX r1;have i2:IntsAre its2 ms:=qX r2;refine SeqAt.eq_tupleAt (e:=λj=>decide (ns[j]? = ms[j]?)) p1 p2 hu (λj h1 h2=>?_) ?_
 ·obtain⟨n,t,e1,e2⟩:=vI (j:=j) i1 (by simpa using h1);obtain⟨m,t',e3,e4⟩:=vI (j:=j) i2 (by simpa using h2);have e5:its.toArray[j]=.int n t:=by simpa using e2
  have e6:its2.toArray[j]=.int m t':=by simpa using e4
  rw[e5,e6];have e7:decide (ns[j]? = ms[j]?)=(n==m):=by
   rw[e1,e3];by_cases e:n=m<;>simp [e]
  rw[e7];exact SeqAt.EqAt.int_int _ _ _ _
 ·have e8:=all_eq ns ms;rw[List.size_toArray,List.size_toArray,vO i1,vO i2,e8];exact⟨.bl (decide (ns=ms)),H,I,rfl,q⟩
noncomputable def CDivL(_ j:Int):Prop:=0<j/\j.natAbs<2^8000
theorem qO:OpR X (binaryOp .FloorDiv) (rI CDivL λi j=>.int (i/j)):=opI λi j _ _ _ _ _ hc q=>by
 refine floordiv_int (by have:=hc.1;omega) ?_ (.inl (PyProof.noPylong_of_log2 (Nat.lt_of_lt_of_le (LwM.log2_lt (by decide) hc.2) (by decide))));rw[Int.fdiv_eq_ediv_of_nonneg _ (Int.le_of_lt hc.1)];exact q
noncomputable def CMulL(i j:Int):Prop:=i.natAbs<2^100000/\j.natAbs<2^100000
theorem kB:OpR X (binaryOp .Mult) (rI CMulL λi j=>.int (i*j)):=opI λ_ _ _ _ _ _ _ hc q=>mul_int q (IntMulOk.of_bits (Nat.le_trans (PySem.intBits_le_iff.mpr hc.1) (by decide)) (Nat.le_trans (PySem.intBits_le_iff.mpr hc.2) (by decide)))
end
theorem iteP{c:Bool}{A B:Prop}(h:c=true)(a:A):if c=true then A else B:=by
 rw[if_pos h];exact a
theorem iteN{c:Bool}{A B:Prop}(h:c=false)(b:B):if c=true then A else B:=by
 subst h;exact iteF b
theorem kK{t k:TS}{D:Ends}{σ:L2.St}{H:Hp}(J:L2.St->Hp->Prop)(h2:∀σ H,J σ H->k D σ H)(h1:(∀σ H,J σ H->k D σ H)->t { D with nx:=k D } σ H):tSeq t k D σ H:=h1 h2
noncomputable def But(p:Addr)(H H':Hp):Prop:=∀c o,H c=some o->c≠p->H' c=some o
theorem But.refl(p:Addr)(H:Hp):But p H H:=λ_ _ h _=>h
theorem But.trans{p:Addr}{H H1 H2:Hp}(a:But p H H1)(b:But p H1 H2):But p H H2:=λc o h n=>b c o (a c o h n) n
theorem But.upd(p:Addr)(H:Hp)(o:HO):But p H (upd H p o):=λc _ h n=>by
 rw[jQ n];exact h
theorem But.of{p:Addr}{H H':Hp}(s:Same H H'):But p H H':=λc o h _=>s c o h
theorem kH{H:Hp}{p:Addr}(o:HO)(n:H p=none):Same H (upd H p o):=λb q e=>by
 rw[jQ (kY e n)];exact e
theorem fresh{H:Hp}{o:HO}{Q:VK}(h:∀p H',H p=none->Same H H'->H' p=some o->Q (.ref p) H'):∀p,H p=none->Q (.ref p) (upd H p o):=
 λp n=>h p _ n (kH o n) jK
noncomputable def New(H:Hp)(o:HO)(Q:VK):Prop:=∀p H',H p=none->Same H H'->H' p=some o->Q (.ref p) H'
theorem New.at{H:Hp}{o:HO}{Q:VK}(h:New H o Q){p:Addr}(n:H p=none):Q (.ref p) (upd H p o):=h p _ n (kH o n) jK
section
variable{X:Cx}{es:List Expr}{t:TA}{pos:Pos}
noncomputable def tTupF(t:TA):TE:=fun σ H Q=>t σ H λxs H1=>xs.length<=sizeLine/\New H1 (.tup xs) Q
noncomputable def tLstF(t:TA):TE:=fun σ H Q=>t σ H λxs H1=>xs.length<=sizeLine/\New H1 (.lst xs) Q
theorem jV{x1}(h:PA X es t):PE X (.Tuple es x1 pos) (tTupF t):=by
 intro pins s σ H Q I hq;refine wpAny_Tuple_spliced (thn (h pos pins s σ H _ I hq) λus s1 ⟨xs,H1,I1,r,z,q⟩=>⟨by rw[<-r.length];exact z, ?_⟩);have hf:H1 s1.heap.objs.size=none:=I1.hok.fresh (Nat.le_refl _);refine⟨.ref s1.heap.objs.size,upd H1 s1.heap.objs.size (.tup xs),I1.laid (t':=s1.toks) (λb u e=>Heap.get?_push_of_some _ e) (Nat.le_refl _) ?_,rfl,q.at hf⟩;exact⟨z,us,r,⟨_,Heap.get?_push_size _ rfl,rfl,_,rfl⟩⟩
theorem kR(h:PA X es t):PE X (.List es pos) (tLstF t):=by
 intro pins s σ H Q I hq;refine wpAny_List_spliced (thn (h pos pins s σ H _ I hq) λus s1 ⟨xs,H1,I1,r,z,q⟩=>⟨by rw[<-r.length];exact z, ?_⟩);have hf:H1 s1.heap.objs.size=none:=I1.hok.fresh (Nat.le_refl _);refine⟨.ref s1.heap.objs.size,upd H1 s1.heap.objs.size (.lst xs),I1.laid (t':=s1.toks) (λb u e=>Heap.get?_push_of_some _ e) (Nat.le_refl _) ?_,rfl,q.at hf⟩;exact⟨z,us,0,r,Heap.get?_push_size _ rfl⟩
theorem opr_of{f:Value->Value->Sem Value}{r r':R2}(h:OpR X f r)(i:∀x y H Q,r' x y H Q->r x y H Q):OpR X f r':=
 λpins s σ H x y v u Q I rx ry q=>h pins s σ H x y v u Q I rx ry (i x y H Q q)
theorem callr_of{f:Value}{r r':List V->Hp->VK->Prop}(h:CallR X f r)(i:∀xs H Q,r' xs H Q->r xs H Q):CallR X f r':=
 λpins s σ H xs us Q I rv q=>h pins s σ H xs us Q I rv (i xs H Q q)
theorem slr_of{r r':V->Option Int->Option Int->Hp->VK->Prop}(h:SlR X r)(i:∀x a b H Q,r' x a b H Q->r x a b H Q):SlR X r':=
 λpins s σ H x v vl vu lo hi sl Q I rx hs pl pu q=>h pins s σ H x v vl vu lo hi sl Q I rx hs pl pu (i x lo hi H Q q)
noncomputable def rListF(K:PySem.W.Frag):List V->Hp->VK->Prop:=λxs H Q=>∃p ys,xs=[.ref p]/\(SqL K H p ys∨SqT K H p ys)/\New H (.lst ys) Q
theorem mM:CallR X (.type "list") (rListF X.K):=callr_of call_list_of λxs H Q ⟨p,ys,e,h,q⟩=>⟨p,ys,e,h,λl n=>q.at n⟩
noncomputable def rCatF:R2:=λx y H Q=>∃l b xs zs,x=.ref l/\y=.ref b/\H l=some (.lst xs)/\H b=some (.lst zs)/\xs.length+zs.length<=sizeLine/\New H (.lst (xs++zs)) Q
theorem qH:OpR X (binaryOp .Add) rCatF:=opr_of op_cat λx y H Q ⟨l,b,xs,zs,e1,e2,h1,h2,h3,q⟩=>⟨l,b,xs,zs,e1,e2,h1,h2,h3,λp n=>q.at n⟩
noncomputable def rSlLF(K:PySem.W.Frag):V->Option Int->Option Int->Hp->VK->Prop:=λx lo hi H Q=>∃a xs,x=.ref a/\SqL K H a xs/\New H (.lst (cutV xs lo hi)) Q
theorem kJ:SlR X (rSlLF X.K):=slr_of sl_list λx a b H Q ⟨p,xs,e,h1,q⟩=>⟨p,xs,e,h1,λp n=>q.at n⟩
end
end Lw
namespace Lw
open PySem PySem.Spec PyProof.Rows L2
section
variable{prog:Program}{w:World}{A:Around}{R:Result->Shared->Prop}{s:Shared}
theorem yI{elt target iter:Expr}{scope:Scope}{pos:Pos}{it acc:Value}{env:Env}(I:Nat->Shared->Prop)
  (turn:∀n s,I n s->wpAny (model prog w) A (pyNext it) (λr s₁=>match r with
   | none=>R (.ok .next) s₁
   | some v=>wpAny (model prog w) A (letOwnedTupleGo target it v) (λ_ s₁'=>wpAny (model prog w) A (assign target env v) (λ_ s₂=>wpAny (model prog w) A (eval elt env) (λx s₃=>
     wpAny (model prog w) A (call (.builtin "list.append") [acc,x]) (λ_ s₄=>∃m,m<n/\I m s₄) (notedBy (model prog w) A env λe s'=>R (.error e) s') s₃)
     (notedBy (model prog w) A env λe s'=>R (.error e) s') s₂) (notedBy (model prog w) A env λe s'=>R (.error e) s') s₁') (notedBy (model prog w) A env λe s'=>R (.error e) s') s₁) (notedBy (model prog w) A env λe s'=>R (.error e) s') s)
  (n:Nat) (h:I n s) :
  codeAny (model prog w) A (.compLoop (.ListComp elt [⟨target,iter,[],0⟩] scope pos) 0 it acc env) R s:=by
 refine codeAny_loop rfl I (λn s hI=>?_) n h;show wpAny _ _ ((compTurn (.ListComp elt [⟨target,iter,[],0⟩] scope pos) 0 it acc env).onRaise (λx=>do noteFrame x env;theTreesLotGoes x)) _ _ s;refine wpAny_noted ?_;rw[compTurn_list1];refine wpAny_bind (wpAny_standAt (wpAny_bind (wpAny_mono (turn n s hI) (λr s₁ h₁=>?_) λ_ _ h'=>h')));cases r with
 | none=>exact wpAny_pure h₁
 | some v=>
  refine wpAny_bind (wpAny_mono h₁ (λ_ s₁' h₁'=>?_) λ_ _ h'=>h');exact wpAny_bind (wpAny_mono h₁' (λ_ s₂ h₂=>wpAny_bind (wpAny_bind (wpAny_mono h₂ (λx s₃ h₃=>wpAny_bind (wpAny_mono h₃
   (λ_ s₄ h₄=>wpAny_pure (wpAny_pure ⟨rfl,h₄⟩)) λ_ _ h'=>h')) λ_ _ h'=>h'))) λ_ _ h'=>h')
end
noncomputable def qZ(X:Cx)(N:List Str)(scope:Scope)(C:Addr)(fp:List Addr)(s2:Shared)(H2:Hp):Cx:=
 { X with N:=N,s₀:=s2,H₀:=H2,env:=compEnv scope C X.env,outer:=X.stack,stack:=X.stack,ex:=fp,fn:=λ_=>true,pn:=[],xe:=λ_ _=>False }
noncomputable def CompGo(n:Nat)(J:It)(g:TG)(te:TE)(Q:VK)(p:Addr)(H':Hp):Prop:=
 ∃W:Nat->Nat->List V->Hp->Prop,(∃m,W 0 m [] H')/\∀i m ys H2,W i m ys H2->H2 p=some (.lst ys)/\ys.length<sizeLine/\
  ((J.stop i H2/\Q (.ref p) H2)∨(J.go i H2/\∀x H3,J.yld i H2 x H3->g x (List.replicate n none) H3 fun σ4 H4=>te σ4 H4 λy H5=>H5 p=some (.lst ys)/\∃m',m'<m/\W (i+1) m' (ys++[y]) (upd H5 p (.lst (ys++[y])))))
noncomputable def tComp(n:Nat)(wi:TI)(g:TG)(te:TE):TE:=fun σ H Q=>wi σ H λJ H1=>∀p H',H1 p=none->Same H1 H'->H' p=some (.lst [])->CompGo n J g te Q p H'
section
variable{X:Cx}
theorem cxComp_ok{pins:List (Addr×Obj)}{σ:L2.St}{H1:Hp}{s2:Shared}{N:List Str}{scope:Scope}{C:Addr}{fp:List Addr}(I:Inv X pins σ H1 s2)(hk:scope.kind=.function)
  (hn:∀x,scope.names.lookup x≠some .cell/\scope.names.lookup x≠some .free) (hC:s2.heap.objs.size<=C) (hf:∀b∈fp,FpOk X pins H1 b) (hlt:∀b∈fp,b<s2.heap.objs.size):(qZ X N scope C fp s2 H1).Ok where
 mod:=I.ok.mod
 kind:=hk
 glob:=I.ok.glob
 blt:=I.ok.blt
 above:=hC
 inj:=λx y c h=>nomatch h
 has:=λx h=>h.elim (λz=>absurd z (hn x).1) (λz=>absurd z (hn x).2)
 cab:=λx c _ h=>nomatch h
 hd:=I.ok.hd
 frames:=I.ok.frames
 stk:=.inl rfl
 exf:=λb hb=>⟨Nat.ne_of_lt (Nat.lt_of_lt_of_le (hlt b hb) hC),λx c h=>nomatch h⟩
 bs:=I.bs
 bsz:=Nat.le_trans I.ok.bsz I.sz
 noex:=λb o e hb=>by
  rcases(hf b hb).2.2.2.1 with z | z
  ·exact I.ok.noex b o e z
  ·exact absurd (Nat.lt_of_lt_of_le (Heap.lt_size e) (Nat.le_trans I.ok.bsz z)) (Nat.lt_irrefl _)
 exfs:=λb hb z=>(List.mem_cons.mp (I.stkSub b z)).elim (hf b hb).2.1 (hf b hb).2.2.1
 funs:=I.stack
 frf:=I.stkFree
theorem pe_comp{N:List Str}{elt target iter:Expr}{scope:Scope}{pos:Pos}{wi:TI}{g:TG}{te:TE}(hc:X.calm=true)
  (hk:scope.kind=.function) (hn:∀x,scope.names.lookup x≠some .cell/\scope.names.lookup x≠some .free) (hfree:∀x∈scope.names,x.2≠.free) (hcell:∀x∈scope.names,x.2≠.cell) (hnames:∀x∈scope.names,x.2=.local->scope.names.lookup x.1=some .local)
  (hi:PI X target iter wi) (hg:∀C fp s2 H2,PG (qZ X N scope C fp s2 H2) target g) (he:∀C fp s2 H2,PE (qZ X N scope C fp s2 H2) elt te)
  (hs:∀x,foldedSetIterable iter X.env x=pure x:=by intro _;rfl):PE X (.ListComp elt [⟨target,iter,[],0⟩] scope pos) (tComp N.length wi g te):=by
 intro pins s σ H Q I h;refine wpAny_ListComp hfree hk hnames (thn (hi pins s σ H _ I h) λv s1 h1=>thn h1 λitv s2 h2=>?_) hs;obtain⟨it,fp,tn,J,H1,e,I2,T,st2,f2,hR⟩:=h2;subst e;have hlt:∀b∈fp,b<s2.heap.objs.size:=λb hb=>by
  obtain⟨o,ho,_⟩:=T.obj 0 _ st2 b hb;exact Heap.lt_size ho
 refine wpAny_newObj_type (wpAny_newFunctionEnv hcell (by intro y hy;simp at hy) (λh₁ hns₁ hsb₁=>?_) hk);dsimp only at hns₁ hsb₁ ⊢;generalize hHH:s2.heap.push { cls:=.type "list",dict:=none,data:=.seq ([]:List Value).toArray } = HH at hns₁ hsb₁ ⊢;have hCe:HH.objs.size=s2.heap.objs.size+1:=by rw[<-hHH,Heap.size_push]
 have hDC:s2.heap.objs.size≠HH.objs.size:=by rw[hCe];exact Nat.ne_of_lt (Nat.lt_succ_self _)
 have hCle:s2.heap.objs.size<=HH.objs.size:=by rw[hCe];exact Nat.le_succ _
 have old:∀b o,s2.heap.get? b=some o->h₁.get? b=some o:=λb o e=>hsb₁.extBut b o (by rw[hCe];exact Nat.ne_of_lt (Nat.lt_succ_of_lt (Heap.lt_size e))) (Heap.get?_push_of_some _ (hHH▸Heap.get?_push_of_some _ e));have hD:h₁.get? s2.heap.objs.size=some { cls:=.type "list",dict:=none,data:=.seq ([]:List Value).toArray } :=hsb₁.extBut _ _ hDC (Heap.get?_push_of_some _ (hHH▸Heap.get?_push_size _ rfl));have nD:H1 s2.heap.objs.size=none:=I2.hok.fresh (Nat.le_refl _);obtain⟨W,⟨m0,w0⟩,turn⟩:=hR s2.heap.objs.size _ nD (kH (.lst []) nD) jK;have ok:=cxComp_ok (N:=N) (C:=HH.objs.size) I2 hk hn hCle f2 hlt;have I4:Inv (qZ X N scope HH.objs.size fp s2 H1) [] (List.replicate N.length none) (upd H1 s2.heap.objs.size (.lst [])) { s2 with heap:=h₁,toks:=s2.toks+([]:List (Str×Value)).length } :=by
  refine⟨ok,rfl,I2.bare,Un.laid old (Nat.le_refl _) nD,⟨_,hns₁,λi x v _ e2 _=>?_⟩,(λx c z=>nomatch z), ?_,(λx c z=>nomatch z),(λp hp=>nomatch hp),I2.hok.laid old (Nat.le_refl _) ?_,by rw[List.length_replicate];rfl⟩
  ·rw[List.getElem?_replicate]at e2;split at e2<;>cases e2
  ·show(upd H1 s2.heap.objs.size (.lst [])) HH.objs.size=none;rw[jQ (Ne.symm hDC)];exact I2.hok.fresh hCle
  ·exact⟨by show 0<=sizeLine;decide,[],0,.nil,hD⟩
 have stat:∀{H':Hp},(∀b∈fp,H' b=none)->∀b∈fp,FpOk (qZ X N scope HH.objs.size fp s2 H1) [] H' b:=λhn b hb=>
  ⟨hn b hb,(ok.exf b hb).1,ok.exfs b hb,.inl hb,(ok.exf b hb).2,λp hp=>nomatch hp⟩
 have st4:tn 0 h₁:=T.keep _ _ _ st2 λb _ o e=>old b o e;have fr4:∀b∈fp,(upd H1 s2.heap.objs.size (.lst [])) b=none:=λb hb=>by
  rw[jQ (Nat.ne_of_lt (hlt b hb))];exact(f2 b hb).1
 have loop:codeAny (model X.prog X.w) X.A (.compLoop (.ListComp elt [⟨target,iter,[],0⟩] scope pos) 0 (.ref it) (.ref s2.heap.objs.size) (compEnv scope HH.objs.size X.env))
   (λr s'=>∃m,s'.heap.Ns HH.objs.size m/\∀h',Heap.SameBut HH.objs.size s'.heap h'->
      match r with | .ok _=>EP X pins σ Q (.ref s2.heap.objs.size) { s' with heap:=h' } | .error x=>wpAny (model X.prog X.w) X.A (passOn "comprehension.variables-let-go" x (compEnv scope HH.objs.size X.env)) (EP X pins σ Q) X.xe { s' with heap:=h' })
   { s2 with heap:=h₁,toks:=s2.toks+([]:List (Str×Value)).length } :=by
  refine yI (λn s'=>∃i ys H',Inv (qZ X N scope HH.objs.size fp s2 H1) [] (List.replicate N.length none) H' s'/\tn i s'.heap/\(∀b∈fp,H' b=none)/\W i n ys H') ?_ m0 ⟨0,[],_,I4,st4,fr4,w0⟩;rintro n s3 ⟨i,ys,H3,I3,st3,fr3,w3⟩;obtain⟨hp3,hz3,hw⟩:=turn i n ys H3 w3;rcases hw with⟨stop,qn⟩ | ⟨go,step⟩
  ·refine thn (T.done (qZ X N scope HH.objs.size fp s2 H1) rfl rfl rfl hc i [] s3 _ H3 _ I3 (stat fr3) st3 stop) λr s4 ⟨hr,I5⟩=>?_;subst hr;obtain⟨m,hm,_⟩:=id I5.loc;refine⟨m,hm,λh' sb=>⟨.ref s2.heap.objs.size,H3, ?_,rfl,qn⟩⟩;have k:∀b o,b≠HH.objs.size->s4.heap.get? b=some o->h'.get? b=some o:=λb o hb e=>sb.extBut b o hb e;have nb:∀b o,s2.heap.get? b=some o->b≠HH.objs.size:=λb o e=>by rw[hCe];exact Nat.ne_of_lt (Nat.lt_succ_of_lt (Heap.lt_size e))
   have U:=I5.base;have fC:H3 HH.objs.size=none:=I5.free;refine I2.call' (ch:=fp) (s':={ s4 with heap:=h' }) I5.os ⟨λb o e n hb hx=>k b o (nb b o e) (U.keep b o e n hb hx),λb o e n hb hx=>?_,U.free,λb o e hx=>?_,U.tups,U.frzs,U.tbls⟩ (λb u e=>?_) I5.bare (λb hb=>⟨(f2 b hb).2.2.2.1,(f2 b hb).2.1,(f2 b hb).2.2.2.2.1,(f2 b hb).2.2.2.2.2⟩)
   ·obtain⟨sl,q⟩:=U.slot b o e n hb hx;exact⟨sl,k b _ (nb b o e) q⟩
   ·obtain⟨o',q⟩:=U.there b o e hx;exact⟨o',k b _ (nb b o e) q⟩
   ·refine(I5.hok b u e).stay (λc v hcc q=>k c v ?_ q) (λ_ q=>q) λ_ _ q=>q;rcases hcc with z | z
    ·rw[z];intro y;rw[y,fC]at e;cases e
    ·intro y;rw[y,fC]at z;cases z
  ·refine wpAny_mono (T.item (qZ X N scope HH.objs.size fp s2 H1) rfl rfl rfl hc i [] s3 _ H3 (λ_ _=>False) I3 (stat fr3) st3 go) (λr s4 ⟨u,hr,h4⟩=>?_) λ_ _ z=>z.elim;subst hr;refine wpAny_mono h4 (λ_ s5 ⟨x,H5,I5,r5,y5,st5,fr5⟩=>?_) λ_ _ z=>z.elim;have I5':=I5.pinned (stat fr5) (T.obj _ _ st5);refine wpAny_mono (hg _ _ _ _ _ s5 _ H5 x u _ I5' r5 (step x H5 y5)) (λ_ s6 ⟨σ6,H6,I6,q6⟩=>?_) λ_ _ z=>z.elim;refine wpAny_mono (he _ _ _ _ _ s6 σ6 H6 _ I6 q6) (λy s7 ⟨yv,H7,I7,r7,q7⟩=>?_) λ_ _ z=>z.elim;obtain⟨e7,m',hm',w7⟩:=q7;refine wpAny_mono (xF (X:=qZ X N scope HH.objs.size fp s2 H1) _ s7 σ6 H7 (.ref s2.heap.objs.size) [yv] (.ref s2.heap.objs.size) [y] (λ_ H8=>H8=upd H7 s2.heap.objs.size (.lst (ys++[yv]))) I7 rfl (.cons r7 .nil) ⟨_,ys,yv,rfl,rfl,e7,hz3,rfl⟩) (λ_ s8 ⟨_,H8,I8,_,q8⟩=>?_) λ_ _ z=>z.elim;subst q8;refine⟨m',hm',i+1,_,_,(I8.unpinned).weak (by rw[List.length_replicate,I8.len];rfl) (λj v ev=>?_),T.keep _ _ _ st5 λb hb o e=>(I8.pin (b,o) (List.mem_append_right _ (List.mem_append_right _ (qW hb e)))).1,λb hb=>?_,w7⟩
   ·rw[List.getElem?_replicate]at ev;split at ev<;>cases ev
   ·obtain⟨o,e,d⟩:=T.obj _ _ st5 b hb;exact(I8.pin (b,o) (List.mem_append_right _ (List.mem_append_right _ (qW hb e)))).2.1
 exact codeAny_compStart_list loop (T.self _ 0 _ _ _ st4 loop)
end
end Lw
namespace Lw
open PySem PySem.Spec PyProof.Rows L2
mutual
inductive DecV(H:Hp):V->PyData->Prop where
 | non:DecV H .non .none
 | bl (b:Bool):DecV H (.bl b) (.bool b)
 | int (i:Int):DecV H (.int i) (.int i)
 | str (x:Str):DecV H (.str x) (.str x)
 | lst {a:Addr} {xs:List V} {ds:List PyData} (e:H a=some (.lst xs)) (h:DecVs H xs ds):DecV H (.ref a) (.list ds)
 | tup {a:Addr} {xs:List V} {ds:List PyData} (e:H a=some (.tup xs)) (h:DecVs H xs ds):DecV H (.ref a) (.tuple ds)
inductive DecVs(H:Hp):List V->List PyData->Prop where
 | nil:DecVs H [] []
 | cons {x:V} {d:PyData} {xs:List V} {ds:List PyData} (h:DecV H x d) (t:DecVs H xs ds):DecVs H (x::xs) (d::ds)
end
section
variable{X:Cx}
mutual
theorem DecV.reads{pins:List (Addr×Obj)}{σ:L2.St}{H:Hp}{s:Shared}(I:Inv X pins σ H s):∀{x:V} {d:PyData} {u:Value},DecV H x d->RelV x u->∃as,Reads s.heap u d as
 | _,_,_,.non,r=>by cases r;exact⟨_,.none⟩
 | _,_,_,.bl b,r=>by cases r;exact⟨_,.bool b⟩
 | _,_,_,.int i,r=>by obtain⟨t,rfl⟩:=r;exact⟨_,.int i t⟩
 | _,_,_,.str x,r=>by obtain⟨t,rfl⟩:=r;exact⟨_,.str x t⟩
 | _,_,_,.lst e h,r=>by
  cases r;obtain⟨its,rv,⟨o,n,ho,hc,_,hd⟩,_⟩:=I.list (SqL.of e);obtain⟨as,ra⟩:=DecVs.reads I h rv;exact⟨_,.list ho hc hd (by simpa using ra)⟩
 | _,_,_,.tup e h,r=>by
  cases r;obtain⟨its,rv,⟨o,ho,hc,n,hd⟩,_⟩:=I.tuple (SqT.of e);obtain⟨as,ra⟩:=DecVs.reads I h rv;exact⟨_,.tuple ho hc hd (by simpa using ra)⟩
theorem DecVs.reads{pins:List (Addr×Obj)}{σ:L2.St}{H:Hp}{s:Shared}(I:Inv X pins σ H s):∀{xs:List V} {ds:List PyData} {us:List Value},DecVs H xs ds->Vals xs us->∃as,ReadsAll s.heap us ds as
 | _,_,_,.nil,r=>by cases r;exact⟨_,.nil⟩
 | _,_,_,.cons h t,r=>by
  cases r with
  | cons q r=>
   obtain⟨as,ra⟩:=DecV.reads I h q;obtain⟨bs,rb⟩:=DecVs.reads I t r;exact⟨_,.cons ra rb⟩
end
noncomputable def DataOk(d:PyData):Prop:=d.canLay0=true/\d.depth<=60
noncomputable def rEqD:R2:=λx y H Q=>∃da db,DecV H x da/\DecV H y db/\DataOk da/\DataOk db/\Q (.bl (PyData.eqv da db)) H
noncomputable def rNeD:R2:=λx y H Q=>∃da db,DecV H x da/\DecV H y db/\DataOk da/\DataOk db/\Q (.bl (!PyData.eqv da db)) H
theorem op_eqD(hu:X.A.units+64<cLine):OpR X (compareOp .Eq) rEqD:=by
 intro pins s σ H x y v u Q I rx ry h;obtain⟨da,db,d1,d2,o1,o2,q⟩:=h;obtain⟨as,ra⟩:=d1.reads I rx;obtain⟨bs,rb⟩:=d2.reads I ry;exact SeqAt.rcAt_reads ra rb o1.1 o2.1 (by have:=o1.2;omega) _ _ _ _ ⟨.bl _,H,I,rfl,q⟩
theorem op_neD(hu:X.A.units+64<cLine):OpR X (compareOp .NotEq) rNeD:=by
 intro pins s σ H x y v u Q I rx ry h;obtain⟨da,db,d1,d2,o1,o2,q⟩:=h;obtain⟨as,ra⟩:=d1.reads I rx;obtain⟨bs,rb⟩:=d2.reads I ry;exact SeqAt.rcNeAt_reads ra rb o1.1 o2.1 (by have:=o1.2;omega) _ _ _ _ ⟨.bl _,H,I,rfl,q⟩
noncomputable def rAll(K:PySem.W.Frag):List V->Hp->VK->Prop:=λxs H Q=>∃(a:Addr) (bs:List Bool),xs=[.ref a]/\SqL K H a (bs.map V.bl)/\Q (.bl (bs.all id)) H
theorem bls_get:∀{bs:List Bool} {us:List Value} {i:Nat} {v:Value},Vals (bs.map V.bl) us->us[i]? = some v->v=.bool (bs.getD i true)
 | [],_,_,_,.nil,e=>by simp at e
 | b::_,_,0,_,.cons r _,e=>by
  cases r;simp at e;simp [<-e]
 | b::bs,_,i+1,_,.cons _ t,e=>by
  have:=bls_get (i:=i) t (by simpa using e);simpa using this
theorem all_range(bs:List Bool):(List.range bs.length).all (λi=>bs.getD i true)=bs.all id:=by
 induction bs with
 | nil=>rfl
 | cons b r ih=>
  rw[List.length_cons,List.range_succ_eq_map,List.all_cons,List.all_map,List.all_cons,<-ih]
  rfl
theorem mN(hc:X.calm=true):CallR X (.builtin "all") (rAll X.K):=by
 intro pins s σ H xs us Q I r h;obtain⟨a,bs,rfl,hq,q⟩:=h;obtain⟨u,rfl,ru⟩:=vQ r;cases ru;obtain⟨its,rv,p,hz⟩:=I.list hq;have hl:=rv.length;rw[List.length_map]at hl;refine PySem.call_all_walk (wpAny_pyIter_list p.isList ?_);have ha:a<s.heap.objs.size:=by
  obtain⟨o,n,e,_⟩:=p;exact Heap.lt_size e
 refine⟨s.heap.objs.size,_,_,_,_,_,λi=>bs.getD i true,rfl,Walks.list (show X.A.in1.handled=none from I.ok.hd hc) s.heap.objs.size a (Nat.ne_of_lt ha) its.toArray,⟨⟨_,Heap.get?_push_size _ rfl,rfl,rfl⟩,p.isList.at λo e=>Heap.get?_push_of_some _ e⟩, ?_, ?_⟩
 ·intro i v s' Q' E' hv hq';obtain rfl:=bls_get rv (by simpa using hv);exact wpAny_truthy_bool hq'
 ·intro h' tk k;rw[List.size_toArray,<-hl,all_range];refine⟨.bl _,H,I.kept (t':=tk) (λb o e=>?_),rfl,q⟩;exact k b o (by simp;exact Nat.ne_of_lt (Heap.lt_size e)) (Heap.get?_push_of_some _ e)
theorem wL{N:List Str}{elt target iter:Expr}{scope:Scope}{pos:Pos}{wi:TI}{g:TG}{te:TE}(hc:X.calm=true)
  (hk:scope.kind=.function) (hfree:∀x∈scope.names,x.2≠.free) (hcell:∀x∈scope.names,x.2≠.cell) (hnames:∀x∈scope.names,x.2=.local->scope.names.lookup x.1=some .local)
  (hi:PI X target iter wi) (hg:∀C fp s2 H2,PG (qZ X N scope C fp s2 H2) target g) (he:∀C fp s2 H2,PE (qZ X N scope C fp s2 H2) elt te)
  (hs:∀x,foldedSetIterable iter X.env x=pure x:=by intro _;rfl):PE X (.ListComp elt [⟨target,iter,[],0⟩] scope pos) (tComp N.length wi g te):=
 pe_comp hc hk (λx=>⟨λz=>hcell _ (PySem.mem_of_lookup z) rfl,λz=>hfree _ (PySem.mem_of_lookup z) rfl⟩) hfree hcell hnames hi hg he hs
end
noncomputable def CompW(xs:List V)(Pv:Nat->List V->Hp->Prop)(i m:Nat)(ys:List V)(H:Hp):Prop:=m=xs.length-i/\i<=xs.length/\ys.length=i/\Pv i ys H
theorem kZ{xs:List V}{Pv:Nat->List V->Hp->Prop}{i m:Nat}{ys:List V}{x y:V}{H5:Hp}{p:Addr}(hx:xs[i]? = some x)(hm:m=xs.length-i)(hl:ys.length=i)(e:H5 p=some (.lst ys))(h:Pv (i+1) (ys++[y]) (upd H5 p (.lst (ys++[y])))) :
  H5 p=some (.lst ys)/\∃m',m'<m/\CompW xs Pv (i+1) m' (ys++[y]) (upd H5 p (.lst (ys++[y]))):=by
 have hi:i<xs.length:=(List.getElem?_eq_some_iff.mp hx).1;exact⟨e,xs.length-(i+1),by omega,rfl,by omega,by simp [hl],h⟩
theorem comp_list{K:PySem.W.Frag}{a:Addr}{xs:List V}{n:Nat}{g:TG}{te:TE}{Q:VK}{p:Addr}{H':Hp}(Pv:Nat->List V->Hp->Prop)(hz:xs.length<sizeLine)(h0:Pv 0 [] H')
  (hl:∀i ys H2,Pv i ys H2->SqL K H2 a xs/\H2 p=some (.lst ys))
  (hs:∀i m ys x H2,xs[i]? = some x->m=xs.length-i->ys.length=i->Pv i ys H2->g x (List.replicate n none) H2 fun σ4 H4=>te σ4 H4 λy H5=>H5 p=some (.lst ys)/\∃m',m'<m/\CompW xs Pv (i+1) m' (ys++[y]) (upd H5 p (.lst (ys++[y]))))
  (hd:∀ys H2,ys.length=xs.length->Pv xs.length ys H2->Q (.ref p) H2) :
  CompGo n (Itl K a) g te Q p H':=by
 unfold CompGo;refine⟨CompW xs Pv,⟨_,rfl,Nat.zero_le _,rfl,h0⟩, ?_⟩;rintro i m ys H2 ⟨hm,hi,hy,hp⟩;obtain⟨q,e⟩:=hl i ys H2 hp;refine⟨e,by omega, ?_⟩;by_cases hlt:i<xs.length
 ·refine .inr ⟨⟨xs,xs[i],q,by simp [hlt]⟩,λx H3 y=>?_⟩;obtain⟨e3,y⟩:=y;subst e3;exact hs i m ys x _ (y xs q) hm hy hp
 ·have ei:i=xs.length:=by omega
  subst ei;exact .inl ⟨⟨xs,q,Nat.le_refl _⟩,hd ys H2 hy hp⟩
section
end
end Lw
namespace Lw
open PySem PySem.Spec PyProof.Rows L2
noncomputable def kC(X:Cx)(N:List Str)(scope:Scope)(cl:List (Str×Addr))(C:Addr)(fp:List Addr)(s2:Shared)(H2:Hp):Cx:=
 { X with N:=N,s₀:=s2,H₀:=H2,env:=compEnvC scope cl C X.env,outer:=X.stack,stack:=X.stack,ex:=fp,fn:=λ_=>false,pn:=[],xe:=λ_ _=>False }
noncomputable def Keep(σ τ:L2.St):Prop:=∀(i:Nat) (v:V),σ[i]? = some (some v)->τ[i]? = some (some v)
theorem nJ{x:Option V}{r:L2.St} :Keep (none::r) (x::r):=λi v h=>by
 cases i with
 | zero=>cases h
 | succ j=>exact h
theorem keep2{x y:Option V}{r:L2.St} :Keep (none::none::r) (x::y::r):=λi v h=>by
 cases i with
 | zero=>cases h
 | succ j=>cases j with
  | zero=>cases h
  | succ k=>exact h
noncomputable def CompGoF(σ0:L2.St)(J:It)(g:TG)(te:TE)(Q:VK)(p:Addr)(H':Hp):Prop:=
 ∃W:Nat->Nat->List V->Hp->Prop,(∃m,W 0 m [] H')/\∀i m ys H2,W i m ys H2->H2 p=some (.lst ys)/\ys.length<sizeLine/\
  ((J.stop i H2/\Q (.ref p) H2)∨(J.go i H2/\∀x H3,J.yld i H2 x H3->g x σ0 H3 fun σ4 H4=>Keep σ0 σ4/\te σ4 H4 λy H5=>H5 p=some (.lst ys)/\∃m',m'<m/\W (i+1) m' (ys++[y]) (upd H5 p (.lst (ys++[y])))))
noncomputable def tCompF(own:Nat)(idx:List Nat)(wi:TI)(g:TG)(te:TE):TE:=fun σ H Q=>wi σ H λJ H1=>∀p H',H1 p=none->Same H1 H'->H' p=some (.lst [])->
 CompGoF (List.replicate own none++idx.map λj=>(σ[j]?).getD none) J g te Q p H'
section
variable{X:Cx}
theorem mK{pins:List (Addr×Obj)}{σ:L2.St}{H1:Hp}{s2:Shared}{N:List Str}{scope:Scope}{cl:List (Str×Addr)}{C:Addr}{fp:List Addr}(I:Inv X pins σ H1 s2)(hk:scope.kind=.function)
  (hsub:∀x c,cl.lookup x=some c->X.env.cells.lookup x=some c) (hhas:∀x,((relabel scope X.env).names.lookup x=some .cell∨(relabel scope X.env).names.lookup x=some .free)->∃c,cl.lookup x=some c)
  (hC:s2.heap.objs.size<=C) (hf:∀b∈fp,FpOk X pins H1 b) (hlt:∀b∈fp,b<s2.heap.objs.size):(kC X N scope cl C fp s2 H1).Ok where
 mod:=I.ok.mod
 kind:=hk
 glob:=I.ok.glob
 blt:=I.ok.blt
 above:=hC
 inj:=λx y c h1 h2=>I.ok.inj x y c (hsub x c h1) (hsub y c h2)
 has:=hhas
 cab:=λx c h _=>by cases h
 hd:=I.ok.hd
 frames:=I.ok.frames
 stk:=.inl rfl
 exf:=λb hb=>⟨Nat.ne_of_lt (Nat.lt_of_lt_of_le (hlt b hb) hC),λx c h=>(hf b hb).2.2.2.2.1 x c (hsub x c h)⟩
 bs:=I.bs
 bsz:=Nat.le_trans I.ok.bsz I.sz
 noex:=λb o e hb=>by
  rcases(hf b hb).2.2.2.1 with z | z
  ·exact I.ok.noex b o e z
  ·exact absurd (Nat.lt_of_lt_of_le (Heap.lt_size e) (Nat.le_trans I.ok.bsz z)) (Nat.lt_irrefl _)
 exfs:=λb hb z=>(List.mem_cons.mp (I.stkSub b z)).elim (hf b hb).2.1 (hf b hb).2.2.1
 funs:=I.stack
 frf:=I.stkFree
theorem vG{own:Nat}{idx:List Nat}{N:List Str}{elt target iter:Expr}{scope:Scope}{cl:List (Str×Addr)}{pos:Pos}{wi:TI}{g:TG}{te:TE}(hc:X.calm=true)
  (hk:scope.kind=.function) (hclos:closureFor scope X.env=pure cl) (hcell:∀x∈scope.names,x.2≠.cell) (hnames:∀x∈scope.names,x.2=.local->scope.names.lookup x.1=some .local)
  (hsub:∀x c,cl.lookup x=some c->X.env.cells.lookup x=some c) (hhas:∀x,((relabel scope X.env).names.lookup x=some .cell∨(relabel scope X.env).names.lookup x=some .free)->∃c,cl.lookup x=some c)
  (hlen:N.length=own+idx.length)
  (hidx:∀(k j:Nat) (x:Str),idx[k]? = some j->N[own+k]? = some x->X.N[j]? = some x/\X.env.kindOf x=some .cell/\(relabel scope X.env).names.lookup x=some .cell/\X.env.scope.names.lookup x=some .cell)
  (hi:PI X target iter wi) (hg:∀C fp s2 H2,PG (kC X N scope cl C fp s2 H2) target g) (he:∀C fp s2 H2,PE (kC X N scope cl C fp s2 H2) elt te)
  (hs:∀x,foldedSetIterable iter X.env x=pure x:=by intro _;rfl):PE X (.ListComp elt [⟨target,iter,[],0⟩] scope pos) (tCompF own idx wi g te):=by
 intro pins s σ H Q I h;rw[eval_ListComp];refine wpAny_comprehension_free (use:=none) rfl hs hclos hk hnames (thn (hi pins s σ H _ I h) λv s1 h1=>thn h1 λitv s2 h2=>?_);obtain⟨it,fp,tn,J,H1,e,I2,T,st2,f2,hR⟩:=h2;subst e;have hlt:∀b∈fp,b<s2.heap.objs.size:=λb hb=>by
  obtain⟨o,ho,_⟩:=T.obj 0 _ st2 b hb;exact Heap.lt_size ho
 refine wpAny_newObj_type (wpAny_newFunctionEnv hcell (by intro y hy;simp at hy) (λh₁ hns₁ hsb₁=>?_) hk);dsimp only at hns₁ hsb₁ ⊢;generalize hHH:s2.heap.push { cls:=.type "list",dict:=none,data:=.seq ([]:List Value).toArray } = HH at hns₁ hsb₁ ⊢;have hCe:HH.objs.size=s2.heap.objs.size+1:=by rw[<-hHH,Heap.size_push]
 have hDC:s2.heap.objs.size≠HH.objs.size:=by rw[hCe];exact Nat.ne_of_lt (Nat.lt_succ_self _)
 have hCle:s2.heap.objs.size<=HH.objs.size:=by rw[hCe];exact Nat.le_succ _
 have old:∀b o,s2.heap.get? b=some o->h₁.get? b=some o:=λb o e=>hsb₁.extBut b o (by rw[hCe];exact Nat.ne_of_lt (Nat.lt_succ_of_lt (Heap.lt_size e))) (Heap.get?_push_of_some _ (hHH▸Heap.get?_push_of_some _ e));have hD:h₁.get? s2.heap.objs.size=some { cls:=.type "list",dict:=none,data:=.seq ([]:List Value).toArray } :=hsb₁.extBut _ _ hDC (Heap.get?_push_of_some _ (hHH▸Heap.get?_push_size _ rfl));have nD:H1 s2.heap.objs.size=none:=I2.hok.fresh (Nat.le_refl _);obtain⟨W,⟨m0,w0⟩,turn⟩:=hR s2.heap.objs.size _ nD (kH (.lst []) nD) jK;generalize hσ:(List.replicate own none++idx.map λj=>(σ[j]?).getD none:L2.St)=σ0 at turn;have lσ:σ0.length=N.length:=by rw[<-hσ,List.length_append,List.length_replicate,List.length_map,hlen]
 have ok:=mK (N:=N) (cl:=cl) (C:=HH.objs.size) I2 hk hsub hhas hCle f2 hlt;have oldC:∀c v,s2.heap.IsCell c v->h₁.IsCell c v:=λc v ⟨o,ho,hd⟩=>⟨o,old c o ho,hd⟩;have I4:Inv (kC X N scope cl HH.objs.size fp s2 H1) [] σ0 (upd H1 s2.heap.objs.size (.lst [])) { s2 with heap:=h₁,toks:=s2.toks+([]:List (Str×Value)).length } :=by
  refine⟨ok,rfl,I2.bare,Un.laid old (Nat.le_refl _) nD,⟨_,hns₁,λi x v e1 e2 _=>?_⟩,(λx c z=>?_), ?_,(λx c z=>?_),(λp hp=>nomatch hp),I2.hok.laid old (Nat.le_refl _) ?_,lσ⟩
  ·
   rw[<-hσ]at e2;by_cases hi':i<own
   ·rw[List.getElem?_append_left (by rw[List.length_replicate];exact hi'),List.getElem?_replicate]at e2;split at e2<;>cases e2
   ·obtain⟨k,rfl⟩:∃k,i=own+k:=⟨i-own,by omega⟩;rw[List.getElem?_append_right (by rw[List.length_replicate];omega),List.length_replicate,Nat.add_sub_cancel_left,List.getElem?_map]at e2;cases ej:idx[k]? with
    | none=>rw[ej]at e2;cases e2
    | some j=>
     rw[ej,Option.map_some]at e2;have e2:=Option.some.inj e2;obtain⟨n1,n2,n3,n4⟩:=hidx k j x ej e1;have e3:σ[j]? = some (some v):=by
      cases q:σ[j]? with
      | none=>rw[q]at e2;cases e2
      | some y=>rw[q,Option.getD_some]at e2;rw[e2]
     obtain⟨m,hm,hl⟩:=I2.loc;obtain⟨u,ru,lk⟩:=hl j x v n1 e3 (.inr (.inl n4));refine⟨u,ru, ?_⟩;rcases lk with⟨kl,_⟩ | ⟨_,c,hcl,hic⟩
     ·rw[n2]at kl;cases kl
     ·obtain⟨c',hc'⟩:=hhas x (.inl n3);have:c'=c:=Option.some.inj ((hsub x c' hc').symm.trans hcl);subst this;exact .inr ⟨.inl n3,c',hc',oldC _ _ hic⟩
  ·obtain⟨v,hv⟩:=I2.cell x c (hsub x c z);exact⟨v,oldC _ _ hv⟩
  ·show(upd H1 s2.heap.objs.size (.lst [])) HH.objs.size=none;rw[jQ (Ne.symm hDC)];exact I2.hok.fresh hCle
  ·obtain⟨v,hv⟩:=I2.cell x c (hsub x c z);show(upd H1 s2.heap.objs.size (.lst [])) c=none;rw[jQ (Nat.ne_of_lt hv.lt)];exact I2.freeC x c (hsub x c z)
  ·exact⟨by show 0<=sizeLine;decide,[],0,.nil,hD⟩
 have stat:∀{H':Hp},(∀b∈fp,H' b=none)->∀b∈fp,FpOk (kC X N scope cl HH.objs.size fp s2 H1) [] H' b:=λhn b hb=>
  ⟨hn b hb,(ok.exf b hb).1,ok.exfs b hb,.inl hb,(ok.exf b hb).2,λp hp=>nomatch hp⟩
 have st4:tn 0 h₁:=T.keep _ _ _ st2 λb _ o e=>old b o e;have fr4:∀b∈fp,(upd H1 s2.heap.objs.size (.lst [])) b=none:=λb hb=>by
  rw[jQ (Nat.ne_of_lt (hlt b hb))];exact(f2 b hb).1
 have loop:codeAny (model X.prog X.w) X.A (.compLoop (.ListComp elt [⟨target,iter,[],0⟩] scope pos) 0 (.ref it) (.ref s2.heap.objs.size) (compEnvC scope cl HH.objs.size X.env))
   (compPost (model X.prog X.w) X.A X.xe none (EP X pins σ Q) (.ref s2.heap.objs.size) HH.objs.size) { s2 with heap:=h₁,toks:=s2.toks+([]:List (Str×Value)).length } :=by
  refine yI (λn s'=>∃i ys H',Inv (kC X N scope cl HH.objs.size fp s2 H1) [] σ0 H' s'/\tn i s'.heap/\(∀b∈fp,H' b=none)/\W i n ys H') ?_ m0 ⟨0,[],_,I4,st4,fr4,w0⟩;rintro n s3 ⟨i,ys,H3,I3,st3,fr3,w3⟩;obtain⟨hp3,hz3,hw⟩:=turn i n ys H3 w3;rcases hw with⟨stop,qn⟩ | ⟨go,step⟩
  ·refine thn (T.done (kC X N scope cl HH.objs.size fp s2 H1) rfl rfl rfl hc i [] s3 _ H3 _ I3 (stat fr3) st3 stop) λr s4 ⟨hr,I5⟩=>?_;subst hr;obtain⟨m,hm,_⟩:=id I5.loc;refine⟨m,hm,λh' sb=>⟨.ref s2.heap.objs.size,H3, ?_,rfl,qn⟩⟩;have k:∀b o,b≠HH.objs.size->s4.heap.get? b=some o->h'.get? b=some o:=λb o hb e=>sb.extBut b o hb e;have nb:∀b o,s2.heap.get? b=some o->b≠HH.objs.size:=λb o e=>by rw[hCe];exact Nat.ne_of_lt (Nat.lt_succ_of_lt (Heap.lt_size e))
   have U:=I5.base;have fC:H3 HH.objs.size=none:=I5.free;refine I2.call' (ch:=fp) (s':={ s4 with heap:=h' }) I5.os ⟨λb o e n hb hx=>k b o (nb b o e) (U.keep b o e n hb hx),λb o e n hb hx=>?_,U.free,λb o e hx=>?_,U.tups,U.frzs,U.tbls⟩ (λb u e=>?_) I5.bare (λb hb=>⟨(f2 b hb).2.2.2.1,(f2 b hb).2.1,(f2 b hb).2.2.2.2.1,(f2 b hb).2.2.2.2.2⟩)
   ·obtain⟨sl,q⟩:=U.slot b o e n hb hx;exact⟨sl,k b _ (nb b o e) q⟩
   ·obtain⟨o',q⟩:=U.there b o e hx;exact⟨o',k b _ (nb b o e) q⟩
   ·refine(I5.hok b u e).stay (λc v hcc q=>k c v ?_ q) (λ_ q=>q) λ_ _ q=>q;rcases hcc with z | z
    ·rw[z];intro y;rw[y,fC]at e;cases e
    ·intro y;rw[y,fC]at z;cases z
  ·refine wpAny_mono (T.item (kC X N scope cl HH.objs.size fp s2 H1) rfl rfl rfl hc i [] s3 _ H3 (λ_ _=>False) I3 (stat fr3) st3 go) (λr s4 ⟨u,hr,h4⟩=>?_) λ_ _ z=>z.elim;subst hr;refine wpAny_mono h4 (λ_ s5 ⟨x,H5,I5,r5,y5,st5,fr5⟩=>?_) λ_ _ z=>z.elim;have I5':=I5.pinned (stat fr5) (T.obj _ _ st5);refine wpAny_mono (hg _ _ _ _ _ s5 _ H5 x u _ I5' r5 (step x H5 y5)) (λ_ s6 ⟨σ6,H6,I6,kp6,q6⟩=>?_) λ_ _ z=>z.elim;refine wpAny_mono (he _ _ _ _ _ s6 σ6 H6 _ I6 q6) (λy s7 ⟨yv,H7,I7,r7,q7⟩=>?_) λ_ _ z=>z.elim;obtain⟨e7,m',hm',w7⟩:=q7;refine wpAny_mono (xF (X:=kC X N scope cl HH.objs.size fp s2 H1) _ s7 σ6 H7 (.ref s2.heap.objs.size) [yv] (.ref s2.heap.objs.size) [y] (λ_ H8=>H8=upd H7 s2.heap.objs.size (.lst (ys++[yv]))) I7 rfl (.cons r7 .nil) ⟨_,ys,yv,rfl,rfl,e7,hz3,rfl⟩) (λ_ s8 ⟨_,H8,I8,_,q8⟩=>?_) λ_ _ z=>z.elim;subst q8;refine⟨m',hm',i+1,_,_,(I8.unpinned).weak (by rw[lσ,I8.len];rfl) kp6,T.keep _ _ _ st5 λb hb o e=>(I8.pin (b,o) (List.mem_append_right _ (List.mem_append_right _ (qW hb e)))).1,λb hb=>?_,w7⟩;obtain⟨o,e,d⟩:=T.obj _ _ st5 b hb;exact(I8.pin (b,o) (List.mem_append_right _ (List.mem_append_right _ (qW hb e)))).2.1
 exact codeAny_compStart_list loop (T.self _ 0 _ _ _ st4 loop)
noncomputable def hasB(names:List (Str×NameKind))(cl:List (Str×Addr)):Bool:=names.all λy=>match y.2 with
 | .cell=>(cl.lookup y.1).isSome
 | .free=>(cl.lookup y.1).isSome
 | _=>true
theorem vS{names:List (Str×NameKind)}{cl:List (Str×Addr)}(h:hasB names cl=true):∀x,(names.lookup x=some .cell∨names.lookup x=some .free)->∃c,cl.lookup x=some c:=by
 intro x hx;have all:=List.all_eq_true.mp h;rcases hx with hx | hx
 ·have:=all _ (PySem.mem_of_lookup hx);exact Option.isSome_iff_exists.mp this
 ·have:=all _ (PySem.mem_of_lookup hx);exact Option.isSome_iff_exists.mp this
theorem wN{X:Cx}{scope:Scope}{own j0:Nat}{N:List Str}{x0:Str}(h0:N[own]? = some x0)(h:X.N[j0]? = some x0/\X.env.kindOf x0=some .cell/\(relabel scope X.env).names.lookup x0=some .cell/\X.env.scope.names.lookup x0=some .cell) :
  ∀(k j:Nat) (x:Str),[j0][k]? = some j->N[own+k]? = some x->X.N[j]? = some x/\X.env.kindOf x=some .cell/\(relabel scope X.env).names.lookup x=some .cell/\X.env.scope.names.lookup x=some .cell:=by
 intro k j x e1 e2
 match k,e1 with
 | 0,e1=>
  cases e1;rw[Nat.add_zero,h0]at e2;cases e2;exact h
 | k+1,e1=>cases e1
end
theorem comp_by{J:It}{xs:List V}{σ0:L2.St}{g:TG}{te:TE}{Q:VK}{p:Addr}{H':Hp}(Pv:Nat->List V->Hp->Prop)(hz:xs.length<sizeLine)(h0:Pv 0 [] H')
  (hgo:∀i ys H2,Pv i ys H2->i<xs.length->J.go i H2/\∀x H3,J.yld i H2 x H3->H3=H2/\xs[i]? = some x) (hst:∀ys H2,Pv xs.length ys H2->J.stop xs.length H2) (hl:∀i ys H2,Pv i ys H2->H2 p=some (.lst ys))
  (hs:∀i m ys x H2,xs[i]? = some x->m=xs.length-i->ys.length=i->Pv i ys H2->g x σ0 H2 fun σ4 H4=>Keep σ0 σ4/\te σ4 H4 λy H5=>H5 p=some (.lst ys)/\∃m',m'<m/\CompW xs Pv (i+1) m' (ys++[y]) (upd H5 p (.lst (ys++[y]))))
  (hd:∀ys H2,ys.length=xs.length->Pv xs.length ys H2->Q (.ref p) H2):CompGoF σ0 J g te Q p H':=by
 unfold CompGoF;refine⟨CompW xs Pv,⟨_,rfl,Nat.zero_le _,rfl,h0⟩, ?_⟩;rintro i m ys H2 ⟨hm,hi,hy,hp⟩;refine⟨hl i ys H2 hp,by omega, ?_⟩;by_cases hlt:i<xs.length
 ·obtain⟨g1,g2⟩:=hgo i ys H2 hp hlt;refine .inr ⟨g1,λx H3 y=>?_⟩;obtain⟨e3,z⟩:=g2 x H3 y;subst e3;exact hs i m ys x _ z hm hy hp
 ·have ei:i=xs.length:=by omega
  subst ei;exact .inl ⟨hst ys H2 hp,hd ys H2 hy hp⟩
theorem vU{K:PySem.W.Frag}{a:Addr}{xs:List V}{σ0:L2.St}{g:TG}{te:TE}{Q:VK}{p:Addr}{H':Hp}(Pv:Nat->List V->Hp->Prop)(hz:xs.length<sizeLine)(h0:Pv 0 [] H')
  (hl:∀i ys H2,Pv i ys H2->SqL K H2 a xs/\H2 p=some (.lst ys))
  (hs:∀i m ys x H2,xs[i]? = some x->m=xs.length-i->ys.length=i->Pv i ys H2->g x σ0 H2 fun σ4 H4=>Keep σ0 σ4/\te σ4 H4 λy H5=>H5 p=some (.lst ys)/\∃m',m'<m/\CompW xs Pv (i+1) m' (ys++[y]) (upd H5 p (.lst (ys++[y]))))
  (hd:∀ys H2,ys.length=xs.length->Pv xs.length ys H2->Q (.ref p) H2):CompGoF σ0 (Itl K a) g te Q p H':=
 comp_by Pv hz h0 (λi ys H2 h hi=>⟨⟨xs,xs[i],(hl i ys H2 h).1,by simp [hi]⟩,λx H3 y=>⟨y.1,y.2 xs (hl i ys H2 h).1⟩⟩) (λys H2 h=>⟨xs,(hl _ ys H2 h).1,Nat.le_refl _⟩) (λi ys H2 h=>(hl i ys H2 h).2) hs hd
section
theorem yV(ns:List Int):∀j,j<=ns.length->preSum (λi=>ns.getD i 0) j=(ns.take j).sum
 | 0,_=>by simp [preSum]
 | j+1,h=>by
  have hj:j<ns.length:=h;show preSum (λi=>ns.getD i 0) j+ns.getD j 0=_;rw[yV ns j (by omega),List.take_succ_eq_append_getElem hj,List.sum_append,List.getD_eq_getElem?_getD,List.getElem?_eq_getElem hj];simp
theorem mW{M:Int} :∀(ns:List Int),(∀n∈ns,0<=n/\n<=M)->0<=ns.sum/\ns.sum<=ns.length*M
 | [],_=>by simp
 | n::r,h=>by
  have h1:=h n (by simp);have h2:=mW r λm hm=>h m (by simp [hm]);rw[List.sum_cons,List.length_cons,Int.natCast_succ,Int.add_mul];omega
noncomputable def rSumT(K:PySem.W.Frag):List V->Hp->VK->Prop:=λxs H Q=>∃(a:Addr) (ns:List Int),xs=[.ref a]/\SqT K H a (ns.map V.int)/\(∀n∈ns,0<=n/\n<=2^40)/\ns.length<=1000/\Q (.int ns.sum) H
theorem call_sumT(hc:X.calm=true):CallR X (.builtin "sum") (rSumT X.K):=by
 intro pins s σ H xs us Q I r h;obtain⟨a,ns,rfl,hq,hb,hn,q⟩:=h;obtain⟨u,rfl,ru⟩:=vQ r;cases ru;obtain⟨its,rv,p,hz⟩:=I.tuple hq;have i1:IntsAre its ns:=qX rv;have hl:=vO i1;have ha:a<s.heap.objs.size:=by
  obtain⟨o,e,_⟩:=p;exact Heap.lt_size e
 refine PySem.call_sum_walk (wpAny_pyIter_tuple (t:=a) (items:=its.toArray) p ?_);refine⟨s.heap.objs.size,_,_,_,_,_,λi=>ns.getD i 0,rfl,Walks.tuple (show X.A.in1.handled=none from I.ok.hd hc) s.heap.objs.size a (Nat.ne_of_lt ha) its.toArray,⟨⟨_,Heap.get?_push_size _ rfl,rfl,rfl⟩,p.keeps λb o e=>Heap.get?_push_of_some _ e⟩, ?_, ?_, ?_, ?_⟩
 ·intro b hb;show b<(s.heap.push _).objs.size;rw[Heap.size_push];simp only[List.mem_cons,List.not_mem_nil,or_false]at hb;rcases hb with rfl | rfl
  ·exact Nat.lt_succ_self _
  ·exact Nat.lt_succ_of_lt ha
 ·intro i v hv;have hv':its[i]? = some v:=by simpa using hv
  obtain⟨hi,e⟩:=List.getElem?_eq_some_iff.mp hv';obtain⟨n,t,e1,e2⟩:=vI i1 hi;exact⟨t,by dsimp only;rw[<-e,e2,List.getD_eq_getElem?_getD,e1];rfl⟩
 ·intro j hj;have hj':j<ns.length:=by rw[<-hl];simpa using hj
  have b1:=hb ns[j] (List.getElem_mem hj');have b2:=mW (ns.take (j+1)) λn hn'=>hb n (List.mem_of_mem_take hn');have e1:ns.getD j 0=ns[j]:=by rw[List.getD_eq_getElem?_getD,List.getElem?_eq_getElem hj'];rfl
  have l1:(ns.take (j+1)).length<=1000:=by rw[List.length_take];omega
  dsimp only;rw[yV ns (j+1) hj',e1];unfold InLong;refine⟨⟨by omega,by omega⟩,⟨by omega, ?_⟩⟩;have:((ns.take (j+1)).length:Int)*2^40<=1000*2^40:=Int.mul_le_mul_of_nonneg_right (by omega) (by decide);omega
 ·intro h' tk t' k;have e:preSum (λi=>ns.getD i 0) its.toArray.size=ns.sum:=by
   rw[List.size_toArray,hl,yV ns _ (Nat.le_refl _),List.take_length]
  rw[e];refine⟨.int ns.sum,H,I.kept (t':=tk) (λb o q=>?_),⟨t',rfl⟩,q⟩;exact k b o (by simp;exact Nat.ne_of_lt (Heap.lt_size q)) (Heap.get?_push_of_some _ q)
end
end Lw
namespace LwT
open PySem PySem.Spec PyProof.Rows L2 Lw
section
variable{l b:Addr}{as bs:List Value}{xs ys:List Int}{n n2:Nat}{dd dd2:Option Addr}{sl sl2:Array (Option Value)}
end
section
variable{X:Cx}
end
end LwT
namespace L2
open PySem PySem.Spec PyProof.Rows
section
variable{κ:Type} [DecidableEq κ]
noncomputable def valV(kvs:List (κ×V))(k:κ):Option V:=(kvs.find? λkv=>decide (kv.1=k)).map (·.2)
noncomputable def putK(kvs:List (κ×V))(k:κ)(v:V):List (κ×V):=
 if (kvs.any λkv=>decide (kv.1=k))=true then kvs.map (λkv=>if kv.1=k then(kv.1,v)else kv)else kvs++[(k,v)]
noncomputable def uP(kvs:List (κ×V))(k:κ):List (κ×V):=kvs.filter λkv=>decide (kv.1≠k)
theorem gJ{p:κ×V}{r:List (κ×V)}{k:κ}(e:p.1=k):valV (p::r) k=some p.2:=by simp [valV,List.find?_cons,e]
theorem gK{p:κ×V}{r:List (κ×V)}{k:κ}(e:¬p.1=k):valV (p::r) k=valV r k:=by simp [valV,List.find?_cons,e]
theorem valV_any(k:κ):∀kvs:List (κ×V),(kvs.any λkv=>decide (kv.1=k))=(valV kvs k).isSome
 | []=>rfl
 | p::r=>by
  rw[List.any_cons];by_cases e:p.1=k
  ·simp only[gJ e,decide_eq_true e,Bool.true_or,Option.isSome_some]
  ·rw[gK e,decide_eq_false e,Bool.false_or];exact valV_any k r
theorem uO(kvs:List (κ×V))(k:κ)(v:V):(putK kvs k v).length<=kvs.length+1:=by
 unfold putK;split
 ·rw[List.length_map];omega
 ·rw[List.length_append,List.length_cons,List.length_nil];omega
theorem RelO.isSome_eq{o:Option V}{u:Option Value}(r:RelO o u):o.isSome=u.isSome:=by
 cases o with
 | none=>cases u with
  | none=>rfl
  | some _=>exact(show False from r).elim
 | some _=>cases u with
  | none=>exact(show False from r).elim
  | some _=>rfl
theorem RelO.getD{o:Option V}{u:Option Value}{d:V}{d':Value}(r:RelO o u)(rd:RelV d d'):RelV (o.getD d) (u.getD d'):=by
 cases o with
 | none=>cases u with
  | none=>exact rd
  | some _=>exact(show False from r).elim
 | some _=>cases u with
  | none=>exact(show False from r).elim
  | some _=>exact r
theorem KV.val{kvs:List (κ×V)}{vs:List (κ×Value)}(r:KV kvs vs)(k:κ):RelO (valV kvs k) (valueAt vs k):=by
 unfold KV at r;induction r with
 | nil=>exact True.intro
 | @cons p q ps qs h t ih=>
  obtain⟨h1,h2⟩:=h;by_cases e:p.1=k
  ·have e':q.1=k:=h1.symm.trans e;have b:valueAt (q::qs) k=some q.2:=by simp [valueAt,List.find?_cons,e']
   rw[gJ e,b];exact h2
  ·have e':¬q.1=k:=λz=>e (h1.trans z);have b:valueAt (q::qs) k=valueAt qs k:=by simp [valueAt,List.find?_cons,e']
   rw[gK e,b];exact ih
theorem KV.any{kvs:List (κ×V)}{vs:List (κ×Value)}(r:KV kvs vs)(k:κ):(kvs.any λkv=>decide (kv.1=k))=vs.any λkv=>decide (kv.1=k):=by
 unfold KV at r;induction r with
 | nil=>rfl
 | cons h t ih=>rw[List.any_cons,List.any_cons,ih,h.1]
theorem KV.repl{kvs:List (κ×V)}{vs:List (κ×Value)}(r:KV kvs vs)(k:κ){y:V}{u:Value}(ry:RelV y u) :
  KV (kvs.map λkv=>if kv.1=k then(kv.1,y)else kv) (vs.map λkv=>if kv.1=k then(kv.1,u)else kv):=by
 unfold KV at r ⊢;induction r with
 | nil=>exact .nil
 | @cons p q ps qs h t ih=>
  rw[List.map_cons,List.map_cons];refine .cons ?_ ih;obtain⟨h1,h2⟩:=h;by_cases e:p.1=k
  ·rw[if_pos e,if_pos (h1.symm.trans e)];exact⟨h1,ry⟩
  ·rw[if_neg e,if_neg (λz=>e (h1.trans z))];exact⟨h1,h2⟩
theorem KV.put{kvs:List (κ×V)}{vs:List (κ×Value)}(r:KV kvs vs)(k:κ){y:V}{u:Value}(ry:RelV y u):KV (putK kvs k y) (stored vs k u):=by
 unfold putK stored;rw[r.any k];by_cases e:(vs.any λkv=>decide (kv.1=k))=true
 ·rw[if_pos e,if_pos e];exact r.repl k ry
 ·rw[if_neg e,if_neg e];exact Paired.snoc r ⟨rfl,ry⟩
theorem KV.length{kvs:List (κ×V)}{vs:List (κ×Value)}(r:KV kvs vs):kvs.length=vs.length:=Paired.length r
theorem dropK_le(kvs:List (κ×V))(k:κ):(uP kvs k).length<=kvs.length:=List.length_filter_le _ _
end
theorem kV_is{P:Program}{w:World}{k:Key}{u:Value}(r:RelV (kV k) u):(qK P w).is k u=true:=by
 cases k with
 | inl i=>obtain⟨t,e⟩:=(show ∃t,u=Value.int i t from r);subst e;exact mixKind_int P w i t
 | inr x=>obtain⟨t,e⟩:=(show ∃t,u=Value.str x t from r);subst e;exact mixKind_str P w x t
theorem nK{P:Program}{w:World} :∀{ks:List Key} {us:List Value},Vals (ks.map kV) us->ItemsAre (qK P w) ks us
 | [],_,r=>by rw[List.map_nil]at r;cases r;exact .nil
 | k::ks,_,r=>by
  rw[List.map_cons]at r;cases r with
  | cons h t=>exact .cons (kV_is h) (nK t)
noncomputable abbrev KT(H:Hp):List (List Key×V)->List (List Key×Addr×Value)->Prop:=Paired λp q=>p.1=q.1/\H q.2.1=some (.tup (p.1.map kV))/\RelV p.2 q.2.2
theorem KT.val{H:Hp}{kvs:List (List Key×V)}{xs:List (List Key×Addr×Value)}(r:KT H kvs xs)(k:List Key):RelO (valV kvs k) ((atKey xs k).map (·.2)):=by
 induction r with
 | nil=>exact True.intro
 | @cons p q ps qs h t ih=>
  obtain⟨h1,_,h2⟩:=h;by_cases e:p.1=k
  ·have e':q.1=k:=h1.symm.trans e;have b:atKey (q::qs) k=some q.2:=by simp [atKey,List.find?_cons,e']
   rw[gJ e,b];exact h2
  ·have e':¬q.1=k:=λz=>e (h1.trans z);have b:atKey (q::qs) k=atKey qs k:=by simp [atKey,List.find?_cons,e']
   rw[gK e,b];exact ih
theorem KT.repl{H:Hp}{kvs:List (List Key×V)}{xs:List (List Key×Addr×Value)}(r:KT H kvs xs)(k:List Key){y:V}{u:Value}(ry:RelV y u) :
  KT H (kvs.map λkv=>if kv.1=k then(kv.1,y)else kv) (xs.map (putAt k u)):=by
 induction r with
 | nil=>exact .nil
 | @cons p q ps qs h t ih=>
  rw[List.map_cons,List.map_cons];refine .cons ?_ ih;obtain⟨h1,h2,h3⟩:=h;unfold putAt;by_cases e:p.1=k
  ·rw[if_pos e,if_pos (h1.symm.trans e)];exact⟨h1,h2,ry⟩
  ·rw[if_neg e,if_neg (λz=>e (h1.trans z))];exact⟨h1,h2,h3⟩
theorem KT.put{H:Hp}{kvs:List (List Key×V)}{xs:List (List Key×Addr×Value)}(r:KT H kvs xs)(k:List Key){b:Addr}{y:V}{u:Value}(hb:H b=some (.tup (k.map kV)))(ry:RelV y u) :
  KT H (putK kvs k y) (storedH xs k b u):=by
 have e:(kvs.any λkv=>decide (kv.1=k))=(atKey xs k).isSome:=by
  rw[valV_any,(r.val k).isSome_eq,Option.isSome_map]
 unfold putK storedH;rw[e];by_cases q:(atKey xs k).isSome=true
 ·rw[if_pos q,if_pos q];exact r.repl k ry
 ·rw[if_neg q,if_neg q];exact Paired.snoc r ⟨rfl,hb,ry⟩
theorem KT.keeps{H H':Hp}{kvs:List (List Key×V)}{xs:List (List Key×Addr×Value)}(r:KT H kvs xs)(ht:∀b ys,H b=some (.tup ys)->H' b=some (.tup ys)):KT H' kvs xs:=
 Paired.mapP r λ_ _ z=>⟨z.1,ht _ _ z.2.1,z.2.2⟩
section
variable{P:Program}{w:World}{H:Hp}{h:Heap}{a:Addr}
theorem rd_of{u:HO}(ok:HOk P w H h)(e:Rd H a u):ObjOk P w H h a u:=e.ok ok
theorem nP{kvs:List (Key×V)}(ok:HOk P w H h)(e:Rd H a (.dK kvs)):kvs.length<=sizeLine/\(a==sysModules)=false/\∃vs,KV kvs vs/\h.DictOf (qK P w) a vs:=
 show ObjOk P w H h a (.dK kvs)from rd_of ok e
theorem dk_of{kvs:List (Key×V)}(ok:HOk P w H h)(e:H a=some (.dK kvs)):kvs.length<=sizeLine/\(a==sysModules)=false/\∃vs,KV kvs vs/\h.DictOf (qK P w) a vs:=nP ok (.inl e)
theorem yY{ks:List Key}(ok:HOk P w H h)(e:H a=some (.tup (ks.map kV))):(tupleKind (qK P w)).is h ks a:=by
 obtain⟨_,its,r,o,h1,h2,n,h3⟩:=(show ObjOk P w H h a (.tup (ks.map kV))from ok a _ e);exact⟨o,its.toArray,n,h1,h2,h3,by simpa using nK r⟩
theorem zP{kvs:List (List Key×V)}(ok:HOk P w H h)(e:Rd H a (.dT kvs)):kvs.length<=sizeLine/\(a==sysModules)=false/\
  ∃xs,KT H kvs xs/\h.DictOfH (tupleKind (qK P w)) a xs:=by
 obtain⟨z,y,xs,r,o,es,ep,h1,h2,h3,h4,h5⟩:=(show ObjOk P w H h a (.dT kvs)from rd_of ok e);refine⟨z,y,xs,r,o,es,ep,h1,h2,h3,h4,λx hx=>?_,h5⟩;have all:∀{l:List (List Key×V)} {m:List (List Key×Addr×Value)},KT H l m->∀x∈m,(tupleKind (qK P w)).is h x.1 x.2.1:=by
  intro l m q;induction q with
  | nil=>intro x hx;exact nomatch hx
  | @cons p q ps qs hq t ih=>
   intro x hx;rcases List.mem_cons.mp hx with e | hx
   ·subst e;exact yY ok (by rw[<-hq.1];exact hq.2.1)
   ·exact ih x hx
 exact all r x hx
theorem dt_of{kvs:List (List Key×V)}(ok:HOk P w H h)(e:H a=some (.dT kvs)):kvs.length<=sizeLine/\(a==sysModules)=false/\
  ∃xs,KT H kvs xs/\h.DictOfH (tupleKind (qK P w)) a xs:=zP ok (.inl e)
end
noncomputable def DGet(H:Hp)(a:Addr)(y:V)(r:Option V):Prop:=
 (∃kvs k,Rd H a (.dK kvs)/\y=kV k/\r=valV kvs k)∨∃kvs k b,Rd H a (.dT kvs)/\y=.ref b/\H b=some (.tup (k.map kV))/\r=valV kvs k
noncomputable def DPut(H:Hp)(a:Addr)(y v:V)(H':Hp):Prop:=
 (∃kvs k,H a=some (.dK kvs)/\y=kV k/\kvs.length<sizeLine/\H'=upd H a (.dK (putK kvs k v)))∨
 ∃kvs k b,H a=some (.dT kvs)/\y=.ref b/\H b=some (.tup (k.map kV))/\kvs.length<sizeLine/\H'=upd H a (.dT (putK kvs k v))
theorem DGet.t{H:Hp}{a b:Addr}{kvs:List (List Key×V)}{k:List Key}(e:H a=some (.dT kvs))(eb:H b=some (.tup (k.map kV))):DGet H a (.ref b) (valV kvs k):=.inr ⟨kvs,k,b,.inl e,rfl,eb,rfl⟩
theorem DPut.t{H:Hp}{a b:Addr}{kvs:List (List Key×V)}{k:List Key}{v:V}(e:H a=some (.dT kvs))(eb:H b=some (.tup (k.map kV)))(hl:kvs.length<sizeLine) :
  DPut H a (.ref b) v (upd H a (.dT (putK kvs k v))):=.inr ⟨kvs,k,b,e,rfl,eb,hl,rfl⟩
section
variable{X:Cx}{pins:List (Addr×Obj)}{σ:St}{H:Hp}{s:Shared}{a:Addr}{y v:V}{u r:Value}{o:Option V}{A:Around}{E:Value->Shared->Prop}
theorem Inv.big(I:Inv X pins σ H s):sysModules<s.heap.objs.size:=by
 have h:mainGlobals<s.heap.objs.size:=(I.mod.glob.keeps I.bk).lt;exact Nat.lt_trans (by decide) h
theorem d_getItem{Q:Value->Shared->Prop}(hu:A.units+1<cLine)(I:Inv X pins σ H s)(g:DGet H a y (some v))(ry:RelV y u)(h:∀w' s',Inv X pins σ H s'->RelV v w'->Q w' s') :
  wpAny (model X.prog X.w) A (getItem (.ref a) u) Q E s:=by
 rcases g with⟨kvs,k,e,ey,l⟩ | ⟨kvs,k,b,e,ey,eb,l⟩
 ·subst ey;obtain⟨z,hd,vs,rel,dd⟩:=nP I.hok e;obtain⟨w',hw,rw'⟩:=RelO.some_of (v:=v) (o:=valueAt vs k) (by rw[l];exact rel.val k);exact wpAny_getItem_of (kV_is ry) dd.mapOf hw (h w' _ (I.tok _) rw')
 ·subst ey;cases (show u=Value.ref b from ry);obtain⟨z,hd,xs,rel,dd⟩:=zP I.hok e;obtain⟨w',hw,rw'⟩:=RelO.some_of (v:=v) (o:=(atKey xs k).map (·.2)) (by rw[l];exact rel.val k);obtain⟨p,hp,hp2⟩:=Option.map_eq_some_iff.mp hw;refine wpAny_getItem_heap (tupleKind_room_in1 hu) (yY I.hok eb) dd hp ?_;rw[hp2];exact h w' _ (I.tok _) rw'
theorem d_in{Q:Value->Shared->Prop}(hu:A.units+1<cLine)(I:Inv X pins σ H s)(g:DGet H a y o)(ry:RelV y u)(h:∀s',Inv X pins σ H s'->Q (.bool o.isSome) s') :
  wpAny (model X.prog X.w) A (compareOp .In u (.ref a)) Q E s:=by
 rcases g with⟨kvs,k,e,ey,l⟩ | ⟨kvs,k,b,e,ey,eb,l⟩
 ·subst ey;obtain⟨z,hd,vs,rel,dd⟩:=nP I.hok e;refine wpAny_in_of (kV_is ry) hd dd.mapOf ?_;rw[<-(rel.val k).isSome_eq,<-l];exact h _ (I.tok _)
 ·subst ey;cases (show u=Value.ref b from ry);obtain⟨z,hd,xs,rel,dd⟩:=zP I.hok e;refine wpAny_in_heap (tupleKind_room_in1 hu) (yY I.hok eb) hd dd ?_;have q:=(rel.val k).isSome_eq;rw[Option.isSome_map]at q;rw[<-q,<-l];exact h _ (I.tok _)
theorem gH{h':Heap}{t':Nat}{ob:HO}(I:Inv X pins σ H s)(mu:Mut (H a))(hs:Heap.SameBut a s.heap h')(he:∃q,h'.get? a=some q)(new:ObjOk X.prog X.w (upd H a ob) h' a ob) :
  Inv X pins σ (upd H a ob) { s with heap:=h',toks:=t' } :=
 I.write (x:=a) (e:=a) mu (.inl rfl) (λb q hb z=>(hs.2 b hb).trans z) he new
theorem dk_new{P:Program}{w:World}{H':Hp}{h':Heap}{kvs:List (Key×V)}{vs:List (Key×Value)}(z:kvs.length<=sizeLine)(hd:(a==sysModules)=false)(rel:KV kvs vs)(dd:h'.DictOf (qK P w) a vs) :
  ObjOk P w H' h' a (.dK kvs):=⟨z,hd,vs,rel,dd⟩
theorem d_setItem{H':Hp}{Q:Unit->Shared->Prop}(hu:A.units+1<cLine)(I:Inv X pins σ H s)(g:DPut H a y v H')(ry:RelV y u)(rv:RelV v r)(h:∀s',Inv X pins σ H' s'->Q () s') :
  wpAny (model X.prog X.w) A (setItem (.ref a) u r) Q E s:=by
 rcases g with⟨kvs,k,e,ey,l,eH⟩ | ⟨kvs,k,b,e,ey,eb,l,eH⟩
 ·subst ey eH;obtain⟨z,hd,vs,rel,dd⟩:=dk_of I.hok e;have hz:vs.length<=sizeLine:=by rw[<-rel.length];exact z
  have hl:(putK kvs k v).length<=sizeLine:=by have:=uO kvs k v;omega
  refine wpAny_setItem_pairs (hsz:=hz) (kV_is ry) dd λh' dd' hs=>h _ ?_;have he:∃q,h'.get? a=some q:=let ⟨q,_,_,hq,_⟩:=dd';⟨q,hq⟩;exact gH I (by rw[e];exact True.intro) hs he (dk_new hl hd (rel.put k rv) dd')
 ·subst ey eH;cases (show u=Value.ref b from ry);obtain⟨z,hd,xs,rel,dd⟩:=dt_of I.hok e;have hz:xs.length<=sizeLine:=by rw[<-Paired.length rel];exact z
  have hl:(putK kvs k v).length<=sizeLine:=by have:=uO kvs k v;omega
  refine wpAny_setItem_heap (hsz:=hz) (tupleKind_room_in1 hu) (yY I.hok eb) dd λh' dd' hs=>h _ ?_;obtain⟨q,es,ep,hq,h2,h3,h4,_,h5⟩:=dd';refine gH I (by rw[e];exact True.intro) hs ⟨q,hq⟩ ⟨hl,hd,_,(rel.put k eb rv).keeps λc ys ec=>?_,q,es,ep,hq,h2,h3,h4,h5⟩;rw[jQ (ne_of ec e (λz=>nomatch z))];exact ec
end
section
variable{X:Cx}{pins:List (Addr×Obj)}{σ:St}{H:Hp}{s:Shared}{a:Addr}{kvs:List (Key×V)}{k:Key}{u:Value}{A:Around}{E:Value->Shared->Prop}
end
noncomputable def NoSl(i:Expr):Prop:=∀ov iv,subscripted i false ov iv=operate [ov,iv] (getItem ov iv)
theorem subD_of{prog:Program}{w:World}{A:Around}{E:Value->Shared->Prop}{s:Shared}{env:Env}{value slice:Expr}{pos:Pos}{T id:String}{Q:Value->Shared->Prop}
  (hl:typeLookup (.type T) "__getitem__" = pure (some (.builtin id))) (hs:NoSl slice)
  (h:wpAny (model prog w) A (eval value env) (λo s₁=>wpAny (model prog w) A (eval slice env) (λi s₂=>s₂.TypeIs o T/\wpAny (model prog w) A (getItem o i) Q E s₂) E s₁) E s) :
  wpAny (model prog w) A (eval (.Subscript value slice pos) env) Q E s:=by
 refine Subscript_ (wpAny_mono h (λo s₁ h₁=>wpAny_mono h₁ (λi s₂ h₂=>?_) λ_ _ x=>x) λ_ _ x=>x);obtain⟨hT,h₂⟩:=h₂;unfold subscriptTail;refine wpAny_bind ?_;rw[getitemInPython_of_ne hT.not_modules];refine wpAny_bind (wpAny_specialOf hT hl ?_);have fin:wpAny (model prog w) A (subscripted slice false o i) (λr s₃=>wpAny (model prog w) A (letTemporaryGo value o r >>= λ_=>pure r) Q E s₃) E s₂:=by
  rw[hs o i];exact wpAny_operating (wpAny_mono h₂ (λr s₃ h₃=>wpAny_bind (wpAny_letTemporaryGo (wpAny_pure h₃))) λ_ _ x=>x)
 first
  | exact wpAny_pure (wpAny_bind fin)
  | exact wpAny_bind (wpAny_pure (wpAny_bind fin))
  | exact wpAny_bind fin
theorem dict_typeIs{X:Cx}{pins:List (Addr×Obj)}{σ:St}{H:Hp}{s:Shared}{a:Addr}{y:V}{o:Option V}(I:Inv X pins σ H s)(g:DGet H a y o):s.TypeIs (.ref a) "dict":=by
 rcases g with⟨kvs,k,e,_,_⟩ | ⟨kvs,k,b,e,_,_,_⟩
 ·obtain⟨_,_,vs,_,dd⟩:=nP I.hok e;exact dd.typeIs
 ·obtain⟨_,_,xs,_,dd⟩:=zP I.hok e;exact dd.typeIs
noncomputable def tDGet(td ty:TE):TE:=fun σ H Q=>td σ H λx H1=>ty σ H1 λy H2=>∃a v,x=.ref a/\DGet H2 a y (some v)/\Q v H2
noncomputable def tDIn(ty td:TE):TE:=fun σ H Q=>ty σ H λy H1=>td σ H1 λx H2=>∃a o,x=.ref a/\DGet H2 a y o/\Q (.bl o.isSome) H2
noncomputable def sDPut(td ty tv:TE):TS:=λD σ H=>tv σ H λv H1=>td σ H1 λx H2=>ty σ H2 λy H3=>∃a H4,x=.ref a/\DPut H3 a y v H4/\D.nx σ H4
section
variable{X:Cx}{o i e value:Expr}{pos pos' tpos:Pos}{td ty tv:TE}
theorem xO(hu:X.A.units+1<cLine)(ho:PE X o td)(hi:PE X i ty)(hs:NoSl i):PE X (.Subscript o i pos) (tDGet td ty):=by
 intro pins s σ H Q I h;refine subD_of PySem.F.slot_dict_getitem.lookup hs (thn (ho pins s σ H _ I h) λu s1 ⟨x,H1,I1,rx,q1⟩=>thn (hi pins s1 σ H1 _ I1 q1) λiv s2 ⟨y,H2,I2,ry,a,v,ex,g,q2⟩=>?_);subst ex;obtain rfl:u=Value.ref a:=rx;exact⟨dict_typeIs I2 g,d_getItem hu I2 g ry λw' s3 I3 rw'=>⟨v,H2,I3,rw',q2⟩⟩
theorem pc_din(hu:X.A.units+1<cLine)(hi:PE X i ty)(ho:PE X o td):PC X .In i o (tDIn ty td):=by
 intro pins s σ H Q I h;refine thn (hi pins s σ H _ I h) λiv s1 ⟨y,H1,I1,ry,q1⟩=>thn (ho pins s1 σ H1 _ I1 q1) λu s2 ⟨x,H2,I2,rx,a,ov,ex,g,q2⟩=>?_;subst ex;obtain rfl:u=Value.ref a:=rx;exact d_in hu I2 g ry λs3 I3=>⟨.bl ov.isSome,H2,I3,rfl,q2⟩
theorem ps_dput(hu:X.A.units+1<cLine)(ho:PE X o td)(hi:PE X i ty)(hv:PE X value tv)(hs:swapsWith value (some (.Subscript o i pos')) pos.line X.env=pure false) :
  PS X (.Assign [.Subscript o i pos'] value pos) (sDPut td ty tv):=by
 intro pins s σ H D I h;refine wpAny_Assign_Subscript (thn (hv pins s σ H _ I h) λr s1 ⟨v,H1,I1,rv,q1⟩=>thn (ho pins s1 σ H1 _ I1 q1) λu s2 ⟨x,H2,I2,rx,q2⟩=>thn (hi pins s2 σ H2 _ I2 q2) λiv s3 ⟨y,H3,I3,ry,a,H4,ex,g,q3⟩=>?_) hs;subst ex;obtain rfl:u=Value.ref a:=rx;exact d_setItem hu I3 g ry rv λs4 I4=>⟨σ,H4,I4,q3⟩
end
theorem dt_empty{P:Program}{w:World}{H:Hp}(h:Heap)(hb:sysModules<h.objs.size):ObjOk P w H (h.push { cls:=.type "dict",data:=.dict #[] }) h.objs.size (.dT []):=
 ⟨Nat.zero_le _,beq_eq_false_iff_ne.mpr (Ne.symm (Nat.ne_of_lt hb)),[],.nil,_,#[],0,Heap.get?_push_size _ rfl,⟨rfl,rfl,rfl⟩,rfl,rfl,List.nodup_nil⟩
noncomputable def tDNewT:TE:=λ_ H Q=>∀p,H p=none->Q (.ref p) (upd H p (.dT []))
section
variable{X:Cx}{pos:Pos}
theorem xX:PE X (.Dict [] [] pos) tDNewT:=λpins s σ H Q I h=>
 wpAny_Dict_empty ⟨.ref s.heap.objs.size,_,I.laid (a:=s.heap.objs.size) (o:=.dT []) (t':=s.toks) (λ_ _ q=>Heap.get?_push_of_some _ q) (Nat.le_refl _) (dt_empty s.heap I.big),rfl,h _ (I.hok.fresh (Nat.le_refl _))⟩
end
structure M1(X:Cx)(o:Expr)(m:Str)(apos:Pos)(e:Expr)(cpos:Pos):Prop where
 base:attributeBase o m X.env (eval o X.env)=eval o X.env
 few:((backTo cpos (starEach [e] X.env)).all (λx=>!x.1)&&(backToKw cpos (keywordEach [] X.env)).all (λx=>x.1.isSome)
  &&decide (([e]:List Expr).length+([]:List Keyword).length+(if ([]:List Keyword).isEmpty then 0 else 1)<30))=true
 line:(apos.endLine==cpos.line)=true
 trees:backTo cpos (starEach [e] X.env)=[(false,eval e X.env)]
structure M2(X:Cx)(o:Expr)(m:Str)(apos:Pos)(e f:Expr)(cpos:Pos):Prop where
 base:attributeBase o m X.env (eval o X.env)=eval o X.env
 few:((backTo cpos (starEach [e,f] X.env)).all (λx=>!x.1)&&(backToKw cpos (keywordEach [] X.env)).all (λx=>x.1.isSome)
  &&decide (([e,f]:List Expr).length+([]:List Keyword).length+(if ([]:List Keyword).isEmpty then 0 else 1)<30))=true
 line:(apos.endLine==cpos.line)=true
 trees:backTo cpos (starEach [e,f] X.env)=[(false,eval e X.env),(false,eval f X.env)]
noncomputable def IsD(H:Hp)(a:Addr):Prop:=(∃kvs,Rd H a (.dK kvs))∨∃kvs,Rd H a (.dT kvs)
theorem isD_at{X:Cx}{pins:List (Addr×Obj)}{σ:St}{H:Hp}{s:Shared}{a:Addr}(I:Inv X pins σ H s)(d:IsD H a) :
  s.TypeIs (.ref a) "dict"/\(∀b,Value.ref a=.ref b->∃ob,s.heap.get? b=some ob/\ob.dict=none)/\(a==sysModules)=false:=by
 rcases d with⟨kvs,e⟩ | ⟨kvs,e⟩
 ·obtain⟨_,hd,vs,_,dd⟩:=nP I.hok e;refine⟨dd.typeIs,λb q=>?_,hd⟩;cases q;obtain⟨ob,_,_,h1,h2,_⟩:=dd;exact⟨ob,h1,h2.2.1⟩
 ·obtain⟨_,hd,xs,_,dd⟩:=zP I.hok e;refine⟨dd.typeIs,λb q=>?_,hd⟩;cases q;obtain⟨ob,_,_,h1,h2,_⟩:=dd;exact⟨ob,h1,h2.2.1⟩
section
variable{X:Cx}{pins:List (Addr×Obj)}{σ:St}{H:Hp}{s:Shared}{a:Addr}{y d:V}{u r:Value}{o:Option V}{A:Around}{E:Value->Shared->Prop}
theorem d_get2{Q:Value->Shared->Prop}(hu:A.units+1<cLine)(I:Inv X pins σ H s)(g:DGet H a y o)(ry:RelV y u)(rd:RelV d r)(h:∀w' s',Inv X pins σ H s'->RelV (o.getD d) w'->Q w' s') :
  wpAny (model X.prog X.w) A (call (.builtin "dict.get") [.ref a,u,r]) Q E s:=by
 rcases g with⟨kvs,k,e,ey,l⟩ | ⟨kvs,k,b,e,ey,eb,l⟩
 ·subst ey;obtain⟨z,hd,vs,rel,dd⟩:=nP I.hok e;refine call_meetsIn PySem.F.slot_dict_get dd.typeIs PySem.F.entry_dict_get (PySem.F.args_dict_get_3 _ _ _) (meets_dict_get_default (qK X.prog X.w) a (kV_is ry) hd r) ⟨_,dd.mapOf,h _ _ (I.tok _) ?_⟩;rw[l];exact(rel.val k).getD rd
 ·subst ey;cases (show u=Value.ref b from ry);obtain⟨z,hd,xs,rel,dd⟩:=zP I.hok e;refine call_meetsIn PySem.F.slot_dict_get dd.typeIs PySem.F.entry_dict_get (PySem.F.args_dict_get_3 _ _ _) (meetsH_dict_get_default (tupleKind (qK X.prog X.w)) a b hd r) ⟨tupleKind_room_in1 hu,k,xs,yY I.hok eb,dd,h _ _ (I.tok _) ?_⟩;rw[l];exact(rel.val k).getD rd
end
noncomputable def tDGet2(td ty tx:TE):TE:=fun σ H Q=>td σ H λx H1=>∃a,x=.ref a/\IsD H1 a/\ty σ H1 λy H2=>tx σ H2 λz H3=>∃o,DGet H3 a y o/\Q (o.getD z) H3
section
variable{X:Cx}{o e f:Expr}{apos cpos:Pos}{td ty tx:TE}
theorem pe_dget2(hu:X.A.units+1<cLine)(ho:PE X o td)(he:PE X e ty)(hf:PE X f tx)(m:M2 X o "get" apos e f cpos):PE X (.Call (.Attribute o "get" apos) [e,f] [] cpos) (tDGet2 td ty tx):=by
 intro pins s σ H Q I h;refine wpAny_Call_method m.base m.few m.line PySem.F.plainAttrs_dict PySem.F.slot_dict_get PySem.F.type_dict_get (thn (ho pins s σ H _ I h) λu s1 ⟨x,H1,I1,rx,a,ex,d,q1⟩=>?_);subst ex;obtain rfl:u=Value.ref a:=rx;obtain⟨t1,t2,_⟩:=isD_at I1 d;refine⟨t1,t2, ?_⟩;rw[m.trees];refine Calls.callWith_builtin rfl (Calls.evalArgs_plain (Calls.spliced_cons (thn (he pins s1 σ H1 _ I1 q1) λiv s2 ⟨y,H2,I2,ry,q2⟩=>
  Calls.spliced_cons (thn (hf pins s2 σ H2 _ I2 q2) λfv s3 ⟨z,H3,I3,rz,ov,g,q3⟩=>Calls.spliced_nil ?_))))
 exact d_get2 hu I3 g ry rz λw' s4 I4 rw'=>⟨_,H3,I4,rw',q3⟩
end
section
variable{X:Cx}{pins:List (Addr×Obj)}{σ:St}{H:Hp}{s:Shared}{a:Addr}{kvs:List (Key×V)}{A:Around}{E:Value->Shared->Prop}
end
section
variable{X:Cx}{pins:List (Addr×Obj)}{σ:St}{H:Hp}{s:Shared}{a:Addr}{y:V}{u:Value}{A:Around}{E:Value->Shared->Prop}
end
end L2
namespace L2
open PySem PySem.Spec PyProof.Rows
section
variable{X:Cx}
end
end L2
namespace L2
section
variable{κ:Type} [DecidableEq κ]
end
end L2
namespace LwD
open PySem PySem.Spec PyProof.Rows L2
theorem KTdrop{H:Hp}{kvs:List (List Key×V)}{xs:List (List Key×Addr×Value)}(r:KT H kvs xs)(k:List Key):KT H (uP kvs k) (xs.filter λx=>decide (x.1≠k)):=by
 induction r with
 | nil=>exact .nil
 | @cons p q ps qs h t ih=>
  unfold uP at ih ⊢;rw[List.filter_cons,List.filter_cons];by_cases e:p.1=k
  ·rw[if_neg (by simp [e]),if_neg (by rw[h.1]at e;simp [e])];exact ih
  ·rw[if_pos (by simp [e]),if_pos (by rw[h.1]at e;simp [e])];exact .cons h ih
theorem nG{α β:Type}(f:α->β):∀(xs:List α) (j:Nat),(xs.map f).eraseIdx j=(xs.eraseIdx j).map f
 | [],_=>rfl
 | _::_,0=>rfl
 | x::r,j+1=>by rw[List.map_cons,List.eraseIdx_cons_succ,List.eraseIdx_cons_succ,List.map_cons,nG f r j]
theorem wX{K:Type} [DecidableEq K]{k:K} :∀{xs:List (K×Addr×Value)} {j:Nat} {p:Addr×Value},(xs.map (·.1)).Nodup->xs[j]? = some (k,p)->xs.eraseIdx j=xs.filter λx=>decide (x.1≠k)
 | [],_,_,_,e=>by simp at e
 | x::r,0,p,hn,e=>by
  simp only[List.getElem?_cons_zero,Option.some.injEq]at e;subst e;rw[List.map_cons,List.nodup_cons]at hn;rw[List.eraseIdx_zero,List.tail_cons,List.filter_cons,if_neg (by simp)]
  symm
  rw[List.filter_eq_self];intro y hy;have:y.1≠k:=λz=>hn.1 (List.mem_map.mpr ⟨y,hy,z⟩);simp [this]
 | x::r,j+1,p,hn,e=>by
  rw[List.map_cons,List.nodup_cons]at hn;have e':r[j]? = some (k,p):=by simpa using e
  have hx:x.1≠k:=λz=>hn.1 (z▸List.mem_map.mpr ⟨(k,p),List.mem_of_getElem? e',rfl⟩);rw[List.eraseIdx_cons_succ,List.filter_cons,if_pos (by simp [hx]),wX hn.2 e']
section
variable{prog:Program}{w:World}{K:Type} [DecidableEq K]{knd:HeapKind prog w K}{A:Around}{E:Value->Shared->Prop}{s:Shared}
theorem takeOut_heap{d a:Addr}{xs:List (K×Addr×Value)}{k:K}{p:Addr×Value}{Q:Option DictEntry->Shared->Prop}(hu:knd.room A)(hkey:knd.is s.heap k a)(hm:s.heap.DictOfH knd d xs)(hz:xs.length<=sizeLine)(hp:atKey xs k=some p)
  (hs:∀h',h'.DictOfH knd d (xs.filter λx=>decide (x.1≠k))->Heap.SameBut d s.heap h'->Q (some (entryOfKey knd (k,p))) { s with heap:=h',toks:=s.toks+knd.draws k }) :
  wpAny (model prog w) A (Builtin.Dict.takeOut d (.ref a)) Q E s:=by
 obtain⟨o,es,ep,ho,hc,hd,he,his,hn⟩:=hm;have hes:es.size<=sizeLine:=by rw[size_of_entries he];exact hz
 unfold Builtin.Dict.takeOut;try with_reducible refine wpAny_holding ?_
 refine wpAny_bind (knd.pyHash hu hkey (wpAny_bind (wpAny_dictFind_heap (s:={ s with toks:=s.toks+knd.draws k }) hu hkey ho hd he his hn ?_ ?_)))
 ·intro hno;rw[atKey_none_of_get hno]at hp;cases hp
 ·intro j p' hj;rw[atKey_of_get hn hj]at hp;cases hp;refine wpAny_bind (wpAny_dictEntries (s:={ s with toks:=s.toks+knd.draws k }) ho hd ?_);rw[entry_at he j,hj];refine wpAny_bind (wpAny_updateDictKeys (hz:=hes) (s:={ s with toks:=s.toks+knd.draws k }) ho hd (wpAny_pure (hs _ ⟨_,_,ep+1,Heap.get?_update_self _ ho (Obj.isFreed_of_dict (Obj.data_mapDictKeys hd _)),hc.mapDictKeys _,Obj.data_mapDictKeys hd _, ?_, ?_, ?_⟩ (Heap.SameBut.update ..))))
  ·rw[<-wX hn hj];obtain⟨l⟩:=es;simp only at he;subst he;show((List.map (entryOfKey knd) xs).toArray.eraseIdxIfInBounds j).toList=_;rw[List.eraseIdxIfInBounds_toArray];exact nG _ xs j
  ·intro x hx;exact knd.keeps (his x (List.mem_filter.mp hx).1) ho hd (Heap.SameBut.update ..)
  ·exact hn.sublist (List.filter_sublist.map _)
theorem meets_popT{d a:Addr}{k:K} :
  MeetsIn prog w (Builtin.«dict.pop» ⟨[.ref d,.ref a],[]⟩) (λA R s=>∃xs p,knd.room A.in1/\knd.is s.heap k a/\s.heap.DictOfH knd d xs/\xs.length<=sizeLine/\atKey xs k=some p/\
   ∀h',h'.DictOfH knd d (xs.filter λx=>decide (x.1≠k))->Heap.SameBut d s.heap h'->R (.ok (.ret p.2)) { s with heap:=h',toks:=s.toks+knd.draws k }):=
 .of_wp λA R s ⟨xs,p,hu,hkey,hm,hz,hp,h⟩=>by
  unfold Builtin.«dict.pop»;refine wpAny_bind ?_;unfold Builtin.Dict.keyAndDefault;refine wpAny_bind (wpAny_notOrdered_dict hm.typeIs ?_);show wpAny _ _ (pure (d,Value.ref a,none)) _ _ s;refine wpAny_pure ?_;obtain⟨o,es,ep,ho,hc,hd,he,his,hn⟩:=id hm;have ne:es.isEmpty=false:=by
   have e1:=size_of_entries he;have e2:xs≠[]:=λz=>by subst z;cases hp
   have e3:0<xs.length:=List.length_pos_iff.mpr e2;rw[Array.isEmpty_eq_false_iff_exists_mem];exact⟨es[0]'(by omega),Array.getElem_mem _⟩
  have go:wpAny (model prog w) A.in1 (Builtin.Dict.takeOut d (.ref a)) (λold s'=>old=some (entryOfKey knd (k,p))/\R (.ok (.ret p.2)) s') (λ_ _=>False) s:=
   takeOut_heap hu hkey hm hz hp λh' hm' hs'=>⟨rfl,h h' hm' hs'⟩
  have kp:(keyPart (Value.ref a)).isSome=false:=rfl;simp only[kp,Bool.false_eq_true,if_false];refine wpAny_bind (wpAny_dictEntries ho hd ?_);rw[ne];refine wpAny_bind (wpAny_pure ?_);simp only[Bool.false_eq_true,if_false];refine wpAny_bind (wpAny_mono go (λold s' ⟨e1,hR⟩=>?_) λ_ _ z=>z.elim);subst e1;simp only[Option.isNone_some,Bool.false_eq_true,if_false];exact wpAny_bind (wpAny_letGo (wpAny_pure ⟨p.2,rfl,hR⟩))
end
section
variable{X:Cx}{pins:List (Addr×Obj)}{σ:L2.St}{H:Hp}{s:Shared}{a b:Addr}{kvs:List (List Key×V)}{k:List Key}{E:Value->Shared->Prop}
theorem d_popT{v:V}{Q:Value->Shared->Prop}(hu:X.A.units+1<cLine)(I:Inv X pins σ H s)(e:H a=some (.dT kvs))(eb:H b=some (.tup (k.map kV)))(l:valV kvs k=some v)
  (h:∀w' s',Inv X pins σ (upd H a (.dT (uP kvs k))) s'->RelV v w'->Q w' s'):wpAny (model X.prog X.w) X.A (call (.builtin "dict.pop") [.ref a,.ref b]) Q E s:=by
 obtain⟨z,hd,xs,rel,dd⟩:=dt_of I.hok e;have hz:xs.length<=sizeLine:=by rw[<-Paired.length rel];exact z
 have rv:=rel.val k;rw[l]at rv;cases hp:atKey xs k with
 | none=>rw[hp]at rv;exact rv.elim
 | some p=>
  rw[hp]at rv;refine call_meetsIn PySem.F.slot_dict_pop dd.typeIs PySem.F.entry_dict_pop (PySem.F.args_dict_pop_2 _ _) (meets_popT (knd:=tupleKind (qK X.prog X.w)) (k:=k)) ⟨xs,p,tupleKind_room_in1 hu,yY I.hok eb,dd,hz,hp,λh' dd' hs=>h p.2 _ ?_ rv⟩;obtain⟨q,es,ep,hq,h2,h3,h4,_,h5⟩:=dd';have hl:(uP kvs k).length<=sizeLine:=Nat.le_trans (dropK_le kvs k) z;refine gH I (by rw[e];exact True.intro) hs ⟨q,hq⟩ ⟨hl,hd,_,(KTdrop rel k).keeps λc ys ec=>?_,q,es,ep,hq,h2,h3,h4,h5⟩;rw[jQ (ne_of ec e (λz=>nomatch z))];exact ec
variable{o e:Expr}{td ty:TE}{apos cpos:Pos}
noncomputable def tDPopT(td ty:TE):TE:=fun σ H Q=>td σ H λx H1=>∃a,x=.ref a/\IsD H1 a/\ty σ H1 λy H2=>∃kvs k v b,H2 a=some (.dT kvs)/\y=.ref b/\H2 b=some (.tup (k.map kV))/\valV kvs k=some v/\Q v (upd H2 a (.dT (uP kvs k)))
theorem pe_dpopT(hu:X.A.units+1<cLine)(ho:PE X o td)(he:PE X e ty)(m:M1 X o "pop" apos e cpos):PE X (.Call (.Attribute o "pop" apos) [e] [] cpos) (tDPopT td ty):=by
 intro pins s σ H Q I h;refine wpAny_Call_method m.base m.few m.line PySem.F.plainAttrs_dict PySem.F.slot_dict_pop PySem.F.type_dict_pop (thn (ho pins s σ H _ I h) λu s1 ⟨x,H1,I1,rx,a,ex,d,q1⟩=>?_);subst ex;obtain rfl:u=Value.ref a:=rx;obtain⟨t1,t2,_⟩:=isD_at I1 d;refine⟨t1,t2, ?_⟩;rw[m.trees];refine Calls.callWith_builtin rfl (Calls.evalArgs_plain (Calls.spliced_cons (thn (he pins s1 σ H1 _ I1 q1) λiv s2 ⟨y,H2,I2,ry,kvs,k,v,b,ea,ey,eb,l,q2⟩=>Calls.spliced_nil ?_)));subst ey;cases ry;exact d_popT hu I2 ea eb l λw' s3 I3 rw'=>⟨v,_,I3,rw',q2⟩
end
end LwD
namespace LwD
open PySem PySem.Spec PyProof.Rows L2
noncomputable def Raw(h:Heap)(d:Addr)(es:Array DictEntry)(ep:Nat):Prop:=∃o,h.get? d=some o/\o.ExactDict/\o.data=.dict es ep
theorem Raw.lt{h:Heap}{d:Addr}{es:Array DictEntry}{ep:Nat}(r:Raw h d es ep):d<h.objs.size:=let ⟨_,e,_⟩:=r;Heap.lt_size e
theorem Raw.keep{h h':Heap}{d:Addr}{es:Array DictEntry}{ep:Nat}(r:Raw h d es ep)(k:∀o,h.get? d=some o->h'.get? d=some o):Raw h' d es ep:=let ⟨o,e,x⟩:=r;⟨o,k o e,x⟩
theorem Raw.ty{s:Shared}{d:Addr}{es:Array DictEntry}{ep:Nat}(r:Raw s.heap d es ep):s.TypeIs (.ref d) "dict":=let ⟨o,e,c,_⟩:=r;⟨o,e,c.1⟩
section
variable{prog:Program}{w:World}{A:Around}{E:Value->Shared->Prop}{s:Shared}{d it:Addr}{es:Array DictEntry}{ep i:Nat}
theorem raw_iter{Q:Value->Shared->Prop}(lo:(d==sysModules)=false)(r:Raw s.heap d es ep)
  (q:Q (.ref s.heap.objs.size) { s with heap:=s.heap.push { cls:=.type "dict_keyiterator",data:=.fields #[.ref d,.int 0 0,.int es.size 0,.int ep 0] } }):wpAny (model prog w) A (pyIter (.ref d)) Q E s:=by
 have ty:=r.ty;obtain⟨o,ho,hc,hdat⟩:=r;refine wpAny_pyIter_slot ty PySem.F.slot_dict_iter (wpAny_call_entry PySem.F.slot_dict_iter ty PySem.F.entry_dict_iter ?_ (PySem.F.args_dict_iter_1 _));unfold Builtin.«dict.__iter__»;refine wpAny_bind (show wpAny _ _ (Builtin.Dict.dictSlotNone _ _) _ _ s from ?_);unfold Builtin.Dict.dictSlotNone;refine wpAny_bind (wpAny_notOrdered_dict ty (show wpAny _ _ (pure (Value.ref d)) _ _ s from wpAny_pure ?_));show wpAny _ _ (Builtin.Dict.showsAll d >>= _) _ _ s;unfold Builtin.Dict.showsAll;rw[if_neg (by rw[lo];exact Bool.false_ne_true)];refine wpAny_bind (wpAny_pure (wpAny_bind (wpAny_dictEntries ho hdat (wpAny_bind (wpAny_dictEpoch ho hdat ?_)))));refine wpAny_bind (wpAny_newObj_type (wpAny_pure ⟨_,rfl,"dict_keyiterator",_,⟨_,Heap.get?_push_size _ rfl,rfl⟩,PySem.F.slot_dict_keyiterator_next.lookup, ?_⟩));simpa [rawInt]using q
theorem raw_next{Q:Option Value->Shared->Prop}(k:s.heap.IsKeyIter it d i es.size ep)(r:Raw s.heap d es ep)(hi:i<es.size)
  (q:∀h',h'.IsKeyIter it d (i+1) es.size ep->Heap.SameBut it s.heap h'->Q (some es[i].key) { s with heap:=h' }):wpAny (model prog w) A (pyNext (.ref it)) Q E s:=by
 have ty:=k.typeIs;obtain⟨o,ho,hc,hd⟩:=id k;obtain⟨od,hod,hcd,hdd⟩:=id r;have own:Builtin.Dict_items.ownsTuple "dict_keyiterator" = false:=by decide
 unfold pyNext;refine wpAny_bind (wpAny_attempt (wpAny_callSpecial?_slot (name:=Str.ofString "__next__") ty PySem.F.slot_dict_keyiterator_next (wpAny_call_entry PySem.F.slot_dict_keyiterator_next ty PySem.F.entry_dict_keyiterator_next ?_ (PySem.F.args_dict_keyiterator_next_1 _))));refine wpAny_bind (wpAny_pure (wpAny_bind (wpAny_bind ?_)));first | refine wpAny_bind (wpAny_typeNameOfWhole_keyiter ty (wpAny_pure (wpAny_bind (wpAny_fieldsOf ho hd ?_)))) | refine wpAny_bind (wpAny_typeNameOf_keyiter ty (wpAny_pure (wpAny_bind (wpAny_fieldsOf ho hd ?_))))
 simp only[own,Bool.false_eq_true,if_false];show wpAny _ _ (if (Value.ref d==Value.none)=true then _ else _) _ _ s;rw[if_neg (show ¬((Value.ref d==Value.none)=true)from Bool.false_ne_true)];refine wpAny_bind (wpAny_pure (wpAny_bind (wpAny_dictEntries hod hdd ?_)));rw[if_neg (by simp)];refine wpAny_bind (wpAny_pure (wpAny_bind (wpAny_dictEpoch hod hdd ?_)));rw[if_neg (by simp)];refine wpAny_pure ?_;simp only[show ¬((i:Int)<0)from by omega,if_false,Int.toNat_natCast,Array.getElem?_eq_getElem hi];refine wpAny_bind ?_;first | refine wpAny_bind (wpAny_typeNameOfWhole_keyiter ty (wpAny_pure (wpAny_bind (wpAny_isOneOf_keyiter ty ?_)))) | refine wpAny_bind (wpAny_typeNameOf_keyiter ty (wpAny_pure (wpAny_bind (wpAny_isOneOf_keyiter ty ?_))))
 show wpAny _ _ (setField (.ref it) 1 (rawInt ((i:Int)+1)) >>= _) _ _ s;have k':(s.heap.update it (Obj.mapFields (·.setIfInBounds 1 (rawInt ((i:Int)+1))))).IsKeyIter it d (i+1) es.size ep:=
  ⟨_,Heap.get?_update_self _ ho (Obj.isFreed_of_fields (Obj.data_mapFields hd _)),(Obj.cls_mapFields ..).trans hc,by rw[Obj.data_mapFields hd];simp [rawInt]⟩
 refine wpAny_bind (wpAny_setField ho hd (by simp) (wpAny_bind (wpAny_holding ?_)));refine wpAny_bind (wpAny_isOneOf_keyiter (s:={ s with heap:=s.heap.update it (Obj.mapFields (·.setIfInBounds 1 (rawInt ((i:Int)+1)))) }) k'.typeIs ?_);show wpAny _ _ (pure es[i].key) _ _ _;exact wpAny_pure (wpAny_pure ⟨_,rfl,wpAny_pure (q _ k' (Heap.SameBut.update ..))⟩)
theorem raw_end{Q:Option Value->Shared->Prop}(hh:A.handled=none)(k:s.heap.IsKeyIter it d es.size es.size ep)(r:Raw s.heap d es ep)(q:∀h',Heap.ExtBut it s.heap h'->Q none { s with heap:=h' }):wpAny (model prog w) A (pyNext (.ref it)) Q E s:=by
 have ty:=k.typeIs;obtain⟨o,ho,hc,hd⟩:=id k;obtain⟨od,hod,hcd,hdd⟩:=id r;have own:Builtin.Dict_items.ownsTuple "dict_keyiterator" = false:=by decide
 unfold pyNext;refine wpAny_bind (wpAny_attempt (wpAny_callSpecial?_slot (name:=Str.ofString "__next__") ty PySem.F.slot_dict_keyiterator_next (wpAny_call_entry PySem.F.slot_dict_keyiterator_next ty PySem.F.entry_dict_keyiterator_next ?_ (PySem.F.args_dict_keyiterator_next_1 _))));refine wpAny_bind (wpAny_pure (wpAny_bind (wpAny_bind ?_)));first | refine wpAny_bind (wpAny_typeNameOfWhole_keyiter ty (wpAny_pure (wpAny_bind (wpAny_fieldsOf ho hd ?_)))) | refine wpAny_bind (wpAny_typeNameOf_keyiter ty (wpAny_pure (wpAny_bind (wpAny_fieldsOf ho hd ?_))))
 simp only[own,Bool.false_eq_true,if_false];show wpAny _ _ (if (Value.ref d==Value.none)=true then _ else _) _ _ s;rw[if_neg (show ¬((Value.ref d==Value.none)=true)from Bool.false_ne_true)];refine wpAny_bind (wpAny_pure (wpAny_bind (wpAny_dictEntries hod hdd ?_)));rw[if_neg (by simp)];refine wpAny_bind (wpAny_pure (wpAny_bind (wpAny_dictEpoch hod hdd ?_)));rw[if_neg (by simp)];refine wpAny_pure ?_;simp only[show ¬((es.size:Int)<0)from by omega,if_false,Int.toNat_natCast,Array.getElem?_eq_none (Nat.le_refl es.size)];refine wpAny_bind ?_;first | refine wpAny_bind (wpAny_typeNameOfWhole_keyiter ty (wpAny_pure ?_)) | refine wpAny_bind (wpAny_typeNameOf_keyiter ty (wpAny_pure ?_))
 show wpAny _ _ (setField (.ref it) 0 .none >>= _) _ _ s;refine wpAny_bind (wpAny_setField ho hd (by simp) (show wpAny _ _ (newExc (.type "StopIteration") [] >>= _) _ _ _ from wpAny_bind ?_));simp only[newExc,newTuple];refine wpAny_bind (wpAny_newObj_type (wpAny_bind (m:=firstArgMember _ _) (wpAny_of_eq (a:=Value.none) (by first | rfl | (simp only[firstArgMember];rfl)) (wpAny_newObj_type ?_ (by size_fits)))) (by size_fits));simp only[raiseNew];refine wpAny_bind (wpAny_handled ?_);rw[show A.in1.handled=none from hh];refine wpAny_bind (wpAny_pure (wpAny_throw ?_));refine wpAny_bind (wpAny_isInstance (b:=true) (T:="StopIteration") ⟨_,Heap.get?_push_size _ rfl,rfl⟩ isSubtype_stop ?_);exact wpAny_pure (q _ (((Heap.SameBut.update ..).extBut.push _).push _))
theorem raw_walks(hh:A.handled=none)(hne:d≠it):Walks prog w A it [it,d] [it] es.size (λi v=>∃h:i<es.size,v=es[i].key) (λi h=>h.IsKeyIter it d i es.size ep/\Raw h d es ep) where
 sub:=λb hb=>by simp at hb;simp [hb]
 frame:=λ_ _ _ st hk=>⟨st.1.at λo e=>hk it (by simp) o e,st.2.keep λo e=>hk d (by simp) o e⟩
 item:=λi s Q E hi st hQ=>raw_next st.1 st.2 hi λh' k' hs'=>hQ _ h' s.toks ⟨hi,rfl⟩ ⟨k',st.2.keep λo e=>hs'.extBut d o hne e⟩ λb o hb e=>hs'.extBut b o (λh=>hb (by simp [h])) e
 done:=λs Q E st hQ=>raw_end hh st.1 st.2 λh' he'=>hQ h' s.toks λb o hb e=>he' b o (λh=>hb (by simp [h])) e
 self:=λ_ _ _ _ st hQ=>wpAny_pyIter_keyiter st.1 hQ
theorem raw_src(lo:(d==sysModules)=false):PySem.W.KdlSrc prog w "dict" d d es.size (λi v=>∃h:i<es.size,v=es[i].key) (λh=>Raw h d es ep) where
 type:=λ_ hm=>hm.ty
 there:=λ_ hm=>⟨hm.lt,hm.lt⟩
 keep:=λ_ _ hm hk=>hm.keep λo e=>hk d (.inl rfl) o e
 notList:=by decide
 notTuple:=by decide
 hint:=λ_ _ _ _ hm hq=>PySem.W.kdl_hint_dict hm.ty hq
 iter:=λ_ _ hh hm=>⟨_,_,(λ_ _ hq=>raw_iter lo hm hq),raw_walks hh (Nat.ne_of_lt hm.lt),⟨⟨_,Heap.get?_push_size _ rfl,rfl,rfl⟩,hm.keep λo e=>Heap.get?_push_of_some _ e⟩⟩
end
end LwD
namespace LwD
open PySem PySem.W PySem.Spec PyProof.Rows
noncomputable def Pm(n:Nat)(p:Array Nat):Prop:=p.toList.Perm (List.range n)
theorem Pm.size{n:Nat}{p:Array Nat}(h:Pm n p):p.size=n:=by have:=h.length_eq;simpa using this
theorem Pm.lt{n:Nat}{p:Array Nat}(h:Pm n p){i:Nat}(hn:0<n):p.getD i 0<n:=by
 by_cases hi:i<p.size
 ·have:p.getD i 0∈p.toList:=by simp [Array.getD,hi]
  exact List.mem_range.mp (h.mem_iff.mp this)
 ·simp [Array.getD,hi,hn]
theorem Pm.rev{n:Nat}{p:Array Nat}(h:Pm n p)(i j:Nat):Pm n (kas_rev p i j):=(Array.perm_iff_toList_perm.mp (mirror_perm p i j _)).trans h
theorem Pm.bub{n:Nat}{p:Array Nat}(h:Pm n p)(i j:Nat):Pm n (bubble p i j):=(Array.perm_iff_toList_perm.mp (bubble_perm p i j)).trans h
section
variable{prog:Program}{w:World}{A:Around}{E:Value->Shared->Prop}{s:Shared}
end
end LwD
namespace LwD
open PySem PySem.Spec PyProof.Rows L2 Lw
theorem ns_uniq{h:Heap}{a:Addr}{m m':Str->Option Value}(x:h.Ns a m)(y:h.Ns a m'):m=m':=by
 obtain⟨o,es,ep,ho,hd,hk,hm⟩:=x;obtain⟨o',es',ep',ho',hd',hk',hm'⟩:=y;rw[ho]at ho';cases ho';rw[hd]at hd';cases hd'
 funext z
 rw[<-hm z,<-hm' z]
theorem obj_some{P:Program}{w:World}{H:Hp}{h:Heap}{a:Addr}{o:HO}(x:ObjOk P w H h a o):∃q,h.get? a=some q:=by
 cases o with
 | lst xs=>obtain⟨_,_,_,_,e⟩:=x;exact⟨_,e⟩
 | tup xs=>obtain⟨_,_,_,q,e,_⟩:=x;exact⟨_,e⟩
 | dK kvs=>obtain⟨_,_,_,_,o,_,_,e,_⟩:=x;exact⟨_,e⟩
 | dT kvs=>obtain⟨_,_,_,_,o,_,_,e,_⟩:=x;exact⟨_,e⟩
 | set S n=>obtain⟨o,_,_,_,e,_⟩:=x;exact⟨_,e⟩
 | ins C dx fs=>obtain⟨_,_,_,e,_⟩:=x;exact⟨_,e⟩
 | own y=>exact x
 | xd fs=>obtain⟨_,⟨_,_,_,e,_⟩,_⟩:=x;exact⟨_,e⟩
 | rng lo hi=>obtain⟨_,_,_,e⟩:=x;exact⟨_,e⟩
 | frz ob u=>exact⟨_,x.1⟩
 | tbl ps=>exact⟨_,x⟩
 | met f y=>exact⟨_,x⟩
 | ext φ=>exact x.2.1
section
variable{X:Cx}{pins:List (Addr×Obj)}{σ:L2.St}{H:Hp}{s:Shared}
theorem new_by_news{D:Addr}{o:Obj}{ho:HO}{h3:Heap}{m:Str->Option Value}{tk:Nat}(I:Inv X pins σ H s)(F:Fr X.base X.env.locals s.heap m)(F3:Fr X.base X.env.locals h3 m)(N3:News X.base X.env.locals h3 ((D,o)::yJ X.base s.heap X.env.locals))
  (lt:∀q∈yJ X.base s.heap X.env.locals,q.1<D) (new:h3.get? D=some o->ObjOk X.prog X.w (upd H D ho) h3 D ho):H D=none/\Inv X pins σ (upd H D ho) { s with heap:=h3,toks:=tk } :=by
 have n1:=N3 (D,o) (List.mem_cons_self ..);have dn:s.heap.get? D=none:=by
  cases q:s.heap.get? D with
  | none=>rfl
  | some u=>exact absurd (lt _ (yX n1.2.1 n1.2.2 q)) (Nat.lt_irrefl _)
 have Hn:H D=none:=by
  cases q:H D with
  | none=>rfl
  | some u=>
   obtain⟨z,e⟩:=obj_some (I.hok D u q);rw[dn]at e;cases e
 have kp:∀b u,b≠X.env.locals->s.heap.get? b=some u->h3.get? b=some u:=λb u hb e=>by
  cases q:X.base.get? b with
  | some z=>
   have y:=I.bk b z q;rw[e]at y;cases y;exact F3.keep b _ q
  | none=>exact(N3 (b,u) (List.mem_cons_of_mem _ (yX hb q e))).1
 have ne:∀b u,s.heap.get? b=some u->b≠D:=λb u e z=>by rw[z,dn]at e;cases e
 have thr:∀b u,s.heap.get? b=some u->∃u',h3.get? b=some u':=λb u e=>by
  by_cases hb:b=X.env.locals
  ·obtain⟨u',_,_,e',_⟩:=F3.ns;exact⟨u',by rw[hb];exact e'⟩
  ·exact⟨u,kp b u hb e⟩
 refine⟨Hn,I.step (g':=s.gens) (d':=s.drawn) (ch:=[]) (λ_ z=>nomatch z) (λb u hb _ _ e _=>kp b u hb e) (λb u hb _ _ e _=>⟨u.slots,kp b u hb e⟩) (λb u _ e n=>?_) (λb u _ e=>thr b u e) (λb xs e=>?_) (λb u v e=>?_) (λb ps e=>?_) (λm' hm=>?_) (λb u e=>?_) I.bare⟩
 ·rw[jQ (ne b u e)];exact n
 ·rw[jQ (kY e Hn)];exact e
 ·rw[jQ (kY e Hn)];exact e
 ·exact⟨#[],by rw[jQ (kY e Hn),e];simp⟩
 ·rw[ns_uniq hm F.ns];exact F3.ns
 ·by_cases hb:b=D
  ·subst hb;rw[jK]at e;cases e;exact new n1.1
  ·rw[jQ hb]at e;refine(I.hok b u e).stay (λc v hc q=>kp c v (λz=>?_) q) (λc q=>by rw[jQ (kY q Hn)];exact q) λc xs q=>by rw[jQ (kY q Hn)];exact q
   rcases hc with y | y
   ·rw[<-y,z,I.free]at e;cases e
   ·rw[z,I.free]at y;cases y
end
section
variable{prog:Program}{w:World}{A:Around}{E:Value->Shared->Prop}{s:Shared}
theorem sort_small{a:Addr}{vs:List Value}{n:Nat}{Q:Value->Shared->Prop}(ho:s.heap.get? a=some (seqObj "list" vs.toArray n))(h2:vs.length<2)(q:Q .none { s with heap:=sortedHeap s.heap a vs vs.toArray }):wpAny (model prog w) A (call (.builtin "list.sort") [.ref a]) Q E s:=by
 refine wpAny_call_entry slot_list_sort ⟨_,ho,rfl⟩ entry_list_sort ?_ (args_list_sort _);rw[list_sort_plain];have ha:a<s.heap.objs.size:=Heap.lt_size ho;obtain⟨e1,ho1⟩:∃e1,(s.heap.update a (Obj.mapSeq λ_=>#[])).get? a=some (seqObj "list" #[] e1):=⟨_,get?_update_seq ho (λ_=>#[])⟩;have ho6:(((s.heap.update a (Obj.mapSeq λ_=>#[])).push (seqObj "tuple" vs.toArray 0)).push (seqObj "list" #[] 0)).get? a=some (seqObj "list" #[] e1):=Heap.get?_push_of_some _ (Heap.get?_push_of_some _ ho1);have hz:vs.toArray.size<2:=by simpa using h2
 refine wpAny_bind (listItems_at ho rfl (wpAny_bind (listUpdate_at ho rfl (wpAny_bind (seqEpoch_at ho1 rfl (wpAny_bind (wpAny_newTuple (wpAny_bind (wpAny_newList (wpAny_holding ?_))))))))));show wpAny (model prog w) _ _ _ E { s with heap:=((s.heap.update a (Obj.mapSeq λ_=>#[])).push (seqObj "tuple" vs.toArray 0)).push (seqObj "list" #[] 0) };dsimp only;rw[if_pos hz,if_pos hz];refine wpAny_bind (wpAny_pure ?_);rw[StateT.run_pure];refine wpAny_bind (wpAny_pure ?_);dsimp only;have hm:(arrOf (SortSt.mk' general' (vs.toArray.zip vs.toArray) #[] 7 none)).map (·.2)=vs.toArray:=by
  show(vs.toArray.zip vs.toArray).map (·.2)=vs.toArray;apply Array.ext';simp [List.map_snd_zip]
 refine wpAny_bind (seqEpoch_at ho6 rfl (wpAny_bind (listUpdate_at ho6 rfl ?_ (hsz2:=by rw[hm,sizeLine_eq];omega))));rw[hm];simp only[bne_self_eq_false,Bool.false_eq_true,if_false];exact wpAny_pure ⟨_,rfl,q⟩
end
end LwD
namespace LwD
open PySem PySem.Spec PyProof.Rows L2 Lw
noncomputable abbrev ik(ns:List Int):List Key:=ns.map Sum.inl
theorem xM(ns:List Int):(ik ns).map kV=ns.map V.int:=by
 unfold ik;rw[List.map_map]
 rfl
section
variable{X:Cx}
end
end LwD
namespace LwD
open PySem PySem.Spec PyProof.Rows L2 Lw
theorem KTgetI{H:Hp}{kvs:List (List Key×V)}{xs:List (List Key×Addr×Value)}(r:KT H kvs xs):∀{j:Nat} {q:List Key×Addr×Value},xs[j]? = some q->∃v,kvs[j]? = some (q.1,v)/\H q.2.1=some (.tup (q.1.map kV)):=by
 induction r with
 | nil=>intro j q e;simp at e
 | @cons p q' ps qs h t ih=>
  intro j q e;cases j with
  | zero=>
   simp only[List.getElem?_cons_zero,Option.some.injEq]at e;subst e;exact⟨p.2,by rw[<-h.1];rfl,by rw[<-h.1];exact h.2.1⟩
  | succ j=>
   simp only[List.getElem?_cons_succ]at e ⊢;exact ih e
noncomputable def Keyed(H:Hp)(ys:List V)(zs:List (List Key×V)):Prop:=ys.length=zs.length/\∀(i:Nat) (y:V) (p:List Key×V),ys[i]? = some y->zs[i]? = some p->∃(b:Addr) (ns:List Int),y=.ref b/\H b=some (.tup (ns.map V.int))/\p.1=ik ns
theorem mD{α:Type}(l:List α)(d:α):(List.range l.length).map (λi=>l.getD i d)=l:=by
 apply List.ext_getElem
 ·simp
 ·intro i h1 h2;simp at h1;simp [h1]
end LwD
namespace L2
open PySem PySem.Spec PyProof.Rows
section
variable{prog:Program}{w:World}{A:Around}{E:Value->Shared->Prop}{s:Shared}
theorem nextT{it t:Addr}{k:Nat}{its:Array Value}{v:Value}{Q:Value->Shared->Prop}(st:s.heap.IsTupleIter it t k)(tu:s.heap.IsTuple t its)(hv:its[k]? = some v)
  (q:∀g,g.IsTupleIter it t (k+1)->Heap.SameBut it s.heap g->Q v { s with heap:=g }):wpAny (model prog w) A (Builtin.SmallTypes.nextOf (.ref it)) Q E s:=by
 obtain⟨oi,gi,ci,di⟩:=id st;obtain⟨ot,gt,_,nt,dt⟩:=tu;unfold Builtin.SmallTypes.nextOf;refine wpAny_bind (wpAny_callSpecial?_slot (name:=Str.ofString "__next__") st.typeIs F.slot_tuple_iterator_next (wpAny_call_entry F.slot_tuple_iterator_next st.typeIs F.entry_tuple_iterator_next ?_ (F.args_tuple_iterator_next_1 _)));show wpAny _ _ (field (.ref it) 0 >>= _) _ _ _;refine wpAny_bind (wpAny_field gi di (x:=.ref t) rfl ?_);show wpAny _ _ (if (Value.ref t==Value.none)=true then _ else _) _ _ _;rw[if_neg (show ¬(Value.ref t==Value.none)=true from Bool.false_ne_true)];show wpAny _ _ (field (.ref it) 1 >>= _) _ _ _;refine wpAny_bind (wpAny_field gi di (x:=.int k 0) rfl ?_);show wpAny _ _ (seqItems? (.ref t) >>= _) _ _ _;refine wpAny_bind (wpAny_seqItems gt dt ?_);simp only[Int.toNat_natCast,hv];refine wpAny_bind (wpAny_setField gi di (by simp) (wpAny_pure ⟨v,rfl,wpAny_pure (q _ ⟨_,Heap.get?_update_self _ gi (Obj.isFreed_of_fields (Obj.data_mapFields di _)),(Obj.cls_mapFields ..).trans ci,by rw[Obj.data_mapFields di];simp [rawInt]⟩ (Heap.SameBut.update ..))⟩))
theorem nF{it t:Addr}{k:Nat}{its:Array Value}{Q:Value->Shared->Prop}(hh:A.handled=none)(st:s.heap.IsTupleIter it t k)(tu:s.heap.IsTuple t its)(hv:its[k]? = none)
  (q:∀g e,Heap.ExtBut it s.heap g->(∃o,g.get? e=some o/\o.cls=.type "StopIteration")->E (.ref e) { s with heap:=g }):wpAny (model prog w) A (Builtin.SmallTypes.nextOf (.ref it)) Q E s:=by
 obtain⟨oi,gi,ci,di⟩:=id st;obtain⟨ot,gt,_,nt,dt⟩:=tu;unfold Builtin.SmallTypes.nextOf;refine wpAny_bind (wpAny_callSpecial?_slot (name:=Str.ofString "__next__") st.typeIs F.slot_tuple_iterator_next (wpAny_call_entry F.slot_tuple_iterator_next st.typeIs F.entry_tuple_iterator_next ?_ (F.args_tuple_iterator_next_1 _)));show wpAny _ _ (field (.ref it) 0 >>= _) _ _ _;refine wpAny_bind (wpAny_field gi di (x:=.ref t) rfl ?_);show wpAny _ _ (if (Value.ref t==Value.none)=true then _ else _) _ _ _;rw[if_neg (show ¬(Value.ref t==Value.none)=true from Bool.false_ne_true)];show wpAny _ _ (field (.ref it) 1 >>= _) _ _ _;refine wpAny_bind (wpAny_field gi di (x:=.int k 0) rfl ?_);show wpAny _ _ (seqItems? (.ref t) >>= _) _ _ _;refine wpAny_bind (wpAny_seqItems gt dt ?_);simp only[Int.toNat_natCast,hv];refine wpAny_bind (wpAny_rule (wpAny_bind (wpAny_setField gi di (by simp) ?_)));show wpAny _ _ (newExc (.type "StopIteration") [] >>= _) _ _ _;refine wpAny_bind ?_;simp only[newExc,newTuple];refine wpAny_bind (wpAny_newObj_type ?_ (by size_fits));refine wpAny_bind (m:=firstArgMember _ _) (wpAny_of_eq (a:=Value.none) (by first | rfl | (simp only[firstArgMember];rfl)) ?_);refine wpAny_newObj_type ?_ (by size_fits);simp only[raiseNew];refine wpAny_bind (wpAny_handled ?_);first | rw[show A.in1.handled=none from hh] | rw[hh]
 exact wpAny_bind (wpAny_pure (wpAny_throw (q _ _ (((Heap.SameBut.update ..).extBut.push _).push _) ⟨_,Heap.get?_push_size _ rfl,rfl⟩)))
structure ZT(z TI TO i1 i2 l1 l2:Addr)(k:Nat)(h:Heap):Prop where
 zz:IsZip h z TI TO .none
 ti:IsPair h TI (.ref i1) (.ref i2)
 to:∃a b,IsPair h TO a b
 one:h.IsTupleIter i1 l1 k
 two:h.IsTupleIter i2 l2 k
theorem IsTupleIter.as{h h':Heap}{a t:Addr}{k:Nat}(x:h.IsTupleIter a t k)(f:∀o,h.get? a=some o->h'.get? a=some o):h'.IsTupleIter a t k:=let ⟨o,ho,r⟩:=x;⟨o,f o ho,r⟩
variable{z TI TO i1 i2 l1 l2:Addr}{k:Nat}{xs ys:Array Value}
theorem zipT_item{x y:Value}{Q:Option Value->Shared->Prop}(D:ZipApart z TI TO i1 i2 l1 l2)(Z:ZT z TI TO i1 i2 l1 l2 k s.heap)(t1:s.heap.IsTuple l1 xs)(t2:s.heap.IsTuple l2 ys)(hx:xs[k]? = some x)(hy:ys[k]? = some y)
  (q:∀g,IsZip g z TI TO (rawInt s.heap.objs.size)->IsPair g TO x y->g.IsTupleIter i1 l1 (k+1)->g.IsTupleIter i2 l2 (k+1)->IsPair g s.heap.objs.size x y->
   (∀c o,c∉[z,TO,i1,i2]->s.heap.get? c=some o->g.get? c=some o)->Q (some (.ref s.heap.objs.size)) { s with heap:=g }):wpAny (model prog w) A (pyNext (.ref z)) Q E s:=by
 obtain⟨hz,hti,⟨a,b,hto⟩,s1,s2⟩:=Z;have T:s.TypeIs (.ref z) "zip":=⟨_,hz,rfl⟩;unfold pyNext;refine wpAny_bind (wpAny_attempt (wpAny_callSpecial?_slot (name:=Str.ofString "__next__") T F.slot_zip_next (wpAny_call_entry F.slot_zip_next T F.entry_zip_next ?_ (F.args_zip_next_1 _))));show wpAny _ _ (field (.ref z) 2 >>= _) _ _ _;refine wpAny_bind (wpAny_field hz rfl (x:=.bool false) rfl ?_);show wpAny _ _ (field (.ref z) 3 >>= _) _ _ _;refine wpAny_bind (wpAny_field hz rfl (x:=.ref TI) rfl (wpAny_bind (wpAny_seqItems hti rfl ?_)));show wpAny _ _ (Builtin.SmallTypes.ownedTupleIsFree (.ref z) >>= _) _ _ _;refine wpAny_bind ?_;unfold Builtin.SmallTypes.ownedTupleIsFree;refine wpAny_bind (wpAny_field hz rfl (x:=.none) rfl (wpAny_pure ?_));simp only[if_true];refine wpAny_bind (wpAny_rule (wpAny_bind (wpAny_field hz rfl (x:=.ref TO) rfl (wpAny_bind (wpAny_setField_rec hz (by simp) λg1 z1 b1=>?_)))))
 replace z1:IsZip g1 z TI TO .ellipsis:=z1
 refine wpAny_bind ?_;simp only[List.zipIdx_cons,List.zipIdx_nil,List.forIn_cons,List.forIn_nil];refine wpAny_bind (wpAny_bind (wpAny_onRaise ?_));show wpAny _ _ (Builtin.SmallTypes.nextOf (.ref i1) >>= _) _ _ _;refine wpAny_bind (nextT (s1.extBut b1.extBut D.i1z) (t1.extBut b1.extBut D.l1z) hx λg2 n2 b2=>wpAny_pure ?_);have o2:IsPair g2 TO a b:=b2.extBut _ _ D.TOi1 (b1.extBut _ _ D.TOz hto);refine wpAny_bind (wpAny_seqItems o2 rfl (wpAny_bind (wpAny_updateSeq_pair o2 λg3 o3 b3=>?_)))
 replace o3:IsPair g3 TO x b:=o3
 refine wpAny_bind (wpAny_letGo (wpAny_pure (wpAny_bind (wpAny_bind (wpAny_onRaise ?_)))));show wpAny _ _ (Builtin.SmallTypes.nextOf (.ref i2) >>= _) _ _ _;refine wpAny_bind (nextT (((s2.extBut b1.extBut D.i2z).extBut b2.extBut D.i12.symm).extBut b3.extBut D.TOi2.symm) (((t2.extBut b1.extBut D.l2z).extBut b2.extBut D.l2i1).extBut b3.extBut D.l2TO) hy λg4 n4 b4=>wpAny_pure ?_);have o4:IsPair g4 TO x b:=b4.extBut _ _ D.TOi2 o3;refine wpAny_bind (wpAny_seqItems o4 rfl (wpAny_bind (wpAny_updateSeq_pair o4 λg5 o5 b5=>?_)))
 replace o5:IsPair g5 TO x y:=o5
 refine wpAny_bind (wpAny_letGo (wpAny_pure (wpAny_pure (wpAny_bind (wpAny_seqItems o5 rfl (wpAny_bind (wpAny_newTuple ?_)))))));have sz:g5.objs.size=s.heap.objs.size:=by rw[b5.1,b4.1,b3.1,b2.1,b1.1]
 have z5:IsZip g5 z TI TO .ellipsis:=b5.extBut _ _ D.TOz.symm (b4.extBut _ _ D.i2z.symm (b3.extBut _ _ D.TOz.symm (b2.extBut _ _ D.i1z.symm z1)));have k5:∀c o,c∉[z,TO,i1,i2]->s.heap.get? c=some o->g5.get? c=some o:=λc o hc e=>by
  simp only[List.mem_cons,not_or]at hc;exact b5.extBut _ _ hc.2.1 (b4.extBut _ _ hc.2.2.2.1 (b3.extBut _ _ hc.2.1 (b2.extBut _ _ hc.2.2.1 (b1.extBut _ _ hc.1 e))))
 have n5:g5.IsTupleIter i1 l1 (k+1):=((n2.extBut b3.extBut D.TOi1.symm).extBut b4.extBut D.i12).extBut b5.extBut D.TOi1.symm;have m5:g5.IsTupleIter i2 l2 (k+1):=n4.extBut b5.extBut D.TOi2.symm;have zl:z<g5.objs.size:=Heap.lt_size z5;show wpAny _ _ (Builtin.SmallTypes.ownedTupleHandOut (.ref z) (.ref g5.objs.size) >>= _) _ _ _;refine wpAny_bind ?_;unfold Builtin.SmallTypes.ownedTupleHandOut;have z6:IsZip (g5.push { cls:=.type "tuple",data:=.seq #[x,y] }) z TI TO .ellipsis:=Heap.get?_push_of_some _ z5;refine wpAny_bind (wpAny_setField_rec z6 (by simp) λg7 z7 b7=>?_)
 replace z7:IsZip g7 z TI TO (rawInt g5.objs.size):=z7
 refine wpAny_setField_rec z7 (by simp) λg8 z8 b8=>?_
 replace z8:IsZip g8 z TI TO (rawInt g5.objs.size):=z8
 have up:∀c o,c≠z->g5.get? c=some o->g8.get? c=some o:=λc o cz e=>b8.extBut _ _ cz (b7.extBut _ _ cz (Heap.get?_push_of_some _ e));have nu:IsPair g8 g5.objs.size x y:=b8.extBut _ _ (Nat.ne_of_gt zl) (b7.extBut _ _ (Nat.ne_of_gt zl) (Heap.get?_push_size _ rfl));rw[sz]at z8 nu;refine wpAny_pure ⟨_,rfl,wpAny_pure ?_⟩;show Q (some (.ref g5.objs.size)) _;rw[sz];exact q g8 z8 (up _ _ D.TOz o5) (IsTupleIter.as n5 λo e=>up _ o D.i1z e) (IsTupleIter.as m5 λo e=>up _ o D.i2z e) nu λc o hc e=>up c o (λh=>hc (by simp [h])) (k5 c o hc e)
theorem zipT_end{Q:Option Value->Shared->Prop}(hh:A.handled=none)(D:ZipApart z TI TO i1 i2 l1 l2)(Z:ZT z TI TO i1 i2 l1 l2 k s.heap)(t1:s.heap.IsTuple l1 xs)(t2:s.heap.IsTuple l2 ys)(he:xs[k]? = none∨ys[k]? = none)
  (q:∀g,(∀c o,c∉[z,TO,i1,i2]->s.heap.get? c=some o->g.get? c=some o)->Q none { s with heap:=g }):wpAny (model prog w) A (pyNext (.ref z)) Q E s:=by
 obtain⟨hz,hti,⟨a,b,hto⟩,s1,s2⟩:=Z;have T:s.TypeIs (.ref z) "zip":=⟨_,hz,rfl⟩;unfold pyNext;refine wpAny_bind (wpAny_attempt (wpAny_callSpecial?_slot (name:=Str.ofString "__next__") T F.slot_zip_next (wpAny_call_entry F.slot_zip_next T F.entry_zip_next ?_ (F.args_zip_next_1 _))));have fin:∀g (e:Addr),(∀c o,c∉[z,TO,i1,i2]->s.heap.get? c=some o->g.get? c=some o)->(∃o,g.get? e=some o/\o.cls=.type "StopIteration")->
   wpAny (model prog w) A (do if (<-isInstance (.ref e) (.type "StopIteration"))then pure none else throw (.ref e)) Q E { s with heap:=g } :=λg e hk ⟨o,ho,hc⟩=>
  wpAny_bind (wpAny_isInstance (T:="StopIteration") (b:=true) ⟨o,ho,hc⟩ isSubtype_stop (wpAny_pure (q _ hk)))
 show wpAny _ _ (field (.ref z) 2 >>= _) _ _ _;refine wpAny_bind (wpAny_field hz rfl (x:=.bool false) rfl ?_);show wpAny _ _ (field (.ref z) 3 >>= _) _ _ _;refine wpAny_bind (wpAny_field hz rfl (x:=.ref TI) rfl (wpAny_bind (wpAny_seqItems hti rfl ?_)));show wpAny _ _ (Builtin.SmallTypes.ownedTupleIsFree (.ref z) >>= _) _ _ _;refine wpAny_bind ?_;unfold Builtin.SmallTypes.ownedTupleIsFree;refine wpAny_bind (wpAny_field hz rfl (x:=.none) rfl (wpAny_pure ?_));simp only[if_true];refine wpAny_bind (wpAny_rule (wpAny_bind (wpAny_field hz rfl (x:=.ref TO) rfl (wpAny_bind (wpAny_setField_rec hz (by simp) λg1 z1 b1=>?_)))))
 replace z1:IsZip g1 z TI TO .ellipsis:=z1
 refine wpAny_bind ?_;simp only[List.zipIdx_cons,List.zipIdx_nil,List.forIn_cons,List.forIn_nil];refine wpAny_bind (wpAny_bind (wpAny_onRaise ?_));show wpAny _ _ (Builtin.SmallTypes.nextOf (.ref i1) >>= _) _ _ _;cases hx:xs[k]? with
 | none=>
  refine wpAny_bind (nF hh (s1.extBut b1.extBut D.i1z) (t1.extBut b1.extBut D.l1z) hx λg2 e b2 ⟨oe,he,ce⟩=>?_);have z2:IsZip g2 z TI TO .ellipsis:=b2 _ _ D.i1z.symm z1;have ez:e≠z:=λh=>by subst h;rw[z2]at he;cases he;simp at ce
  refine wpAny_setField_rec z2 (by simp) λg3 _ b3=>fin g3 e (λc o hc h=>?_) ⟨oe,b3.extBut _ _ ez he,ce⟩;simp only[List.mem_cons,not_or]at hc;exact b3.extBut _ _ hc.1 (b2 _ _ hc.2.2.1 (b1.extBut _ _ hc.1 h))
 | some x=>
  have hy:ys[k]? = none:=he.resolve_left (by rw[hx];simp);refine wpAny_bind (nextT (s1.extBut b1.extBut D.i1z) (t1.extBut b1.extBut D.l1z) hx λg2 n2 b2=>wpAny_pure ?_);have o2:IsPair g2 TO a b:=b2.extBut _ _ D.TOi1 (b1.extBut _ _ D.TOz hto);refine wpAny_bind (wpAny_seqItems o2 rfl (wpAny_bind (wpAny_updateSeq_pair o2 λg3 o3 b3=>?_)));refine wpAny_bind (wpAny_letGo (wpAny_pure (wpAny_bind (wpAny_bind (wpAny_onRaise ?_)))));show wpAny _ _ (Builtin.SmallTypes.nextOf (.ref i2) >>= _) _ _ _;refine wpAny_bind (nF hh (((s2.extBut b1.extBut D.i2z).extBut b2.extBut D.i12.symm).extBut b3.extBut D.TOi2.symm) (((t2.extBut b1.extBut D.l2z).extBut b2.extBut D.l2i1).extBut b3.extBut D.l2TO) hy λg4 e b4 ⟨oe,he,ce⟩=>?_);have z4:IsZip g4 z TI TO .ellipsis:=b4 _ _ D.i2z.symm (b3.extBut _ _ D.TOz.symm (b2.extBut _ _ D.i1z.symm z1));have ez:e≠z:=λh=>by subst h;rw[z4]at he;cases he;simp at ce
  refine wpAny_setField_rec z4 (by simp) λg5 _ b5=>fin g5 e (λc o hc h=>?_) ⟨oe,b5.extBut _ _ ez he,ce⟩;simp only[List.mem_cons,not_or]at hc;exact b5.extBut _ _ hc.1 (b4 _ _ hc.2.2.2.1 (b3.extBut _ _ hc.2.1 (b2.extBut _ _ hc.2.2.1 (b1.extBut _ _ hc.1 h))))
theorem meets_zipT(a b:Addr)(xs ys:Array Value) :
  Meets (Builtin.«zip.__new__» ⟨[.type "zip",.ref a,.ref b],[]⟩) (λ_ R s=>s.heap.IsTuple a xs/\s.heap.IsTuple b ys/\
   ∀g,(∀c o,s.heap.get? c=some o->g.get? c=some o)->ZT (s.heap.objs.size+4) (s.heap.objs.size+2) (s.heap.objs.size+3) s.heap.objs.size (s.heap.objs.size+1) a b 0 g->R (.ok (.ret (.ref (s.heap.objs.size+4)))) { s with heap:=g }):=
 .of_wp λprog w A R s h=>by
  obtain⟨hp,gs,d,tk,os⟩:=s;obtain⟨t1,t2,h⟩:=h;have hsub:=sub_zip;have T1:Heap.IsTuple (Shared.heap ⟨hp,gs,d,tk,os⟩) a xs:=t1;have T2:Heap.IsTuple (Shared.heap ⟨hp.push { cls:=.type "tuple_iterator",data:=.fields #[.ref a,.int 0 0] },gs,d,tk,os⟩) b ys:=Heap.IsTuple.push t2 _
  wp_walk using wpAny_pyIter_tuple T1,wpAny_pyIter_tuple T2
  have e1:=λo=>Heap.size_push hp (o:=o);refine⟨_,rfl, ?_⟩;simp only[Heap.size_push]at h ⊢;refine h _ (λc o e=>Heap.get?_push_of_some _ (Heap.get?_push_of_some _ (Heap.get?_push_of_some _ (Heap.get?_push_of_some _ (Heap.get?_push_of_some _ e))))) ⟨?_, ?_, ?_, ?_, ?_⟩
  ·have e:=Heap.get?_push_size (((((hp.push { cls:=.type "tuple_iterator",data:=.fields #[.ref a,.int 0 0] }).push { cls:=.type "tuple_iterator",data:=.fields #[.ref b,.int 0 0] }).push { cls:=.type "tuple",data:=.seq #[.ref hp.objs.size,.ref (hp.objs.size+1)] })).push { cls:=.type "tuple",data:=.seq #[.none,.none] }) (o:={ cls:=.type "zip",data:=.fields #[.none,.bool false,.bool false,.ref (hp.objs.size+2),.ref (hp.objs.size+3)] }) rfl;simp only[Heap.size_push]at e;exact e
  ·have e:=Heap.get?_push_size ((hp.push { cls:=.type "tuple_iterator",data:=.fields #[.ref a,.int 0 0] }).push { cls:=.type "tuple_iterator",data:=.fields #[.ref b,.int 0 0] }) (o:={ cls:=.type "tuple",data:=.seq #[.ref hp.objs.size,.ref (hp.objs.size+1)] }) rfl;simp only[Heap.size_push]at e;exact Heap.get?_push_of_some _ (Heap.get?_push_of_some _ e)
  ·have e:=Heap.get?_push_size ((((hp.push { cls:=.type "tuple_iterator",data:=.fields #[.ref a,.int 0 0] }).push { cls:=.type "tuple_iterator",data:=.fields #[.ref b,.int 0 0] }).push { cls:=.type "tuple",data:=.seq #[.ref hp.objs.size,.ref (hp.objs.size+1)] })) (o:={ cls:=.type "tuple",data:=.seq #[.none,.none] }) rfl;simp only[Heap.size_push]at e;exact⟨_,_,Heap.get?_push_of_some _ e⟩
  ·have e:=Heap.get?_push_size hp (o:={ cls:=.type "tuple_iterator",data:=.fields #[.ref a,.int 0 0] }) rfl;exact⟨_,Heap.get?_push_of_some _ (Heap.get?_push_of_some _ (Heap.get?_push_of_some _ (Heap.get?_push_of_some _ e))),rfl,rfl⟩
  ·have e:=Heap.get?_push_size (hp.push { cls:=.type "tuple_iterator",data:=.fields #[.ref a,.int 0 0] }) (o:={ cls:=.type "tuple_iterator",data:=.fields #[.ref b,.int 0 0] }) rfl;simp only[Heap.size_push]at e;exact⟨_,Heap.get?_push_of_some _ (Heap.get?_push_of_some _ (Heap.get?_push_of_some _ e)),rfl,rfl⟩
theorem call_zipT{a b:Addr}{xs ys:Array Value}{Q:Value->Shared->Prop}(t1:s.heap.IsTuple a xs)(t2:s.heap.IsTuple b ys)
  (q:∀g,(∀c o,s.heap.get? c=some o->g.get? c=some o)->ZT (s.heap.objs.size+4) (s.heap.objs.size+2) (s.heap.objs.size+3) s.heap.objs.size (s.heap.objs.size+1) a b 0 g->Q (.ref (s.heap.objs.size+4)) { s with heap:=g }) :
  wpAny (model prog w) A (call (.type "zip") [.ref a,.ref b]) Q E s:=
 callType_new F.called_zip (by decide) (F.typeCall_zip_2 _ _) (F.newCall_zip_2 _ _) (λobj=>F.args_object_init_3 obj _ _) F.entry_zip_new (meets_zipT a b xs ys) ⟨t1,t2,λg k Z=>⟨⟨_,Z.zz,rfl⟩,q g k Z⟩⟩
end
section
variable{X:Cx}{pins:List (Addr×Obj)}{σ:St}{H:Hp}{s:Shared}{h':Heap}
theorem Inv.turnedL{t':Nat}{fp:List Addr}(I:Inv X pins σ H s)(hf:∀b∈fp,FpOk X pins H b)(k:∀b o,b∉fp->s.heap.get? b=some o->h'.get? b=some o):Inv X pins σ H { s with heap:=h',toks:=t' } :=by
 have nit:∀b u,H b=some u->b∉fp:=λb u e z=>by rw[(hf b z).1]at e;cases e
 refine I.step (g':=s.gens) (d':=s.drawn) (ch:=fp) (λb hb=>⟨(hf b hb).2.2.2.1,(hf b hb).2.1,(hf b hb).2.2.2.2.1,(hf b hb).2.2.2.2.2⟩) (λb o _ _ hc e _=>k b o hc e) (λb o _ _ hc e _=>⟨o.slots,k b o hc e⟩) (λ_ _ _ _ n=>n)
  (λb o hc e=>⟨o,k b o hc e⟩) (λ_ _ e=>e) (λ_ _ _ e=>e) (λb ps e=>⟨#[],by rw[e];simp⟩) (λm ⟨o,es,ep,ho,r⟩=>⟨o,es,ep,k _ o (λz=>(hf _ z).2.1 rfl) ho,r⟩) (λb u e=>?_) I.bare
 refine(I.hok b u e).stay (λc v hc q=>k c v ?_ q) (λ_ q=>q) λ_ _ q=>q;rcases hc with z | z
 ·rw[z];exact nit b u e
 ·exact nit c _ z
theorem FpOk.apart{a b:Addr}{xs:List V}(I:Inv X pins σ H s)(f:FpOk X pins H b)(h:SqT X.K H a xs):a≠b:=by
 rintro rfl;rcases h with(h | ⟨o,h⟩) | ⟨o,its,n,hk,hc,hs,hz,r⟩
 ·rw[f.1]at h;cases h
 ·rw[f.1]at h;cases h
 ·have hb:X.base.get? a=some o:=I.ok.mod.kin a o hk;rcases f.2.2.2.1 with z | z
  ·exact I.ok.noex a o hb z
  ·exact absurd (Nat.lt_of_lt_of_le (Heap.lt_size hb) (Nat.le_trans I.ok.bsz z)) (Nat.lt_irrefl _)
end
noncomputable def Itz(K:PySem.W.Frag)(a b:Addr):It:=
 ⟨λi H=>∃xs ys x y,SqT K H a xs/\SqT K H b ys/\xs[i]? = some x/\ys[i]? = some y,
  λi H v H'=>∃p x y,H p=none/\v=.ref p/\H'=upd H p (.tup [x,y])/\(∀xs,SqT K H a xs->xs[i]? = some x)/\(∀ys,SqT K H b ys->ys[i]? = some y),
  λi H=>∃xs ys,SqT K H a xs/\SqT K H b ys/\(xs.length<=i∨ys.length<=i)⟩
structure Five(z TI TO i1 i2:Addr):Prop where
 nd:[z,TI,TO,i1,i2].Nodup
theorem Five.of{z TI TO i1 i2 l1 l2:Addr}(F:Five z TI TO i1 i2)(h1:∀b∈[z,TI,TO,i1,i2],l1≠b)(h2:∀b∈[z,TI,TO,i1,i2],l2≠b):ZipApart z TI TO i1 i2 l1 l2:=by
 have nd:=F.nd;simp only[List.nodup_cons,List.mem_cons,not_or,List.not_mem_nil]at nd;obtain⟨⟨a1,a2,a3,a4,_⟩,⟨b1,b2,b3,_⟩,⟨c1,c2,_⟩,⟨d1,_⟩,_⟩:=nd;exact⟨Ne.symm a1,Ne.symm a2,Ne.symm a3,Ne.symm a4,b1,b2,b3,c1,c2,d1,h1 _ (by simp),h1 _ (by simp),h1 _ (by simp),h1 _ (by simp),h2 _ (by simp),h2 _ (by simp),h2 _ (by simp),h2 _ (by simp)⟩
theorem turn_zipT{P:Program}{w:World}{K:PySem.W.Frag}{es:List Expr}{x1}{pos:Pos}(l1 l2:Addr){z TI TO i1 i2:Addr}(F:Five z TI TO i1 i2):Turn P w K (.Tuple es x1 pos) (Itz K l1 l2) [z,TI,TO,i1,i2] z (λi h=>ZT z TI TO i1 i2 l1 l2 i h) where
 mem:=by simp
 obj:=λi h Z b hb=>by
  simp only[List.mem_cons,List.not_mem_nil,or_false]at hb;obtain⟨hz,hti,⟨a,c,hto⟩,⟨o1,g1,c1,d1⟩,⟨o2,g2,c2,d2⟩⟩:=Z;rcases hb with rfl | rfl | rfl | rfl | rfl
  ·exact⟨_,hz,λv q=>by cases (show Data.fields _=Data.cell v from q)⟩
  ·exact⟨_,hti,λv q=>by cases (show Data.seq _ _=Data.cell v from q)⟩
  ·exact⟨_,hto,λv q=>by cases (show Data.seq _ _=Data.cell v from q)⟩
  ·exact⟨_,g1,λv q=>by rw[d1]at q;cases q⟩
  ·exact⟨_,g2,λv q=>by rw[d2]at q;cases q⟩
 keep:=λi h h' Z k=>by
  obtain⟨hz,hti,⟨a,c,hto⟩,s1,s2⟩:=Z;exact⟨k z (by simp) _ hz,k TI (by simp) _ hti,⟨a,c,k TO (by simp) _ hto⟩,IsTupleIter.as s1 λo e=>k i1 (by simp) o e,IsTupleIter.as s2 λo e=>k i2 (by simp) o e⟩
 item:=by
  intro X hP hw hK hc i pins s σ H E I hf Z hg;subst hP hw hK;obtain⟨xs,ys,x,y,q1,q2,hx,hy⟩:=hg;obtain⟨its1,r1,p1,_⟩:=I.tuple q1;obtain⟨its2,r2,p2,_⟩:=I.tuple q2;obtain⟨u1,hu1,ru1⟩:=r1.get hx;obtain⟨u2,hu2,ru2⟩:=r2.get hy;have D:=F.of (λb hb=>FpOk.apart I (hf b hb) q1) (λb hb=>FpOk.apart I (hf b hb) q2);refine zipT_item D Z (show s.heap.IsTuple l1 its1.toArray from p1) (show s.heap.IsTuple l2 its2.toArray from p2) (x:=u1) (y:=u2) (by simpa using hu1) (by simpa using hu2) λg z1 to1 n1 n2 nu kk=>⟨_,rfl, ?_⟩;refine wpAny_letOwnedTupleGo_zip z1 λg2 z2 sb=>?_;have fr:H s.heap.objs.size=none:=I.hok.fresh (Nat.le_refl _);have fp:∀b∈[z,TI,TO,i1,i2],FpOk X pins (upd H s.heap.objs.size (.tup [x,y])) b:=λb hb=>by
   have lt:b≠s.heap.objs.size:=by
    simp only[List.mem_cons,List.not_mem_nil,or_false]at hb;obtain⟨hz,hti,⟨a,c,hto⟩,⟨o1,g1,_⟩,⟨o2,g2,_⟩⟩:=Z;rcases hb with rfl | rfl | rfl | rfl | rfl
    ·exact Nat.ne_of_lt (Heap.lt_size hz)
    ·exact Nat.ne_of_lt (Heap.lt_size hti)
    ·exact Nat.ne_of_lt (Heap.lt_size hto)
    ·exact Nat.ne_of_lt (Heap.lt_size g1)
    ·exact Nat.ne_of_lt (Heap.lt_size g2)
   exact⟨by rw[jQ lt];exact(hf b hb).1,(hf b hb).2⟩
  have I1:Inv X pins σ (upd H s.heap.objs.size (.tup [x,y])) { s with heap:=s.heap.push { cls:=.type "tuple",data:=.seq #[u1,u2] } } :=I.laid (t':=s.toks) (λb u e=>Heap.get?_push_of_some _ e) (Nat.le_refl _) ⟨by simp [sizeLine],[u1,u2],.cons ru1 (.cons ru2 .nil),⟨_,Heap.get?_push_size _ rfl,rfl,_,rfl⟩⟩;have up:∀c o,c≠z->g.get? c=some o->g2.get? c=some o:=λc o cz e=>sb.extBut _ _ cz e;have zs:z≠s.heap.objs.size:=Nat.ne_of_lt (Heap.lt_size Z.zz);have I2:Inv X pins σ (upd H s.heap.objs.size (.tup [x,y])) { s with heap:=g2 } :=by
   refine Inv.turnedL (s:={ s with heap:=s.heap.push { cls:=.type "tuple",data:=.seq #[u1,u2] } }) (h':=g2) (t':=s.toks) I1 fp λb o hb e=>?_;have bz:b≠z:=λh=>hb (by simp [h]);rcases Heap.get?_push_cases e with⟨e1,e2⟩ | e1
   ·rw[e1,e2];exact up _ _ (Ne.symm zs) nu
   ·exact up _ _ bz (kk b o (λh=>hb (by simp only[List.mem_cons,List.not_mem_nil,or_false]at h ⊢;rcases h with h | h | h | h<;>simp [h])) e1)
  exact⟨.ref s.heap.objs.size,_,I2,rfl,⟨_,x,y,fr,rfl,rfl,λxs' h=>by rw[I.tuple_inj h q1];exact hx,λys' h=>by rw[I.tuple_inj h q2];exact hy⟩,⟨z2,up _ _ D.TIz (kk _ _ (by simp [D.TIz,D.TITO,D.TIi1,D.TIi2]) Z.ti),⟨_,_,up _ _ D.TOz to1⟩,IsTupleIter.as n1 λo e=>up _ o D.i1z e,IsTupleIter.as n2 λo e=>up _ o D.i2z e⟩,λb hb=>(fp b hb).1⟩
 done:=by
  intro X hP hw hK hc i pins s σ H E I hf Z hg;subst hP hw hK;obtain⟨xs,ys,q1,q2,he⟩:=hg;obtain⟨its1,r1,p1,_⟩:=I.tuple q1;obtain⟨its2,r2,p2,_⟩:=I.tuple q2;have D:=F.of (λb hb=>FpOk.apart I (hf b hb) q1) (λb hb=>FpOk.apart I (hf b hb) q2);have e1:=r1.length;have e2:=r2.length;refine zipT_end (I.ok.hd hc) D Z (show s.heap.IsTuple l1 its1.toArray from p1) (show s.heap.IsTuple l2 its2.toArray from p2) ?_ λg kk=>⟨rfl,Inv.turnedL (t':=s.toks) I hf λb o hb e=>kk b o (λh=>hb (by simp only[List.mem_cons,List.not_mem_nil,or_false]at h ⊢;rcases h with h | h | h | h<;>simp [h])) e⟩;rcases he with h | h
  ·exact .inl (by simp;omega)
  ·exact .inr (by simp;omega)
 self:=λ_ _ _ _ _ Z h=>wpAny_pyIter_zip Z.zz h
section
variable{X:Cx}
noncomputable def iZipT(K:PySem.W.Frag)(ta:TA):TI:=fun σ H R=>ta σ H λvs H1=>∃a b,vs=[.ref a,.ref b]/\(∃xs,SqT K H1 a xs)/\(∃ys,SqT K H1 b ys)/\R (Itz K a b) H1
theorem pi_zipT{es:List Expr}{x1}{tp:Pos}{a b:Expr}{ta:TA}{p pos:Pos}(hg:Gl X "zip")(hm:X.mg "zip" = none)(ha:PA X [a,b] ta)(hs:starEach [a,b] X.env=[(false,eval a X.env),(false,eval b X.env)]:=by rfl)(hs2:starEach [b] X.env=[(false,eval b X.env)]:=by rfl) :
  PI X (.Tuple es x1 tp) (.Call (.Name "zip" p) [a,b] [] pos) (iZipT X.K ta):=by
 intro pins s σ H R I h;refine Call_ (xA I hg hm boot_zip (PyProof.Rows.callWith_type1 (thn (ha pos pins s σ H _ I h) λus s1 ⟨vs,H1,I1,r1,q1⟩=>?_) (by rw[hs,hs2]) (by rw[hs2];rfl)));obtain⟨l1,l2,e,⟨xs,q1⟩,⟨ys,q2⟩,q⟩:=q1;subst e;cases r1 with
 | cons r rr=>
  cases rr with
  | cons r' rr=>
   cases rr;cases r;cases r';obtain⟨its1,_,p1,_⟩:=I1.tuple q1;obtain⟨its2,_,p2,_⟩:=I1.tuple q2;refine call_zipT (show s1.heap.IsTuple l1 its1.toArray from p1) (show s1.heap.IsTuple l2 its2.toArray from p2) λg k Z=>wpAny_pyIter_zip Z.zz ?_;refine⟨_,_,_,_,H1,rfl,I1.kept (t':=s1.toks) k,turn_zipT l1 l2 ⟨by simp⟩,Z,λb hb=>?_,q⟩;have hb':s1.heap.objs.size<=b:=by
    simp only[List.mem_cons,List.not_mem_nil,or_false]at hb;rcases hb with rfl | rfl | rfl | rfl | rfl<;>first | exact Nat.le_add_right _ _ | exact Nat.le_refl _
   exact I1.fpOk hb' (I1.hok.fresh hb')
end
end L2
namespace HT
open PySem PySem.Spec PyProof.Rows
section
variable{prog:Program}{w:World}{A:Around}{E:Value->Shared->Prop}{s:Shared}
end
end HT
namespace L2
open PySem PySem.Spec PyProof.Rows
section
variable{X:Cx}
end
end L2
namespace LwMx
open PySem PySem.Spec PyProof.Rows L2 Lw
section
variable{prog:Program}{w:World}{A:Around}{R:Result->Shared->Prop}{J:Addr}{fp wr:List Addr}{n:Nat}{Pv:Nat->Value->Prop}{St:Nat->Heap->Prop}
theorem mxname:(toString "max"++toString ".loop" :String)="max.loop":=by decide
theorem mx_turns(Wk:Walks prog w A.in1 J fp wr n Pv St)(gt:Nat->Nat->Bool)(cmp:CmpOf prog w A.in1 .Gt Pv gt)(B:Addr)(out:B∉fp)(kws:List (Str×Value)) :
  ∀(k j:Nat) (s:Shared) (x:Value) (c:Nat),n-(j+1)=k->j+1<=n->St (j+1) s.heap->Pv (argBest gt j) x->
  s.heap.get? B=some { cls:=.type "list",dict:=none,data:=.seq #[x,x] c,slots:=#[] }->
  (∀y h' tk,Pv (argBest gt (n-1)) y->(∀b o,b∉wr->b≠B->s.heap.get? b=some o->h'.get? b=some o)->R (.ok (.ret y)) { s with heap:=h',toks:=tk })->
  codeAny (model prog w) A (.builtin "max.loop" ⟨[.ref J,.none,.ref B],kws⟩) R s:=by
 have outw:B∉wr:=λz=>out (Wk.sub _ z);intro k;induction k with
 | zero=>
  intro j s x c hk hj st px hB hR;have jn:j+1=n:=by omega
  refine codeAny_builtin PySem.F.entry_max_loop ?_;rw[Around.under_plainId PySem.F.plain_max_loop _];show wpAny _ A.in1 (seqItems? (.ref B) >>= _) _ _ s;refine wpAny_bind (wpAny_seqItems hB rfl ?_);show wpAny _ A.in1 (tryCatch (pyNext (.ref J)) _ >>= _) _ _ s;refine wpAny_bind (wpAny_tryCatch (Wk.done s _ _ (jn▸st) λh1 t1 k1=>?_));have hB1:=k1 B _ outw hB;show wpAny _ A.in1 (updateSeq B (λ_=>#[]) >>= _) _ _ _;refine wpAny_bind (wpAny_updateSeq hB1 rfl (wpAny_bind (wpAny_letGo (wpAny_pure ?_))));exact hR x _ t1 (by rw[<-jn];exact px) λb o n1 n2 e=>(Heap.get?_update_other _ _ (Ne.symm n2)).trans (k1 b o n1 e)
 | succ k ih=>
  intro j s x c hk hj st px hB hR;have jn:j+1<n:=by omega
  refine codeAny_builtin PySem.F.entry_max_loop ?_;rw[Around.under_plainId PySem.F.plain_max_loop _];show wpAny _ A.in1 (seqItems? (.ref B) >>= _) _ _ s;refine wpAny_bind (wpAny_seqItems hB rfl ?_);show wpAny _ A.in1 (tryCatch (pyNext (.ref J)) _ >>= _) _ _ s;refine wpAny_bind (wpAny_tryCatch (Wk.item (j+1) s _ _ jn st λy h1 t1 py st1 k1=>?_));have hB1:=k1 B _ outw hB;show wpAny _ A.in1 (tryCatch (holding [y,y] (richCompare .Gt y x >>= _)) _ >>= _) _ _ _;refine wpAny_bind (wpAny_tryCatch (wpAny_holding (wpAny_bind (cmp (j+1) (argBest gt j) y x _ _ _ py px ?_))));refine wpAny_bind (wpAny_holding (wpAny_truthy_bool (wpAny_bind (wpAny_letGo (wpAny_pure ?_)))));cases hb:gt (j+1) (argBest gt j)with
  | true=>
   simp only[if_true];refine wpAny_bind (wpAny_updateSeq hB1 rfl (wpAny_bind (wpAny_letGo ?_)));rw[mxname];refine wpAny_pure ⟨plainId_quiet PySem.F.plain_max_loop _,ih (j+1) _ y _ (by omega) jn (Wk.frame _ _ _ st1 λb hb' o e=>?_) (by simp only[argBest,hb,if_true];exact py) (Heap.get?_update_self _ hB1 rfl) λy' h2 t2 p2 k2=>?_⟩
   ·exact(Heap.get?_update_other _ _ (λz:B=b=>out (by rw[z];exact hb'))).trans e
   ·exact hR y' h2 t2 p2 λb o n1 n2 e=>k2 b o n1 n2 ((Heap.get?_update_other _ _ (Ne.symm n2)).trans (k1 b o n1 e))
  | false=>
   simp only[Bool.false_eq_true,if_false];refine wpAny_bind (wpAny_letGo ?_);rw[mxname];refine wpAny_pure ⟨plainId_quiet PySem.F.plain_max_loop _,ih (j+1) _ x c (by omega) jn st1 (by simp only[argBest,hb,Bool.false_eq_true,if_false];exact px) hB1 λy' h2 t2 p2 k2=>?_⟩;exact hR y' h2 t2 p2 λb o n1 n2 e=>k2 b o n1 n2 (k1 b o n1 e)
theorem mx_start(Wk:Walks prog w A.in1 J fp wr n Pv St)(gt:Nat->Nat->Bool)(cmp:CmpOf prog w A.in1 .Gt Pv gt)(B:Addr)(out:B∉fp)(d:Value){s:Shared}{c:Nat}(st:St 0 s.heap)
  (hB:s.heap.get? B=some { cls:=.type "list",dict:=none,data:=.seq #[] c,slots:=#[] })
  (h0:n=0->∀h' tk,(∀b o,b∉wr->b≠B->s.heap.get? b=some o->h'.get? b=some o)->R (.ok (.ret d)) { s with heap:=h',toks:=tk })
  (hR:0<n->∀y h' tk,Pv (argBest gt (n-1)) y->(∀b o,b∉wr->b≠B->s.heap.get? b=some o->h'.get? b=some o)->R (.ok (.ret y)) { s with heap:=h',toks:=tk }) :
  codeAny (model prog w) A (.builtin "max.loop" ⟨[.ref J,.none,.ref B],[("default",d)]⟩) R s:=by
 have outw:B∉wr:=λz=>out (Wk.sub _ z);refine codeAny_builtin PySem.F.entry_max_loop ?_;rw[Around.under_plainId PySem.F.plain_max_loop _];show wpAny _ A.in1 (seqItems? (.ref B) >>= _) _ _ s;refine wpAny_bind (wpAny_seqItems hB rfl ?_);show wpAny _ A.in1 (tryCatch (pyNext (.ref J)) _ >>= _) _ _ s;by_cases hn:0<n
 ·refine wpAny_bind (wpAny_tryCatch (Wk.item 0 s _ _ hn st λy h1 t1 py st1 k1=>?_));have hB1:=k1 B _ outw hB;show wpAny _ A.in1 (updateSeq B (λ_=>#[y,y]) >>= _) _ _ _;refine wpAny_bind (wpAny_updateSeq hB1 rfl ?_);rw[mxname];refine wpAny_pure ⟨plainId_quiet PySem.F.plain_max_loop _,mx_turns Wk gt cmp B out _ _ 0 _ y _ rfl hn (Wk.frame _ _ _ st1 λb hb' o e=>?_) py (Heap.get?_update_self _ hB1 rfl) λy' h2 t2 p2 k2=>?_⟩
  ·exact(Heap.get?_update_other _ _ (λz:B=b=>out (by rw[z];exact hb'))).trans e
  ·exact hR hn y' h2 t2 p2 λb o n1 n2 e=>k2 b o n1 n2 ((Heap.get?_update_other _ _ (Ne.symm n2)).trans (k1 b o n1 e))
 ·have z:n=0:=by omega
  subst z;refine wpAny_bind (wpAny_tryCatch (Wk.done s _ _ st λh1 t1 k1=>?_));refine wpAny_bind (wpAny_rule (wpAny_pure ?_));exact h0 rfl _ t1 λb o n1 n2 e=>k1 b o n1 e
end
theorem mx_args(a v:Value):argsOk "max" ⟨[a],[(Str.ofString "default",v)]⟩:=by unfold argsOk;kernel_rfl
section
variable{prog:Program}{w:World}{A:Around}{E:Value->Shared->Prop}{s:Shared}
theorem mx_call{x d:Value}{Q:Value->Shared->Prop}
  (h:wpAny (model prog w) A.in1 (pyIter x) (λit s₂=>∃J fp wr n Pv St gt,it=.ref J/\Walks prog w A.in1 J fp wr n Pv St/\St 0 s₂.heap/\(∀b∈fp,b<s₂.heap.objs.size)/\CmpOf prog w A.in1 .Gt Pv gt/\
   (n=0->∀h' tk,(∀b o,b∉wr->s₂.heap.get? b=some o->h'.get? b=some o)->Q d { s₂ with heap:=h',toks:=tk })/\
   (0<n->∀v h' tk,Pv (argBest gt (n-1)) v->(∀b o,b∉wr->s₂.heap.get? b=some o->h'.get? b=some o)->Q v { s₂ with heap:=h',toks:=tk })) E s) :
  wpAny (model prog w) A (call (.builtin "max") [x] [(Str.ofString "default",d)]) Q E s:=by
 refine kmb_tree PySem.F.kind_max PySem.F.plain_max PySem.F.entry_max (mx_args _ _) ?_;show wpAny _ A.in1 (Builtin.Builtins.bindParams "max" ["key","default"] 0 ⟨[],[(Str.ofString "default",d)]⟩ >>= _) _ _ s;refine wpAny_bind (wpAny_of_eq (show Builtin.Builtins.bindParams "max" ["key","default"] 0 ⟨[],[(Str.ofString "default",d)]⟩=pure [none,some d]from rfl) ?_);refine wpAny_bind (wpAny_pure (wpAny_bind (wpAny_mono h (λit s₂ h₂=>?_) λ_ _ e=>e)));obtain⟨J,fp,wr,n,Pv,St,gt,rfl,Wk,st,lt,cmp,q0,q1⟩:=h₂;refine wpAny_bind (wpAny_newObj_type ?_);have out:s₂.heap.objs.size∉fp:=λz=>Nat.lt_irrefl _ (lt _ z);rw[mxname];have up:∀(h':Heap),(∀b o,b∉wr->b≠s₂.heap.objs.size->(s₂.heap.push { cls:=.type "list",data:=.seq ([]:List Value).toArray }).get? b=some o->h'.get? b=some o)->∀b o,b∉wr->s₂.heap.get? b=some o->h'.get? b=some o:=λh' k b o n1 e=>
  k b o n1 (Nat.ne_of_lt (Heap.lt_size e)) (Heap.get?_push_of_some _ e)
 refine wpAny_pure ⟨plainId_quiet PySem.F.plain_max_loop _,mx_start Wk gt cmp s₂.heap.objs.size out d (Wk.frame _ _ _ st λb _ o e=>Heap.get?_push_of_some _ e) (Heap.get?_push_size _ rfl) (λz h' tk k=>q0 z h' tk (up h' k)) λz v h' tk p k=>q1 z v h' tk p (up h' k)⟩
end
theorem best_is(ns:List Int):∀k,k<ns.length->(argBest (λi j=>decide (ns.getD i 0>ns.getD j 0)) k)<=k/\∀j,j<=k->ns.getD j 0<=ns.getD (argBest (λi j=>decide (ns.getD i 0>ns.getD j 0)) k) 0
 | 0,_=>⟨Nat.le_refl _,λj hj=>by have:j=0:=(by omega);subst this;exact Int.le_refl _⟩
 | k+1,h=>by
  obtain⟨h1,h2⟩:=best_is ns k (by omega);simp only[argBest];split
  ·rename_i hb;have hb:=of_decide_eq_true hb;refine⟨Nat.le_refl _,λj hj=>?_⟩;rcases Nat.lt_or_ge j (k+1)with z | z
   ·have:=h2 j (by omega);omega
   ·have:j=k+1:=by omega
    subst this;exact Int.le_refl _
  ·rename_i hb;refine⟨by omega,λj hj=>?_⟩;rcases Nat.lt_or_ge j (k+1)with z | z
   ·exact h2 j (by omega)
   ·have e:j=k+1:=by omega
    have:¬ns.getD (k+1) 0>ns.getD (argBest (λi j=>decide (ns.getD i 0>ns.getD j 0)) k) 0:=λy=>hb (decide_eq_true y);rw[e];omega
section
variable{X:Cx}
noncomputable def rMaxD(d:Int):List V->Hp->VK->Prop:=λxs H Q=>∃(l:Addr) (ns:List Int),xs=[.ref l]/\H l=some (.lst (ns.map V.int))/\(ns=[]->Q (.int d) H)/\∀m,m∈ns->(∀x∈ns,x<=m)->Q (.int m) H
theorem call_maxD{pins:List (Addr×Obj)}{σ:L2.St}{H:Hp}{s:Shared}{l:Addr}{ns:List Int}{d:Int}{t:Tok}{Q:VK}(hc:X.calm=true)(I:Inv X pins σ H s)(hl:H l=some (.lst (ns.map V.int)))
  (q0:ns=[]->Q (.int d) H) (q1:∀m,m∈ns->(∀x∈ns,x<=m)->Q (.int m) H):wpAny (model X.prog X.w) X.A (call (.builtin "max") [.ref l] [(Str.ofString "default",.int d t)]) (EP X pins σ Q) X.xe s:=by
 obtain⟨its,rv,p,_⟩:=I.list (SqL.of hl);have i1:IntsAre its ns:=qX rv;have il:=vO i1;have ha:l<s.heap.objs.size:=by
  obtain⟨o,_,e,_⟩:=p;exact Heap.lt_size e
 have p':s.heap.IsList l its.toArray:=by
  obtain⟨o,n,e,e2,_,e3⟩:=p;exact⟨o,e,e2,⟨n,e3⟩⟩
 refine mx_call (wpAny_pyIter_list p' ?_);refine⟨s.heap.objs.size,_,_,_,_,_,λi j=>decide (ns.getD i 0>ns.getD j 0),rfl,Walks.list (show X.A.in1.handled=none from I.ok.hd hc) s.heap.objs.size l (Nat.ne_of_lt ha) its.toArray,⟨⟨_,Heap.get?_push_size _ rfl,rfl,rfl⟩,p'.push _⟩, ?_, ?_, ?_, ?_⟩
 ·intro b hb;show b<(s.heap.push _).objs.size;rw[Heap.size_push];simp only[List.mem_cons,List.not_mem_nil,or_false]at hb;rcases hb with rfl | rfl
  ·exact Nat.lt_succ_self _
  ·exact Nat.lt_succ_of_lt ha
 ·refine CmpOf.ints_gt (λi=>ns.getD i 0) λi v hv=>?_;have hv':its[i]? = some v:=by simpa using hv
  obtain⟨hi,e⟩:=List.getElem?_eq_some_iff.mp hv';obtain⟨n,t,e1,e2⟩:=vI i1 hi;exact⟨t,by rw[<-e,e2,List.getD_eq_getElem?_getD,e1];rfl⟩
 ·intro z h' tk k;have z':ns=[]:=by
   have:its.length=0:=by simpa using z
   exact List.length_eq_zero_iff.mp (by omega)
  refine⟨.int d,H,I.kept (t':=tk) (λb o e=>k b o ?_ (Heap.get?_push_of_some _ e)),⟨t,rfl⟩,q0 z'⟩;simp;exact Nat.ne_of_lt (Heap.lt_size e)
 ·intro z v h' tk hv k;have z':0<ns.length:=by
   have:0<its.length:=by simpa using z
   omega
  have sz:its.toArray.size=ns.length:=by rw[List.size_toArray,il]
  rw[sz]at hv;obtain⟨b1,b2⟩:=best_is ns (ns.length-1) (by omega);generalize argBest (λi j=>decide (ns.getD i 0>ns.getD j 0)) (ns.length-1)=i at hv b1 b2;have hv':its[i]? = some v:=by simpa using hv
  obtain⟨hi,e⟩:=List.getElem?_eq_some_iff.mp hv';obtain⟨n,t,e1,e2⟩:=vI i1 hi;have en:ns.getD i 0=n:=by rw[List.getD_eq_getElem?_getD,e1];rfl
  refine⟨.int n,H,I.kept (t':=tk) (λb o e=>k b o ?_ (Heap.get?_push_of_some _ e)),⟨t,by rw[<-e,e2]⟩,q1 n (List.mem_of_getElem? e1) λx hx=>?_⟩
  ·simp;exact Nat.ne_of_lt (Heap.lt_size e)
  ·obtain⟨j,hj⟩:=List.mem_iff_getElem?.mp hx;have hjl:=(List.getElem?_eq_some_iff.mp hj).1;have:=b2 j (by omega);rw[en,List.getD_eq_getElem?_getD,hj]at this;exact this
variable{p pos kpos:Pos}{e e2:Expr}{es:List Expr}{t tk:TA}
noncomputable def tMaxD(t tk:TA):TE:=fun σ H Q=>t σ H λvs H1=>tk σ H1 λzs H2=>∃d,zs=[.int d]/\rMaxD d vs H2 Q
theorem pe_maxD(hc:X.calm=true)(hg:Gl X "max")(hm:X.mg "max" = none)(ha:PA X [e] t)(hk:PK X [⟨some "default",e2,kpos⟩] tk)
  (hall:(backToKw pos (keywordEach [⟨some "default",e2,kpos⟩] X.env)).all (·.1.isSome)=true:=by rfl) (hks:(backToKw pos (keywordEach [⟨some "default",e2,kpos⟩] X.env)).filterMap (·.1)=[Str.ofString "default"]:=by rfl)
  (he:starEach [e] X.env=[(false,eval e X.env)]:=by rfl)
  (hpl:((backTo pos (starEach [e] X.env)).any (·.1)||(backToKw pos (keywordEach [⟨some "default",e2,kpos⟩] X.env)).any (·.1.isNone))=false:=by rfl) :
  PE X (.Call (.Name "max" p) [e] [⟨some "default",e2,kpos⟩] pos) (tMaxD t tk):=by
 intro pins s σ H Q I h;refine wpAny_Call_Name_kw (xA I hg hm (show bootBuiltins "max" = some (.builtin "max") by decide +kernel) ?_ (by decide) (by decide));refine PySem.W.callWith_of (P:=λ_=>True) hpl (λ_ _=>⟨_,.inr (.inl rfl),PySem.W.Looks.of_pure rfl⟩) (evalArgs_kw2 hall (thn (ha pos pins s σ H _ I h) λus s1 ⟨vs,H1,I1,r,q⟩=>?_) he);refine thn (hk pos pins s1 σ H1 _ I1 q) λws s2 ⟨zs,H2,I2,rz,q2⟩=>⟨trivial, ?_⟩;rw[hks];obtain⟨d,rfl,l,ns,rfl,hl,q0,q1⟩:=q2;obtain⟨u,rfl,ru⟩:=vQ r;cases ru;obtain⟨u,rfl,⟨t,rfl⟩⟩:=vQ rz;exact call_maxD hc I2 hl q0 q1
noncomputable def rMax1:List V->Hp->VK->Prop:=λxs H Q=>∃(l:Addr) (ns:List Int),xs=[.ref l]/\H l=some (.lst (ns.map V.int))/\ns≠[]/\∀m,m∈ns->(∀x∈ns,x<=m)->Q (.int m) H
theorem call_max1(hc:X.calm=true):CallR X (.builtin "max") rMax1:=by
 intro pins s σ H xs us Q I r h;obtain⟨l,ns,rfl,hl,hne,q1⟩:=h;obtain⟨u,rfl,ru⟩:=vQ r;cases ru;obtain⟨its,rv,p,_⟩:=I.list (SqL.of hl);have i1:IntsAre its ns:=qX rv;have il:=vO i1;have ha:l<s.heap.objs.size:=by
  obtain⟨o,_,e,_⟩:=p;exact Heap.lt_size e
 have p':s.heap.IsList l its.toArray:=by
  obtain⟨o,n,e,e2,_,e3⟩:=p;exact⟨o,e,e2,⟨n,e3⟩⟩
 have np:0<ns.length:=List.length_pos_iff.mpr hne;refine call_max_walk (wpAny_pyIter_list p' ?_);refine⟨s.heap.objs.size,_,_,_,_,_,λi j=>decide (ns.getD i 0>ns.getD j 0),rfl,Walks.list (show X.A.in1.handled=none from I.ok.hd hc) s.heap.objs.size l (Nat.ne_of_lt ha) its.toArray,⟨⟨_,Heap.get?_push_size _ rfl,rfl,rfl⟩,p'.push _⟩, ?_, ?_, ?_, ?_⟩
 ·intro b hb;show b<(s.heap.push _).objs.size;rw[Heap.size_push];simp only[List.mem_cons,List.not_mem_nil,or_false]at hb;rcases hb with rfl | rfl
  ·exact Nat.lt_succ_self _
  ·exact Nat.lt_succ_of_lt ha
 ·rw[List.size_toArray,il];exact np
 ·refine CmpOf.ints_gt (λi=>ns.getD i 0) λi v hv=>?_;have hv':its[i]? = some v:=by simpa using hv
  obtain⟨hi,e⟩:=List.getElem?_eq_some_iff.mp hv';obtain⟨n,t,e1,e2⟩:=vI i1 hi;exact⟨t,by rw[<-e,e2,List.getD_eq_getElem?_getD,e1];rfl⟩
 ·intro v h' tk hv k;have sz:its.toArray.size=ns.length:=by rw[List.size_toArray,il]
  rw[sz]at hv;obtain⟨b1,b2⟩:=best_is ns (ns.length-1) (by omega);generalize argBest (λi j=>decide (ns.getD i 0>ns.getD j 0)) (ns.length-1)=i at hv b1 b2;have hv':its[i]? = some v:=by simpa using hv
  obtain⟨hi,e⟩:=List.getElem?_eq_some_iff.mp hv';obtain⟨n,t,e1,e2⟩:=vI i1 hi;have en:ns.getD i 0=n:=by rw[List.getD_eq_getElem?_getD,e1];rfl
  refine⟨.int n,H,I.kept (t':=tk) (λb o e=>k b o ?_ (Heap.get?_push_of_some _ e)),⟨t,by rw[<-e,e2]⟩,q1 n (List.mem_of_getElem? e1) λx hx=>?_⟩
  ·simp;exact Nat.ne_of_lt (Heap.lt_size e)
  ·obtain⟨j,hj⟩:=List.mem_iff_getElem?.mp hx;have hjl:=(List.getElem?_eq_some_iff.mp hj).1;have:=b2 j (by omega);rw[en,List.getD_eq_getElem?_getD,hj]at this;exact this
end
end LwMx
namespace L2
open PySem PySem.Spec PyProof.Rows
section
variable{prog:Program}{w:World}{A:Around}{E:Value->Shared->Prop}{s:Shared}
structure ZU(z TI TO i1 i2 l1 l2:Addr)(k:Nat)(h:Heap):Prop where
 zz:IsZip h z TI TO .none
 ti:IsPair h TI (.ref i1) (.ref i2)
 to:∃a b,IsPair h TO a b
 one:h.IsTupleIter i1 l1 k
 two:h.IsListIter i2 l2 k
variable{z TI TO i1 i2 l1 l2:Addr}{k:Nat}{xs ys:Array Value}
end
section
variable{X:Cx}{pins:List (Addr×Obj)}{σ:St}{H:Hp}{s:Shared}{h':Heap}
theorem FpOk.apartL{a b:Addr}{xs:List V}(I:Inv X pins σ H s)(f:FpOk X pins H b)(h:SqL X.K H a xs):a≠b:=by
 rintro rfl;rcases h with(h | ⟨o,h⟩) | ⟨o,its,n,hk,hc,hs,hz,r⟩
 ·rw[f.1]at h;cases h
 ·rw[f.1]at h;cases h
 ·have hb:X.base.get? a=some o:=I.ok.mod.kin a o hk;rcases f.2.2.2.1 with z | z
  ·exact I.ok.noex a o hb z
  ·exact absurd (Nat.lt_of_lt_of_le (Heap.lt_size hb) (Nat.le_trans I.ok.bsz z)) (Nat.lt_irrefl _)
end
section
variable{X:Cx}
end
end L2
namespace L2
open PySem PySem.Spec PyProof.Rows
section
open AutoSeq1 (wpAny_loadPart')
end
section
variable{prog:Program}{w:World}{A:Around}{E:Value->Shared->Prop}{s:Shared}
end
section
variable{X:Cx}
end
theorem for_zipT{K:PySem.W.Frag}{a b:Addr}{xs ys:List V}{g:TG}{tb:TS}{D:Ends}{σ:St}{H:Hp}(Pv:Nat->St->Hp->Prop)(le:xs.length=ys.length)(h0:Pv 0 σ H)(hl:∀i σ H,i<=xs.length->Pv i σ H->SqT K H a xs/\SqT K H b ys)
  (hs:∀i x y p σ H,xs[i]? = some x->ys[i]? = some y->H p=none->Pv i σ H->g (.ref p) σ (upd H p (.tup [x,y])) fun σ2 H2=>tb { D with nx:=Pv (i+1),ct:=Pv (i+1),bk:=D.nx } σ2 H2) (hd:∀σ H,Pv xs.length σ H->D.nx σ H) :
  ∃W:Nat->Nat->St->Hp->Prop,(∃m,W 0 m σ H)/\∀i m σ H,W i m σ H->
   ((Itz K a b).stop i H/\D.nx σ H)∨((Itz K a b).go i H/\∃N:St->Hp->Prop,(∀σ' H',N σ' H'->∃m',m'<m/\W (i+1) m' σ' H')/\∀x H',(Itz K a b).yld i H x H'->g x σ H' fun σ2 H2=>tb { D with nx:=N,ct:=N,bk:=D.nx } σ2 H2):=by
 refine⟨λi m σ H=>m=xs.length-i/\i<=xs.length/\Pv i σ H,⟨xs.length,by simp,Nat.zero_le _,h0⟩, ?_⟩;rintro i m σ H ⟨rfl,hi,p⟩;obtain⟨q1,q2⟩:=hl i σ H hi p;by_cases hlt:i<xs.length
 ·refine .inr ⟨⟨xs,ys,xs[i],ys[i]'(by omega),q1,q2,by simp [hlt],by simp [le▸hlt]⟩,Pv (i+1),fun σ' H' p'=>⟨xs.length-(i+1),by omega,rfl,hlt,p'⟩,λv H' y=>?_⟩;obtain⟨r,x,y,hr,rfl,rfl,hx,hy⟩:=y;exact hs i x y r σ H (hx xs q1) (hy ys q2) hr p
 ·have ei:i=xs.length:=by omega
  subst ei;exact .inl ⟨⟨xs,ys,q1,q2,.inl (Nat.le_refl _)⟩,hd σ H p⟩
end L2
namespace LwD
open PySem PySem.Spec PyProof.Rows L2 Lw
section
variable{X:Cx}
end
end LwD
namespace LwD
open PySem PySem.Spec PyProof.Rows L2 Lw
section
variable{X:Cx}{pins:List (Addr×Obj)}{σ:L2.St}{H:Hp}{s:Shared}
theorem Inv.freeze{d:Addr}{kvs:List (List Key×V)}(I:Inv X pins σ H s)(e:H d=some (.dT kvs)):∃o,Inv X pins σ (upd H d (.frz o (.dT kvs))) s:=by
 have ob:ObjOk X.prog X.w H s.heap d (.dT kvs):=I.hok d _ e;obtain⟨z,lo,xs,rel,o,es,ep,ho,r⟩:=id ob;refine⟨o, ?_⟩;have ne:∀{b:Addr} {u:HO},H b=some u->(∀k,u≠.dT k)->upd H d (.frz o (.dT kvs)) b=some u:=fun {b u} q n=>by
  rw[jQ (λy=>by rw[y,e]at q;cases q;exact n _ rfl)];exact q
 refine I.step (h':=s.heap) (g':=s.gens) (t':=s.toks) (d':=s.drawn) (ch:=[]) (λ_ y=>nomatch y) (λb u _ _ _ q _=>q) (λb u _ _ _ q _=>⟨u.slots,q⟩) (λb u _ _ q=>?_) (λb u _ q=>⟨u,q⟩) (λb xs q=>ne q λ_ y=>by cases y) (λb u v q=>ne q λ_ y=>by cases y)
  (λb ps q=>⟨#[],by rw[ne q λ_ y=>by cases y];simp⟩) (λm hm=>hm) ?_ I.bare
 ·rw[jQ (λy=>by rw[y,e]at q;cases q)];exact q
 ·intro b u q;by_cases hb:b=d
  ·subst hb;rw[jK]at q;cases q;exact⟨ho,ob.stay (λc v _ q=>q) (λc q=>ne q λ_ y=>by cases y) λc xs q=>ne q λ_ y=>by cases y⟩
  ·rw[jQ hb]at q;exact(I.hok b u q).stay (λc v _ q=>q) (λc q=>ne q λ_ y=>by cases y) λc xs q=>ne q λ_ y=>by cases y
end
section
variable{X:Cx}
noncomputable def tFrz(te:TE):TE:=fun σ H Q=>te σ H λv H1=>∃d kvs,v=.ref d/\H1 d=some (.dT kvs)/\∀o,Q v (upd H1 d (.frz o (.dT kvs)))
theorem yC{e:Expr}{te:TE}(h:PE X e te):PE X e (tFrz te):=by
 intro pins s σ H Q I hq;refine thn (h pins s σ H _ I hq) λu s1 ⟨x,H1,I1,r1,q1⟩=>?_;obtain⟨d,kvs,rfl,hd,k⟩:=q1;obtain⟨o,I2⟩:=Inv.freeze I1 hd;exact⟨.ref d,_,I2,r1,k o⟩
end
noncomputable def Itk(d:Addr)(o:Obj)(kvs:List (List Key×V))(ys:List V):It:=
 ⟨λi H=>H d=some (.frz o (.dT kvs))/\i<ys.length,λi H x H'=>H'=H/\ys[i]? = some x,λi H=>H d=some (.frz o (.dT kvs))/\i=ys.length⟩
theorem turn_keys{P:Program}{w:World}{K:PySem.W.Frag}{tg:Expr}(d it:Addr){o:Obj}{es:Array DictEntry}{ep:Nat}{kvs:List (List Key×V)}{ys:List V}(xo:o.ExactDict)(ho:o.data=.dict es ep)
  (hy:∀(i:Nat) (h:i<es.size),∃b,es[i].key=.ref b/\ys[i]? = some (.ref b)) (hl:ys.length=es.size):Turn P w K tg (Itk d o kvs ys) [it] it (λi h=>h.IsKeyIter it d i es.size ep) where
 mem:=by simp
 obj:=λi h st b hb=>by
  have e:b=it:=by simpa using hb
  subst e;obtain⟨o,e,c,d⟩:=st;exact⟨o,e,λv z=>by rw[d]at z;cases z⟩
 keep:=λi h h' st k=>st.at λo e=>k it (by simp) o e
 item:=by
  intro X hP hw hK hc i pins s σ H E I hf st hg;subst hP hw hK;obtain⟨hd,hi⟩:=hg;have raw:Raw s.heap d es ep:=⟨o,(I.hok d _ hd).1,xo,ho⟩;obtain⟨b,eb,yb⟩:=hy i (by omega);obtain⟨f0,f1,f2,f3,f4,f5⟩:=hf it (by simp);refine raw_next st raw (by omega) λh' st' sb=>?_;have I1:Inv X pins σ H { s with heap:=h' } :=I.turned (t':=s.toks) (λb o hb e=>(sb.2 b hb).trans e) f0 f1 f3 f4 f5;obtain⟨oi,e,c,dd⟩:=id st';exact⟨_,rfl,go_of (s:={ s with heap:=h' }) e c dd (by decide) ⟨.ref b,H,I1,by rw[eb];rfl,⟨rfl,yb⟩,st',λb hb=>(hf b hb).1⟩⟩
 done:=by
  intro X hP hw hK hc i pins s σ H E I hf st hg;subst hP hw hK;obtain⟨hd,hi⟩:=hg;have raw:Raw s.heap d es ep:=⟨o,(I.hok d _ hd).1,xo,ho⟩;obtain⟨f0,f1,f2,f3,f4,f5⟩:=hf it (by simp);rw[hi,hl]at st;exact raw_end (I.ok.hd hc) st raw λh' eb=>⟨rfl,I.turned (t':=s.toks) (λb o hb e=>eb b o hb e) f0 f1 f3 f4 f5⟩
 self:=λ_ _ _ _ _ st h=>wpAny_pyIter_keyiter st h
section
variable{X:Cx}
noncomputable def iKeys(te:TE):TI:=fun σ H R=>te σ H λv H1=>∃d o kvs,v=.ref d/\H1 d=some (.frz o (.dT kvs))/\(∀p∈kvs,∃ns:List Int,p.1=ik ns)/\∀ys,Keyed H1 ys kvs->R (Itk d o kvs ys) H1
theorem zI{tg l:Expr}{tl:TE}(hl:PE X l tl):PI X tg l (iKeys tl):=by
 intro pins s σ H R I h;refine thn (hl pins s σ H _ I h) λv s1 ⟨x,H1,I1,r1,q1⟩=>?_;obtain⟨d,o,kvs,rfl,hd,hk,q⟩:=q1;cases r1;obtain⟨go,ob⟩:=I1.hok d _ hd;obtain⟨z,lo,ks,rel,o',es,ep,ho,xo,hdat,he,hn⟩:=(show ObjOk X.prog X.w H1 s1.heap d (.dT kvs)from ob);rw[go]at ho;cases ho;have esz:es.size=kvs.length:=by rw[size_of_entries he,<-Paired.length rel]
 have itup:∀(j:Nat) (h:j<es.size),∃(b:Addr) (ns:List Int) (v:V),es[j].key=.ref b/\H1 b=some (.tup (ns.map V.int))/\kvs[j]? = some (ik ns,v):=λj hj=>by
  have e1:=entry_at he j;rw[Array.getElem?_eq_getElem hj]at e1;cases e2:ks[j]? with
  | none=>rw[e2]at e1;cases e1
  | some x=>
   rw[e2]at e1;have e3:es[j]=entryOfKey _ x:=Option.some.inj e1;obtain⟨v,m1,m2⟩:=KTgetI rel e2;obtain⟨ns,n1⟩:=hk _ (List.mem_of_getElem? m1);dsimp only at n1;rw[n1]at m1 m2;rw[xM]at m2;exact⟨x.2.1,ns,v,by rw[e3];rfl,m2,m1⟩
 have kref:∀(j:Nat) (h:j<es.size),∃b:Addr,es[j].key=.ref b:=λj hj=>let ⟨b,_,_,e,_⟩:=itup j hj;⟨b,e⟩;refine raw_iter lo ⟨o,go,xo,hdat⟩ ?_;refine⟨s1.heap.objs.size,[s1.heap.objs.size],_,_,H1,rfl,I1.kept (t':=s1.toks) λb o e=>Heap.get?_push_of_some _ e,turn_keys (kvs:=kvs) d _ xo hdat (ys:=es.toList.map λe=>match e.key with | .ref b=>V.ref b | _=>V.non) ?_ (by simp),⟨_,Heap.get?_push_size _ rfl,rfl,rfl⟩,λb hb=>?_,q _ ⟨by simp [esz],λi y p ey ep=>?_⟩⟩
 ·intro i hi;obtain⟨b,e⟩:=kref i hi;refine⟨b,e, ?_⟩;simp only[List.getElem?_map,Array.getElem?_toList,Array.getElem?_eq_getElem hi,Option.map_some,e]
 ·have e:b=s1.heap.objs.size:=by simpa using hb
  rw[e];exact I1.fpOk (Nat.le_refl _) (I1.hok.fresh (Nat.le_refl _))
 ·have hi:i<es.size:=by
   have:=(List.getElem?_eq_some_iff.mp ey).1;simpa using this
  obtain⟨b,ns,v,e1,e2,e3⟩:=itup i hi;simp only[List.getElem?_map,Array.getElem?_toList,Array.getElem?_eq_getElem hi,Option.map_some,e1,Option.some.injEq]at ey;rw[e3]at ep;cases ep;exact⟨b,ns,ey.symm,e2,rfl⟩
end
theorem yZ{d:Addr}{o:Obj}{kvs:List (List Key×V)}{xs:List V}{g:TG}{tb:TS}{D:Ends}{σ:L2.St}{H:Hp}(Pv:Nat->L2.St->Hp->Prop)(h0:Pv 0 σ H)(hl:∀i σ H,Pv i σ H->H d=some (.frz o (.dT kvs)))
  (hs:∀i x σ H,xs[i]? = some x->Pv i σ H->g x σ H fun σ2 H2=>tb { D with nx:=Pv (i+1),ct:=Pv (i+1),bk:=D.nx } σ2 H2) (hd:∀σ H,Pv xs.length σ H->D.nx σ H) :
  ∃W:Nat->Nat->L2.St->Hp->Prop,(∃m,W 0 m σ H)/\∀i m σ H,W i m σ H->
   ((Itk d o kvs xs).stop i H/\D.nx σ H)∨((Itk d o kvs xs).go i H/\∃N:L2.St->Hp->Prop,(∀σ' H',N σ' H'->∃m',m'<m/\W (i+1) m' σ' H')/\∀x H',(Itk d o kvs xs).yld i H x H'->g x σ H' fun σ2 H2=>tb { D with nx:=N,ct:=N,bk:=D.nx } σ2 H2):=by
 refine⟨λi m σ H=>m=xs.length-i/\i<=xs.length/\Pv i σ H,⟨xs.length,by simp,Nat.zero_le _,h0⟩, ?_⟩;rintro i m σ H ⟨rfl,hi,p⟩;have q:=hl i σ H p;by_cases hlt:i<xs.length
 ·refine .inr ⟨⟨q,hlt⟩,Pv (i+1),fun σ' H' p'=>⟨xs.length-(i+1),by omega,rfl,hlt,p'⟩,λx H' y=>?_⟩;obtain⟨e,y⟩:=y;subst e;exact hs i x σ _ y p
 ·have ei:i=xs.length:=by omega
  subst ei;exact .inl ⟨⟨q,rfl⟩,hd σ H p⟩
section
variable{X:Cx}
noncomputable def CDivP(i j:Int):Prop:=0<j/\Builtin.divisionGoesByPylong i j=false
theorem op_fdivP:OpR X (binaryOp .FloorDiv) (rI CDivP λi j=>.int (i/j)):=opI λi j _ _ _ _ _ hc q=>by
 refine floordiv_int (by have:=hc.1;omega) ?_ (.inl hc.2);rw[Int.fdiv_eq_ediv_of_nonneg _ (Int.le_of_lt hc.1)];exact q
theorem cdivp_of{i j:Int}(h:CDivL i j):CDivP i j:=⟨h.1,PyProof.noPylong_of_log2 (Nat.lt_of_lt_of_le (LwM.log2_lt (by decide) h.2) (by decide))⟩
theorem mL{i j:Int}{m:Nat}(hj:0<j)(hm:m<=13400)(hi:i.natAbs<2^m):CDivP i j:=by
 refine⟨hj, ?_⟩;by_cases h9:j.natAbs.log2<9000
 ·exact PyProof.noPylong_of_log2 h9
 ·show(decide ((if j==0 then 0 else j.natAbs.log2/30+1)>300)&&decide ((if i==0 then 0 else i.natAbs.log2/30+1)>(if j==0 then 0 else j.natAbs.log2/30+1)+150))=false;rw[Bool.and_eq_false_iff]
  right
  refine decide_eq_false ?_;have j0:(j==0)=false:=by
   rw[beq_eq_false_iff_ne];omega
  rw[j0];simp only[Bool.false_eq_true,if_false];have:i.natAbs.log2<13440:=by
   by_cases z:i.natAbs=0
   ·rw[z];decide +kernel
   ·exact(Nat.log2_lt z).mpr (Nat.lt_of_lt_of_le hi (Nat.pow_le_pow_right (by decide) (by omega)))
  split<;>omega
end
end LwD
namespace LwD
open PySem PySem.W PySem.Spec PyProof.Rows
noncomputable def TruT{α:Type}(lt:Nat->Nat->Bool)(n:Nat):KasT α->(α->Prop)->Prop
 | .ret a,P=>P a
 | .ask i j k,P=>i<n/\j<n/\TruT lt n (k (lt i j)) P
theorem TruT.bind{α β:Type}{lt:Nat->Nat->Bool}{n:Nat}{f:α->KasT β}{P:α->Prop}{R:β->Prop} :∀{t:KasT α},TruT lt n t P->(∀a,P a->TruT lt n (f a) R)->TruT lt n (t.bind f) R
 | .ret a,h,g=>g a h
 | .ask _ _ _,h,g=>⟨h.1,h.2.1,TruT.bind h.2.2 g⟩
theorem TruT.mono{α:Type}{lt:Nat->Nat->Bool}{n:Nat}{P R:α->Prop}(g:∀a,P a->R a):∀{t:KasT α},TruT lt n t P->TruT lt n t R
 | .ret a,h=>g a h
 | .ask _ _ _,h=>⟨h.1,h.2.1,TruT.mono g h.2.2⟩
structure Strict(lt:Nat->Nat->Bool)(n:Nat):Prop where
 tr:∀a b c,lt a b=true->lt b c=true->lt a c=true
 as:∀a b,lt a b=true->lt b a=false
 tot:∀a b,a<n->b<n->a≠b->lt a b=false->lt b a=true
noncomputable def Up(lt:Nat->Nat->Bool)(p:Array Nat)(m:Nat):Prop:=∀a b,a<b->b<m->lt (p.getD a 0) (p.getD b 0)=true
noncomputable def Dn(lt:Nat->Nat->Bool)(p:Array Nat)(m:Nat):Prop:=∀a b,a<b->b<m->lt (p.getD b 0) (p.getD a 0)=true
theorem Pm.ne{n:Nat}{p:Array Nat}(h:Pm n p){a b:Nat}(hab:a<b)(hb:b<n):p.getD a 0≠p.getD b 0:=by
 have sz:=h.size;have nd:p.toList.Nodup:=h.nodup_iff.mpr List.nodup_range;have ha':a<p.toList.length:=by simp [sz];omega
 have hb':b<p.toList.length:=by simp [sz];omega
 intro e;have e1:p.toList[a]=p.toList[b]:=by
  have h1:p.getD a 0=p.toList[a]:=by simp [Array.getD,show a<p.size by omega]
  have h2:p.getD b 0=p.toList[b]:=by simp [Array.getD,show b<p.size by omega]
  rw[<-h1,<-h2,e]
 have:=(List.getElem_inj nd).mp e1;omega
section
variable{lt:Nat->Nat->Bool}{n:Nat}
theorem Up.snoc(O:Strict lt n){p:Array Nat}{m:Nat}(u:Up lt p m)(h:0<m->lt (p.getD (m-1) 0) (p.getD m 0)=true):Up lt p (m+1):=by
 intro a b hab hb;by_cases hbm:b<m
 ·exact u a b hab hbm
 ·have:b=m:=by omega
  subst this;by_cases ha:a=b-1
  ·rw[ha];exact h (by omega)
  ·exact O.tr _ _ _ (u a (b-1) (by omega) (by omega)) (h (by omega))
theorem Dn.snoc(O:Strict lt n){p:Array Nat}{m:Nat}(u:Dn lt p m)(h:0<m->lt (p.getD m 0) (p.getD (m-1) 0)=true):Dn lt p (m+1):=by
 intro a b hab hb;by_cases hbm:b<m
 ·exact u a b hab hbm
 ·have:b=m:=by omega
  subst this;by_cases ha:a=b-1
  ·rw[ha];exact h (by omega)
  ·exact O.tr _ _ _ (h (by omega)) (u a (b-1) (by omega) (by omega))
theorem tru_asc(O:Strict lt n){p:Array Nat}(h:Pm n p)(hn:0<n):∀(f k:Nat),1<=k->k+f=n->Up lt p k->TruT lt n (kas_asc p f k) λm=>k<=m/\m<=n/\Up lt p m/\(m<n->lt (p.getD m 0) (p.getD (m-1) 0)=true)
 | 0,k,h1,h2,u=>⟨Nat.le_refl _,by omega,u,λz=>by omega⟩
 | f+1,k,h1,h2,u=>by
  refine⟨h.lt hn,h.lt hn, ?_⟩;cases hb:lt (p.getD k 0) (p.getD (k-1) 0)with
  | true=>exact⟨Nat.le_refl _,by omega,u,λ_=>hb⟩
  | false=>
   have up:Up lt p (k+1):=u.snoc O λ_=>O.tot _ _ (h.lt hn) (h.lt hn) (Ne.symm (h.ne (by omega) (by omega))) hb;refine(tru_asc O h hn f (k+1) (by omega) (by omega) up).mono λm hm=>⟨by omega,hm.2⟩
theorem tru_desc(O:Strict lt n)(hn:0<n){p:Array Nat}(h:Pm n p):∀(f k:Nat),1<=k->k+f=n->Dn lt p k->TruT lt n (kas_desc f p k 0) λr=>r.1=p/\r.2.2=0/\k<=r.2.1/\r.2.1<=n/\Dn lt p r.2.1
 | 0,k,_,h2,d=>⟨rfl,rfl,Nat.le_refl _,(show k<=n by omega),d⟩
 | f+1,k,h1,h2,d=>by
  refine⟨h.lt hn,h.lt hn, ?_⟩;cases hb:lt (p.getD k 0) (p.getD (k-1) 0)with
  | true=>
   have dn:Dn lt p (k+1):=d.snoc O λ_=>hb;exact(tru_desc O hn h f (k+1) (by omega) (by omega) dn).mono λr hr=>⟨hr.1,hr.2.1,by omega,hr.2.2.2⟩
  | false=>
   refine⟨h.lt hn,h.lt hn, ?_⟩;have:lt (p.getD (k-1) 0) (p.getD k 0)=true:=O.tot _ _ (h.lt hn) (h.lt hn) (Ne.symm (h.ne (by omega) (by omega))) hb;rw[this];exact⟨rfl,rfl,Nat.le_refl _,(show k<=n by omega),d⟩
theorem getD_of?{p:Array Nat}{i:Nat}{q:Array Nat}{j:Nat}(h:p[i]? = q[j]?):p.getD i 0=q.getD j 0:=by
 rw[Array.getD_eq_getD_getElem?,Array.getD_eq_getD_getElem?,h]
theorem rev_up{p:Array Nat}(sz:p.size=n){k:Nat}(hk:k<=n)(d:Dn lt p k):Up lt (kas_rev p 0 k) k:=by
 intro a b hab hb;have e:∀c,c<k->(kas_rev p 0 k).getD c 0=p.getD (k-1-c) 0:=λc hc=>by
  refine getD_of? ?_;unfold kas_rev;rw[getElem?_mirror_all (by omega),if_pos ⟨Nat.zero_le _,hc⟩,Nat.zero_add]
 rw[e a (by omega),e b hb];exact d (k-1-b) (k-1-a) (by omega) (by omega)
theorem tru_count(O:Strict lt n)(hn:0<n):TruT lt n (kas_count n (List.toArray (List.range n))) λr=>Pm n r.2/\1<=r.1/\r.1<=n/\Up lt r.2 r.1:=by
 have h:Pm n (List.toArray (List.range n)):=by unfold Pm;simp
 generalize List.toArray (List.range n)=p at h;have u1:Up lt p 1:=λa b h1 h2=>by omega
 refine(tru_asc O h hn (n-1) 1 (by omega) (by omega) u1).bind λm hm=>?_;obtain⟨m1,m2,um,hlt⟩:=hm;by_cases e:m=n
 ·rw[if_pos (by simp [e])];exact⟨h,m1,m2,um⟩
 ·rw[if_neg (by simp [e])];by_cases m3:m>1
  ·rw[if_pos m3];refine⟨h.lt hn,h.lt hn, ?_⟩;rw[um 0 (m-1) (by omega) (by omega)];exact⟨h,m1,m2,um⟩
  ·rw[if_neg m3];have m4:m=1:=by omega
   subst m4;have d2:Dn lt p 2:=by
    intro a b hab hb;have hl:=hlt (by omega);have:a=0/\b=1:=by omega
    rw[this.1,this.2];exact hl
   unfold kas_descPart;refine(tru_desc O hn h (n-(1+1)) (1+1) (by omega) (by omega) d2).bind λr hr=>?_;obtain⟨r1,r2,r3,r4,r5⟩:=hr;rw[if_neg (by rw[r2];decide),r1];unfold kas_tail3;have hv:Pm n (kas_rev p 0 r.2.1):=h.rev _ _;refine(tru_asc O hv hn (n-r.2.1) r.2.1 (by omega) (by omega) (rev_up h.size r4 r5)).bind λk hk=>?_;exact⟨hv,by omega,hk.2.1,hk.2.2.1⟩
theorem uC(O:Strict lt n)(hn:0<n){p:Array Nat}(h:Pm n p){k:Nat}(hk:k<n)(u:Up lt p k):∀(f l r:Nat),l<=r->r<=k->r-l<=f->(∀a,a<l->lt (p.getD a 0) (p.getD k 0)=true)->(∀a,r<=a->a<k->lt (p.getD k 0) (p.getD a 0)=true)->
  TruT lt n (kas_place p k f l r) λx=>x<=k/\(∀a,a<x->lt (p.getD a 0) (p.getD k 0)=true)/\∀a,x<=a->a<k->lt (p.getD k 0) (p.getD a 0)=true
 | 0,l,r,h1,h2,h3,hl,hr=>⟨by omega,hl,λa ha=>hr a (by omega)⟩
 | f+1,l,r,h1,h2,h3,hl,hr=>by
  show TruT lt n (if l ≥ r then _ else _) _;split
  ·exact⟨by omega,hl,λa ha=>hr a (by omega)⟩
  ·refine⟨h.lt hn,h.lt hn, ?_⟩;have mk:(l+r)/2<k:=by omega
   cases hb:lt (p.getD k 0) (p.getD ((l+r)/2) 0)with
   | true=>
    refine uC O hn h hk u f l ((l+r)/2) (by omega) (by omega) (by omega) hl λa ha hak=>?_;by_cases e:a=(l+r)/2
    ·rw[e];exact hb
    ·exact O.tr _ _ _ hb (u _ _ (by omega) hak)
   | false=>
    have hm:lt (p.getD ((l+r)/2) 0) (p.getD k 0)=true:=O.tot _ _ (h.lt hn) (h.lt hn) (Ne.symm (h.ne mk hk)) hb;refine uC O hn h hk u f ((l+r)/2+1) r (by omega) h2 (by omega) (λa ha=>?_) hr;by_cases e:a=(l+r)/2
    ·rw[e];exact hm
    ·exact O.tr _ _ _ (u a _ (by omega) mk) hm
theorem bub_up{p:Array Nat}(sz:p.size=n){k l:Nat}(hk:k<n)(hl:l<=k)(u:Up lt p k)(h1:∀a,a<l->lt (p.getD a 0) (p.getD k 0)=true)(h2:∀a,l<=a->a<k->lt (p.getD k 0) (p.getD a 0)=true):Up lt (bubble p k (k-l)) (k+1):=by
 have e:∀c,(bubble p k (k-l)).getD c 0=if c=l then p.getD k 0 else if l<c/\c<=k then p.getD (c-1) 0 else p.getD c 0:=λc=>by
  have:=getElem?_bubble (xs:=p) (src:=k) (by omega) (k-l) (by omega) c;have z:k-(k-l)=l:=by omega
  rw[z]at this;split
  ·rename_i hc;rw[if_pos hc]at this;exact getD_of? this
  ·rename_i hc;rw[if_neg hc]at this;split
   ·rename_i hc2;rw[if_pos hc2]at this;exact getD_of? this
   ·rename_i hc2;rw[if_neg hc2]at this;exact getD_of? this
 intro a b hab hb;rw[e a,e b];by_cases a1:a=l
 ·rw[if_pos a1,if_neg (by omega),if_pos ⟨by omega,by omega⟩];exact h2 _ (by omega) (by omega)
 ·rw[if_neg a1];by_cases a2:l<a/\a<=k
  ·rw[if_pos a2,if_neg (by omega),if_pos ⟨by omega,by omega⟩];exact u _ _ (by omega) (by omega)
  ·rw[if_neg a2];by_cases b1:b=l
   ·rw[if_pos b1];exact h1 a (by omega)
   ·rw[if_neg b1];by_cases b2:l<b/\b<=k
    ·rw[if_pos b2];by_cases ab:a=b-1
     ·omega
     ·exact u _ _ (by omega) (by omega)
    ·rw[if_neg b2];exact u _ _ hab (by omega)
theorem tru_bin(O:Strict lt n)(hn:0<n):∀(f:Nat) {p:Array Nat} (_:Pm n p) (k:Nat),k+f=n->Up lt p k->TruT lt n (kas_bin f p k) λq=>Pm n q/\Up lt q n
 | 0,p,h,k,hk,u=>⟨h,by have:k=n:=(by omega);rw[<-this];exact u⟩
 | f+1,p,h,k,hk,u=>by
  refine(uC O hn h (by omega) u k 0 k (Nat.zero_le _) (Nat.le_refl _) (by omega) (λa ha=>by omega) (λa h1 h2=>by omega)).bind λl hl=>?_;exact tru_bin O hn f (h.bub _ _) (k+1) (by omega) (bub_up h.size (by omega) hl.1 u hl.2.1 hl.2.2)
theorem tru_sort(O:Strict lt n)(hn:0<n):TruT lt n (kas_sort n) λq=>Pm n q/\Up lt q n:=by
 refine(tru_count O hn).bind λr hr=>?_;obtain⟨h1,h2,h3,h4⟩:=hr;split
 ·rw[show max r.1 1=r.1 by omega];exact tru_bin O hn _ h1 _ (by omega) h4
 ·have:r.1=n:=by omega
  exact⟨h1,this▸h4⟩
theorem wp_tru{α:Type}{cmp:Nat->Nat->(Bool->Shared->Prop)->Shared->Prop}{s:Shared}(hc:∀i j C,i<n->j<n->C (lt i j) s->cmp i j C s){P:α->Prop}{Q:α->Shared->Prop}(hq:∀a,P a->Q a s):∀{t:KasT α},TruT lt n t P->t.kasWp cmp Q s
 | .ret a,h=>hq a h
 | .ask i j k,h=>hc i j _ h.1 h.2.1 (wp_tru hc hq h.2.2)
end
end LwD
namespace LwD
open PySem PySem.Spec PyProof.Rows L2 Lw
noncomputable def lexI:List Int->List Int->Bool
 | x::xs,y::ys=>if x=y then lexI xs ys else decide (x<y)
 | [],_::_=>true
 | _,[]=>false
theorem lexI_tr:∀a b c:List Int,lexI a b=true->lexI b c=true->lexI a c=true
 | [],[],_,h,_=>by simp [lexI]at h
 | [],_::_,[],_,h=>by simp [lexI]at h
 | [],_::_,_::_,_,_=>by simp [lexI]
 | _::_,[],_,h,_=>by simp [lexI]at h
 | _::_,_::_,[],_,h=>by simp [lexI]at h
 | x::xs,y::ys,z::zs,h1,h2=>by
  have ih:=lexI_tr xs ys zs;simp only[lexI]at h1 h2 ⊢;by_cases e1:x=y
  ·subst e1;rw[if_pos rfl]at h1;by_cases e2:x=z
   ·rw[if_pos e2]at h2 ⊢;exact ih h1 h2
   ·rw[if_neg e2]at h2 ⊢;exact h2
  ·rw[if_neg e1]at h1;have h1:=of_decide_eq_true h1;by_cases e2:y=z
   ·subst e2;rw[if_neg e1];exact decide_eq_true h1
   ·rw[if_neg e2]at h2;have h2:=of_decide_eq_true h2;rw[if_neg (by omega)];exact decide_eq_true (by omega)
theorem lexI_as:∀a b:List Int,lexI a b=true->lexI b a=false
 | [],[],h=>by simp [lexI]at h
 | [],_::_,_=>by simp [lexI]
 | _::_,[],h=>by simp [lexI]at h
 | x::xs,y::ys,h=>by
  have ih:=lexI_as xs ys;simp only[lexI]at h ⊢;by_cases e1:x=y
  ·subst e1;rw[if_pos rfl]at h ⊢;exact ih h
  ·rw[if_neg e1]at h;have h:=of_decide_eq_true h;rw[if_neg (by omega)];exact decide_eq_false (by omega)
theorem lexI_tot:∀a b:List Int,a≠b->lexI a b=false->lexI b a=true
 | [],[],n,_=>absurd rfl n
 | [],_::_,_,h=>by simp [lexI]at h
 | _::_,[],_,_=>by simp [lexI]
 | x::xs,y::ys,n,h=>by
  have ih:=lexI_tot xs ys;simp only[lexI]at h ⊢;by_cases e1:x=y
  ·subst e1;rw[if_pos rfl]at h ⊢;exact ih (λz=>n (by rw[z])) h
  ·rw[if_neg e1]at h;have h:=of_decide_eq_false h;rw[if_neg (by omega)];exact decide_eq_true (by omega)
noncomputable def lexG(fin:Bool):List Int->List Int->Bool
 | x::xs,y::ys=>if x=y then lexG fin xs ys else decide (x<y)
 | _,_=>fin
theorem lexG_is:∀a b:List Int,lexG (decide (a.length<b.length)) a b=lexI a b
 | [],[]=>rfl
 | [],_::_=>by simp [lexG,lexI]
 | _::_,[]=>by simp [lexG,lexI]
 | x::xs,y::ys=>by
  have ih:=lexG_is xs ys;simp only[lexG,lexI,List.length_cons,Nat.add_lt_add_iff_right];rw[ih]
noncomputable def xL(k:List Key):List Int:=k.filterMap fun | .inl i=>some i | .inr _=>none
theorem mC(ns:List Int):xL (ik ns)=ns:=by
 unfold xL ik;induction ns with
 | nil=>rfl
 | cons n r ih=>simp [ih]
theorem KTkeys{H:Hp}{kvs:List (List Key×V)}{xs:List (List Key×Addr×Value)}(r:KT H kvs xs):kvs.map (·.1)=xs.map (·.1):=by
 induction r with
 | nil=>rfl
 | cons h _ ih=>rw[List.map_cons,List.map_cons,ih,h.1]
section
variable{prog:Program}{w:World}{A:Around}{E:Value->Shared->Prop}{s:Shared}
theorem lex_true{b fin:Bool}{Q:Bool->Shared->Prop} :∀{as bs:List Value} {xs ys:List Int} (_:IntsAre as xs) (_:IntsAre bs ys) (_:Q (lexG fin xs ys) s) (i:Nat),PySem.W.KatLex prog w A b fin Q (as.zip bs) i s
 | _,_,_,_,.nil,_,h,_=>by
  rw[List.zip_nil_left];exact PySem.W.kat_nil (by simpa [lexG]using h)
 | _,_,_,_,.cons _ _ _,.nil,h,_=>by
  rw[List.zip_nil_right];exact PySem.W.kat_nil (by simpa [lexG]using h)
 | _,_,_,_,.cons n t r,.cons m u r2,h,i=>by
  rw[List.zip_cons_cons];simp only[lexG]at h;refine PySem.W.kat_cons (SeqAt.EqAt.int_int _ _ _ _ prog w _ _ ?_);refine PySem.W.kat_go (λe=>PySem.W.kat_yes (lex_true r r2 (by rwa [if_pos (by simpa using e)]at h) (i+1))) λe=>PySem.W.kat_no ?_;rw[if_neg (by simpa using e)]at h;cases hb:(b&&i==0)with
  | true=>exact oneLt_int h
  | false=>exact PySem.W.kat_one _ _ (lt_int h)
end
section
variable{X:Cx}
noncomputable def rSortS:List V->Hp->VK->Prop:=λxs H Q=>∃(a:Addr) (kvs:List (List Key×V)),xs=[.ref a]/\Rd H a (.dT kvs)/\kvs.length<64/\(∀p∈kvs,∃ns:List Int,p.1=ik ns/\ns≠[])/\
 ∀(ys:List V) (zs:List (List Key×V)),zs.Perm kvs->Keyed H ys zs->zs.Pairwise (λp q=>lexI (xL p.1) (xL q.1)=true)->New H (.lst ys) Q
theorem call_sortS(hc:X.calm=true):CallR X (.builtin "sorted") rSortS:=by
 intro pins s σ H xs us Q I r h;obtain⟨a,kvs,rfl,ha,h64,hk,q⟩:=h;obtain⟨u,rfl,ru⟩:=vQ r;cases ru;obtain⟨z,lo,ks,rel,dd⟩:=zP I.hok ha;obtain⟨o,es,ep,hd1,hd2,hd3,he,his,hn⟩:=id dd;have raw:Raw s.heap a es ep:=⟨o,hd1,hd2,hd3⟩;have esz:es.size=kvs.length:=by rw[size_of_entries he,<-Paired.length rel]
 obtain⟨m,F⟩:=I.fr;have kn:(kvs.map (·.1)).Nodup:=by rw[KTkeys rel];exact hn
 have itup:∀(j:Nat) (h:j<es.size),∃(b:Addr) (ns:List Int) (v:V),es[j].key=.ref b/\H b=some (.tup (ns.map V.int))/\kvs[j]? = some (ik ns,v)/\ns≠[]:=λj hj=>by
  have e1:=entry_at he j;rw[Array.getElem?_eq_getElem hj]at e1;cases e2:ks[j]? with
  | none=>rw[e2]at e1;cases e1
  | some x=>
   rw[e2]at e1;have e3:es[j]=entryOfKey _ x:=Option.some.inj e1;obtain⟨v,m1,m2⟩:=KTgetI rel e2;obtain⟨ns,n1,n2⟩:=hk _ (List.mem_of_getElem? m1);dsimp only at n1;rw[n1]at m1 m2;rw[xM]at m2;exact⟨x.2.1,ns,v,by rw[e3];rfl,m2,m1,n2⟩
 refine PySem.W.kdu_sorted (raw_src lo) (I.ok.hd hc) F news_all raw (by rw[esz];exact z) λD h' tk vs F' N' lt hlen hP=>?_;have vtup:∀(j:Nat) (hj:j<vs.length),∃(b:Addr) (ns:List Int) (v:V),vs[j]=.ref b/\H b=some (.tup (ns.map V.int))/\kvs[j]? = some (ik ns,v)/\ns≠[]:=λj hj=>by
  obtain⟨h1,h2⟩:=hP j vs[j] (by simp [hj]);rw[h2];exact itup j h1
 have vl:vs.length=kvs.length:=by rw[hlen,esz]
 have kvI:∀(j:Nat) (ns:List Int) (v:V),kvs[j]? = some (ik ns,v)->xL (kvs.getD j ([],.non)).1=ns:=λj ns v e=>by rw[List.getD_eq_getElem?_getD,e];exact mC ns
 have O:Strict (λi j=>lexI (xL (kvs.getD i ([],.non)).1) (xL (kvs.getD j ([],.non)).1)) vs.length:=by
  refine⟨λa b c=>lexI_tr _ _ _,λa b=>lexI_as _ _,λa b ha hb hab hf=>?_⟩;obtain⟨_,ns,v,_,_,e3,_⟩:=vtup a ha;obtain⟨_,ms,v',_,_,e3',_⟩:=vtup b hb;rw[kvI _ _ _ e3,kvI _ _ _ e3']at hf;show lexI (xL (kvs.getD b ([],.non)).1) (xL (kvs.getD a ([],.non)).1)=true;rw[kvI _ _ _ e3,kvI _ _ _ e3'];refine lexI_tot _ _ (λz=>hab ?_) hf;have i1:(kvs.map (·.1))[a]? = some (ik ns):=by rw[List.getElem?_map,e3];rfl
  have i2:(kvs.map (·.1))[b]? = some (ik ns):=by rw[List.getElem?_map,e3',z];rfl
  exact(List.getElem?_inj (by rw[List.length_map];omega) kn).mp (i1.trans i2.symm)
 have fin:∀(idx:List Nat) (h3:Heap) (c tk3:Nat),idx.Perm (List.range kvs.length)->idx.Pairwise (λi j=>lexI (xL (kvs.getD i ([],.non)).1) (xL (kvs.getD j ([],.non)).1)=true)->Fr X.base X.env.locals h3 m->News X.base X.env.locals h3 ((D,PySem.W.listOf (idx.map λi=>vs.getD i Value.none).toArray c)::yJ X.base s.heap X.env.locals)->
   EP X pins σ Q (.ref D) { s with heap:=h3,toks:=tk3 } :=λidx h3 c tk3 pm pw F3 N3=>by
  have il:idx.length=kvs.length:=by rw[pm.length_eq,List.length_range]
  have im:∀i∈idx,i<kvs.length:=λi hi=>List.mem_range.mp (pm.mem_iff.mp hi);have tr:∀js:List Nat,(∀i∈js,i<kvs.length)->∃ys:List V,Vals ys (js.map λi=>vs.getD i Value.none)/\Keyed H ys (js.map λi=>kvs.getD i ([],.non)):=by
   intro js;induction js with
   | nil=>exact λ_=>⟨[],.nil,rfl,λi y p e=>by simp at e⟩
   | cons j js ih=>
    intro hj;obtain⟨ys,r1,r2,r3⟩:=ih λi hi=>hj i (List.mem_cons_of_mem _ hi);have hj1:=hj j (List.mem_cons_self ..);obtain⟨b,ns,x,e1,e2,e3,_⟩:=vtup j (by rw[vl];exact hj1);refine⟨.ref b::ys, ?_,by simp [r2],λi y p ey ep=>?_⟩
    ·rw[List.map_cons];refine .cons ?_ r1;rw[List.getD_eq_getElem?_getD,List.getElem?_eq_getElem (by rw[vl];exact hj1),e1]
     rfl
    ·cases i with
     | zero=>
      simp only[List.map_cons,List.getElem?_cons_zero,Option.some.injEq]at ey ep;rw[List.getD_eq_getElem?_getD,e3]at ep;subst ey;subst ep;exact⟨b,ns,rfl,e2,rfl⟩
     | succ i=>
      simp only[List.map_cons,List.getElem?_cons_succ]at ey ep;exact r3 i y p ey ep
  obtain⟨ys,rv,hy⟩:=tr idx im;have yl:ys.length=kvs.length:=by rw[hy.1,List.length_map];exact il
  have nb:=new_by_news (ho:=.lst ys) (tk:=tk3) I F F3 N3 lt λe=>⟨by rw[yl];exact z,_,c,rv,e⟩;have pz:(idx.map λi=>kvs.getD i ([],.non)).Perm kvs:=by
   have:=pm.map λi=>kvs.getD i ([],V.non);rw[mD]at this;exact this
  exact⟨.ref D,_,nb.2,rfl,(q ys _ pz hy (List.pairwise_map.mpr pw)).at nb.1⟩
 have nD:=N' (D,PySem.W.listOf vs.toArray 0) (List.mem_cons_self ..);by_cases h2:vs.length<2
 ·refine sort_small (n:=0) nD.1 h2 ?_;obtain⟨c,hat⟩:=sortedHeap_at (vs:=vs) (n:=0) (out:=vs.toArray) nD.1;have old:∀b u,b≠D->h'.get? b=some u->(sortedHeap h' D vs vs.toArray).get? b=some u:=λb u hb e=>by
   rw[sortedHeap_old hb (Heap.lt_size e)];exact e
  have er:(List.range kvs.length).map (λi=>vs.getD i Value.none)=vs:=by rw[<-vl];exact mD vs _
  refine fin (List.range kvs.length) _ c tk (List.Perm.refl _) (by
   rw[<-vl];have:vs.length=0∨vs.length=1:=by omega
   rcases this with z | z<;>rw[z]<;>simp) ⟨?_,λb u e=>old b u (λy=>by rw[y,nD.2.2]at e;cases e) (F'.keep b u e),F'.above⟩ (λp hp=>?_)
  ·obtain⟨ob,es',ep',e1,e2⟩:=F'.ns;exact⟨ob,es',ep',old _ _ (Ne.symm nD.2.1) e1,e2⟩
  ·rw[er]at hp;rcases List.mem_cons.mp hp with rfl | hp
   ·exact⟨hat,nD.2⟩
   ·have y:=N' p (List.mem_cons_of_mem _ hp);exact⟨old _ _ (Nat.ne_of_lt (lt p hp)) y.1,y.2⟩
 ·have hd:∀q∈yJ X.base s.heap X.env.locals,q.1≠D:=λq hq=>Nat.ne_of_lt (lt q hq);refine PySem.W.kat_lsort (vs:=vs) (its:=vs.toArray) F' N' (.head hd) rfl (by omega) (by omega) λe1 h4 F4 N4=>?_;have in4:∀b xs,H b=some (.tup xs)->∃its:List Value,Vals xs its/\IsTup h4 b its.toArray:=λb xs e=>by
   obtain⟨_,its,rv,ob,ho,hc2⟩:=(show ObjOk X.prog X.w H s.heap b (.tup xs)from I.hok b _ e);refine⟨its,rv,ob, ?_,hc2⟩;cases y:X.base.get? b with
   | some u=>
    have y2:=I.bk b u y;rw[ho]at y2;cases y2;exact F4.keep b _ y
   | none=>exact(N4 (b,ob) (List.mem_cons_of_mem _ (yX (λy2=>by rw[y2,I.free]at e;cases e) y ho))).1
  have tups:∀l:List Value,(∀v∈l,v∈vs)->∃fs:List Value,PySem.W.KatTups h4 l fs/\fs.length=l.length/\∀f∈fs,∃n t,f=Value.int n t:=by
   intro l;induction l with
   | nil=>exact λ_=>⟨[],.nil,rfl,λ_ y=>nomatch y⟩
   | cons v r ih=>
    intro hm;obtain⟨fs,t1,t2,t3⟩:=ih λv' hv'=>hm v' (List.mem_cons_of_mem _ hv');obtain⟨j,hj,ev⟩:=List.getElem_of_mem (hm v (List.mem_cons_self ..));obtain⟨b,ns,x,g1,g2,g3,g4⟩:=vtup j hj;obtain⟨its,rv,ob,ho,hc2,nn,hdt⟩:=in4 b _ g2
    match ns,g4,rv with
    | n::nr,_,.cons (b:=iv) (l₂:=ir) rr rt=>
     obtain⟨tt,rfl⟩:=rr;rw[<-ev,g1];exact⟨.int n tt::fs,.cons ho hc2 hdt (by simp) t1,by simp [t2],λf hf=>(List.mem_cons.mp hf).elim (λy=>⟨n,tt,y⟩) (t3 f)⟩
  obtain⟨fs,t1,t2,t3⟩:=tups vs λ_ y=>y;refine PySem.W.kat_kind (T:=.type "int") t1 (by omega) (λf hf=>?_) (by decide) ?_
  ·obtain⟨n,t,rfl⟩:=t3 f hf;exact PySem.W.Looks.of_pure rfl
  ·refine wp_tru (n:=vs.length) (P:=λq=>Pm vs.length q/\Up (λi j=>lexI (xL (kvs.getD i ([],.non)).1) (xL (kvs.getD j ([],.non)).1)) q vs.length) (λi j C hi hj hC=>?_) (λp hp=>?_) (tru_sort O (by omega))
   ·obtain⟨b,ns,x,g1,g2,g3,_⟩:=vtup i hi;obtain⟨b',ns',x',g1',g2',g3',_⟩:=vtup j hj;obtain⟨its,rv,ob,ho,hc2,nn,hdt⟩:=in4 b _ g2;obtain⟨its',rv',ob',ho',hc2',nn',hdt'⟩:=in4 b' _ g2';unfold PySem.W.kas_ask;rw[show vs.getD i Value.none=.ref b by rw[List.getD_eq_getElem?_getD,List.getElem?_eq_getElem hi,g1];rfl,show vs.getD j Value.none=.ref b' by rw[List.getD_eq_getElem?_getD,List.getElem?_eq_getElem hj,g1'];rfl];rw[kvI _ _ _ g3,kvI _ _ _ g3']at hC;have i1:=qX rv;have i2:=qX rv';refine PySem.W.kat_lt ho hdt ho' hdt' (lex_true i1 i2 ?_ 0);rw[List.size_toArray,List.size_toArray,vO i1,vO i2,lexG_is];exact hC
   ·refine PySem.W.KasFin.intro F4 N4 (.head hd) λh5 c F5 N5=>fin p.toList h5 c tk ?_ ?_ F5 N5
    ·rw[<-vl];exact hp.1
    ·have sz:=hp.1.size;refine List.pairwise_iff_getElem.mpr λa b ha hb hab=>?_;have ha':a<p.size:=by simpa using ha
     have hb':b<p.size:=by simpa using hb
     have:=hp.2 a b hab (by omega);simpa [Array.getD,ha',hb']using this
end
end LwD
namespace LwD
open PySem PySem.Spec PyProof.Rows L2 Lw
theorem miss_keys:typeLookup (.type "tuple") "keys" = pure none:=am_miss_of_fast (by decide +kernel)
theorem tup_hook:typeLookup (.type "tuple") "__getattr__" = pure none:=by rw[typeLookup_type,builtinLookup_eq_fast];kernel_rfl
section
variable{prog:Program}{w:World}{A:Around}{E:Value->Shared->Prop}{h:Heap}{g:Array GenState}{d:Drawn}{t:Nat}{os:OsState}{a:Addr}{o:Obj}
theorem keys_entry{tk:Tok}{Q:Fin->Shared->Prop}(hx:h.get? a=some o)(hc:o.cls=.type "tuple")(hd:o.dict=none)(n:Nat)(its:Array Value)(hs:o.data=.seq its n)(hh:A.handled=none)
  (hq:∀h' tk' e,Heap.NewAttrErr h h' e (.ref a) "keys"->E (.ref e) ⟨h',g,d,tk',os⟩) :
  wpAny (model prog w) A (Builtin.«object.__getattribute__» ⟨[.ref a,.str "keys" tk],[]⟩) Q E ⟨h,g,d,t,os⟩:=by
 have hT:(⟨h,g,d,t,os⟩:Shared).TypeIs (.ref a) "tuple":=⟨_,hx,hc⟩;have f4:=miss_keys;obtain⟨c,dd,dt,sl⟩:=o
 replace hc:c=.type "tuple":=hc
 replace hd:dd=none:=hd
 replace hs:dt=.seq its n:=hs
 subst hc hd hs;unfold Builtin.«object.__getattribute__»
 repeat (any_goals (first | assumption | wp_step))
 exact wpAny_raiseAttrError hh hq (attrMsg_fits (by decide +kernel) (by size_fits))
theorem keys_call{tk:Tok}{R:Result->Shared->Prop}(hx:h.get? a=some o)(hc:o.cls=.type "tuple")(hd:o.dict=none)(n:Nat)(its:Array Value)(hs:o.data=.seq its n)(hh:A.handled=none)
  (hq:∀h' tk' e,Heap.NewAttrErr h h' e (.ref a) "keys"->R (.error (.ref e)) ⟨h',g,d,tk',os⟩) :
  codeAny (model prog w) A (.call (.builtin "tuple.__getattribute__") ⟨[.ref a,.str "keys" tk],[]⟩) R ⟨h,g,d,t,os⟩:=
 codeAny_call_builtin F.slot_tuple_getattribute.plain F.entry_tuple_ga (F.slot_tuple_getattribute.check _ _ _ _ _ _ _ _ (show(⟨h,g,d,t,os⟩:Shared).TypeIs (.ref a) "tuple" from⟨_,hx,hc⟩) (F.args_tuple_getattribute_2 _ _) (keys_entry hx hc hd n its hs (show A.in1.handled=none from hh) hq))
theorem keys_none{Q:Option Value->Shared->Prop}(hx:h.get? a=some o)(hc:o.cls=.type "tuple")(hd:o.dict=none)(n:Nat)(its:Array Value)(hs:o.data=.seq its n)(hh:A.handled=none)
  (hq:∀h' tk',(∀b u,h.get? b=some u->h'.get? b=some u)->Q none ⟨h',g,d,tk',os⟩):wpAny (model prog w) A (getAttr? (.ref a) "keys") Q E ⟨h,g,d,t,os⟩:=by
 have hT:(⟨h,g,d,t,os⟩:Shared).TypeIs (.ref a) "tuple":=⟨_,hx,hc⟩;have f2:=F.slot_tuple_getattribute.lookup;have f3:=F.slot_tuple_getattribute.bind (.ref a);have f1:=sub_AttributeError;have kc:=λ(A:Around) (t:Nat) (tk:Tok) (R:Result->Shared->Prop) (hh:A.handled=none)=>keys_call (prog:=prog) (w:=w) (A:=A) (g:=g) (d:=d) (t:=t) (os:=os) (tk:=tk) (R:=R) hx hc hd n its hs hh;obtain⟨c,dd,dt,sl⟩:=o
 replace hc:c=.type "tuple":=hc
 replace hd:dd=none:=hd
 replace hs:dt=.seq its n:=hs
 subst hc hd hs;unfold getAttr? getAttrBy?
 repeat (any_goals (first | assumption | wp_step))
 refine kc _ _ _ _ hh λh' tk' e ne=>?_;obtain⟨t',u',he⟩:=ne.there;have f5:=tup_hook
 repeat (any_goals (first | assumption | wp_step))
 exact hq h' tk' ne.keeps
end
end LwD
namespace LwD
open PySem PySem.Spec PyProof.Rows L2 Lw
theorem yE:plainId "dict.update.loop" = true:=by decide +kernel
theorem hZ:entryFor table "dict.update.loop" = some Builtin.«dict.update.loop»:=entryFor_of_tree (by kernel_rfl)
section
variable{prog:Program}{w:World}{A:Around}{E:Value->Shared->Prop}
noncomputable abbrev tkd(prog:Program)(w:World):=tupleKind (qK prog w)
noncomputable def PairAt(prog:Program)(w:World)(h:Heap)(v:Value)(x:List Key×Addr×Value):Prop:=∃r,v=.ref r/\IsTup h r #[.ref x.2.1,x.2.2]/\(tkd prog w).is h x.1 x.2.1
theorem PairAt.keep{h h':Heap}{v:Value}{x:List Key×Addr×Value}(p:PairAt prog w h v x)(k:∀b u,h.get? b=some u->h'.get? b=some u):PairAt prog w h' v x:=by
 obtain⟨r,e,⟨o,h1,h2⟩,q,its,n,h3,h4⟩:=p;exact⟨r,e,⟨o,k _ _ h1,h2⟩,q,its,n,k _ _ h3,h4⟩
noncomputable def puts(xs ps:List (List Key×Addr×Value)):List (List Key×Addr×Value):=ps.foldl (λacc x=>storedH acc x.1 x.2.1 x.2.2) xs
theorem dh_ext{h h':Heap}{d it t:Addr}{i:Nat}{xs:List (List Key×Addr×Value)}(D:h.DictOfH (tkd prog w) d xs)(I:h.IsTupleIter it t i)(hdi:d≠it)(k:∀b u,b≠it->h.get? b=some u->h'.get? b=some u):h'.DictOfH (tkd prog w) d xs:=by
 obtain⟨o,es,ep,h1,h2,h3,h4,h5,h6⟩:=D;refine⟨o,es,ep,k _ _ hdi h1,h2,h3,h4,λx hx=>?_,h6⟩;obtain⟨q,its,n,g1,g2,g3⟩:=h5 x hx;refine⟨q,its,n,k _ _ (λe=>?_) g1,g2,g3⟩;obtain⟨u,u1,u2,_⟩:=I;rw[e,u1]at g1;cases g1;rw[u2]at g2;exact absurd g2 (by decide)
theorem stored_len(xs:List (List Key×Addr×Value))(k:List Key)(a:Addr)(v:Value):(storedH xs k a v).length<=xs.length+1:=by
 unfold storedH;split<;>simp
theorem dict_loop{Q:Shared->Prop}{h0:Heap}{d it t:Addr}{items:Array Value}(hh:A.handled=none)(hu:A.units+1<cLine)(hd:h0.objs.size<=d)(hi:h0.objs.size<=it)(hdi:d≠it)(ht:h0.IsTuple t items) :
  ∀(ps xs:List (List Key×Addr×Value)) (i:Nat) (tk:Tok) (s:Shared),(∀j,Option.Rel (PairAt prog w h0) items[i+j]? ps[j]?)->xs.length+ps.length<=sizeLine->(∀b u,h0.get? b=some u->s.heap.get? b=some u)->s.heap.DictOfH (tkd prog w) d xs->s.heap.IsTupleIter it t i->
   (∀h' tk',(∀b u,h0.get? b=some u->h'.get? b=some u)->h'.DictOfH (tkd prog w) d (puts xs ps)->Q { s with heap:=h',toks:=tk' })->
   codeAny (model prog w) A (.builtin "dict.update.loop" ⟨[.ref d,.ref it,.int i tk,.none],[]⟩) (wants (λr s₂=>r=.none/\Q s₂) E) s:=by
 intro ps;induction ps with
 | nil=>
  intro xs i tk s hp hz hk hD hI q;have hn:items[i]? = none:=by have:=hp 0;revert this;rw[Nat.add_zero];cases items[i]? <;>intro z<;>cases z;rfl
  refine codeAny_builtin hZ ?_;rw[Around.under_plainId yE _];have ht':s.heap.IsTuple t items:=let ⟨o,ho,r⟩:=ht;⟨o,hk _ _ ho,r⟩;unfold Builtin.«dict.update.loop»;refine wpAny_bind (wpAny_pyNext_tuple_end (A:=A.in1) hh hI ht' hn λh' hx=>?_);refine wpAny_pure ⟨rfl,q h' s.toks ?_ ?_⟩
  ·exact λb u e=>hx b u (Nat.ne_of_lt (Nat.lt_of_lt_of_le (Heap.lt_size e) hi)) (hk b u e)
  ·exact dh_ext hD hI hdi λb u hb e=>hx b u hb e
 | cons p ps ih=>
  intro xs i tk s hp hz hk hD hI q;have hp0:=hp 0;rw[Nat.add_zero]at hp0;obtain⟨v,hv,pa⟩:∃v,items[i]? = some v/\PairAt prog w h0 v p:=by
   revert hp0;cases items[i]? with
   | none=>intro z;cases z
   | some v=>intro z;cases z with | some y=>exact⟨v,rfl,y⟩
  refine codeAny_builtin hZ ?_;rw[Around.under_plainId yE _];have ht':s.heap.IsTuple t items:=let ⟨o,ho,r⟩:=ht;⟨o,hk _ _ ho,r⟩;unfold Builtin.«dict.update.loop»;refine wpAny_bind (wpAny_pyNext_tuple_item (A:=A.in1) hI ht' hv λh' hI' hs=>?_);have k1:∀b u,h0.get? b=some u->h'.get? b=some u:=λb u e=>(hs.2 b (Nat.ne_of_lt (Nat.lt_of_lt_of_le (Heap.lt_size e) hi))).trans (hk b u e);have D1:=dh_ext hD hI hdi λb u hb e=>(hs.2 b hb).trans e;obtain⟨r,rfl,tp,ky⟩:=pa.keep k1;obtain⟨o,ho,hc,n,hdt⟩:=id tp;have hT:(⟨h',s.gens,s.drawn,s.toks,s.os⟩:Shared).TypeIs (.ref r) "tuple":=⟨o,ho,hc⟩;unfold Builtin.Dict.pairItems;dsimp only;refine wpAny_bind (wpAny_holding (wpAny_bind (wpAny_tryCatch (wpAny_bind (wpAny_typeOf hT ?_)))));rw[if_pos (by decide)];unfold seqItems?;refine wpAny_bind (wpAny_bind (wpAny_load ho ?_));rw[hdt];refine wpAny_pure ?_;refine wpAny_pure (wpAny_holding ?_);refine wpAny_dictSet_heap (hsz:=by simp only[List.length_cons]at hz;omega) (knd:=tkd prog w) (tupleKind_room_in1 hu) ky D1 λh2 D2 hs2=>?_;have nt:t≠d:=λe=>by obtain⟨u,hu,_⟩:=ht;exact absurd (Heap.lt_size hu) (by rw[e];exact Nat.not_lt.mpr hd)
  refine wpAny_pure ⟨plainId_quiet yE _, ?_⟩;refine ih (storedH xs p.1 p.2.1 p.2.2) (i+1) 0 _ (λj=>?_) ?_ (λb u e=>?_) D2 ?_ λh3 tk3 k3 D3=>?_
  ·have:=hp (j+1);rw[List.getElem?_cons_succ]at this;rw[show i+1+j=i+(j+1) by omega];exact this
  ·have:=stored_len xs p.1 p.2.1 p.2.2;simp only[List.length_cons]at hz;omega
  ·exact(hs2.2 b (Nat.ne_of_lt (Nat.lt_of_lt_of_le (Heap.lt_size e) hd))).trans (k1 b u e)
  ·obtain⟨u,u1,u2⟩:=hI';exact⟨u,(hs2.2 it (Ne.symm hdi)).trans u1,u2⟩
  ·exact q h3 tk3 k3 D3
end
section
variable{prog:Program}{w:World}{A:Around}{E:Value->Shared->Prop}{s:Shared}
theorem dict_tup{t:Addr}{o:Obj}{items:Array Value}{n:Nat}{ps:List (List Key×Addr×Value)}{Q:Value->Shared->Prop}(hh:A.handled=none)(hu:A.units+2<cLine)(ho:s.heap.get? t=some o)(hc:o.cls=.type "tuple")(hd:o.dict=none)(hs:o.data=.seq items n)
  (hp:∀j:Nat,Option.Rel (PairAt prog w s.heap) items[j]? ps[j]?) (hz:ps.length<=sizeLine)
  (q:∀h' tk',(∀b u,s.heap.get? b=some u->h'.get? b=some u)->h'.DictOfH (tkd prog w) s.heap.objs.size (puts [] ps)->Q (.ref s.heap.objs.size) { s with heap:=h',toks:=tk' }) :
  wpAny (model prog w) A (call (.type "dict") [.ref t]) Q E s:=by
 refine callType_codes (Q₁:=λobj s₁=>obj=.ref s.heap.objs.size/\s₁ = { s with heap:=s.heap.push { cls:=.type "dict",data:=.dict #[] } }) F.kt_called_dict (F.kt_typeCall_dict_1 _) F.entry_dict_init (kt_code_dict_new _ ⟨rfl,rfl⟩) ?_;rintro obj s₁ ⟨rfl,rfl⟩;have hT:(⟨s.heap.push { cls:=.type "dict",data:=.dict #[] },s.gens,s.drawn,s.toks,s.os⟩:Shared).TypeIs (.ref s.heap.objs.size) "dict":=⟨_,Heap.get?_push_size _ rfl,rfl⟩;have ho1:(s.heap.push { cls:=.type "dict",data:=.dict #[] }).get? t=some o:=Heap.get?_push_of_some _ ho;have hT1:(⟨s.heap.push { cls:=.type "dict",data:=.dict #[] },s.gens,s.drawn,s.toks,s.os⟩:Shared).TypeIs (.ref t) "tuple":=⟨_,ho1,hc⟩;refine⟨hT,F.args_dict_init_2 _ _, ?_⟩;unfold Builtin.«dict.__init__»;refine wpAny_bind ?_;unfold Builtin.Dict.selfAndRest;refine wpAny_bind (wpAny_notOrdered_dict hT ?_);show wpAny _ _ (pure (s.heap.objs.size,[Value.ref t])) _ _ _;refine wpAny_pure ?_;show wpAny _ _ (Builtin.Dict.updateFrom "dict.__init__" s.heap.objs.size (.ref t) [] .none) _ _ _;unfold Builtin.Dict.updateFrom;refine wpAny_bind (wpAny_typeOf hT1 ?_);rw[if_pos (by decide)];refine wpAny_bind (keys_none ho1 hc hd n items hs hh λh2 tk2 k2=>?_);have kk:∀b u,s.heap.get? b=some u->h2.get? b=some u:=λb u e=>k2 b u (Heap.get?_push_of_some _ e);have hi2:h2.IsTuple t items:=⟨o,kk _ _ ho,hc,n,hs⟩;have hd2:h2.get? s.heap.objs.size=some { cls:=.type "dict",data:=.dict #[] } :=k2 _ _ (Heap.get?_push_size _ rfl);have lt2:s.heap.objs.size<h2.objs.size:=Heap.lt_size hd2;rw[if_pos (by decide)]
 refine wpAny_bind (wpAny_rule (wpAny_bind (wpAny_pyIter_tuple hi2 (wpAny_pure ⟨plainId_quiet yE _, ?_⟩))));refine dict_loop (A:=A.in1) (E:=E) (Q:=λs₂=>Q (.ref s.heap.objs.size) s₂) (h0:=s.heap) (items:=items) (t:=t) hh hu (Nat.le_refl _) (Nat.le_of_lt lt2) (Nat.ne_of_lt lt2) ⟨o,ho,hc,n,hs⟩ ps [] 0 0 { s with heap:=h2.push { cls:=.type "tuple_iterator",data:=.fields #[.ref t,.int 0 0] },toks:=tk2 } (λj=>?_) (by simpa using hz) (λb u e=>?_) ?_ ?_ λh3 tk3 k3 D3=>q h3 tk3 k3 D3
 ·rw[Nat.zero_add];exact hp j
 ·exact Heap.get?_push_of_some _ (kk b u e)
 ·exact⟨_,#[],0,Heap.get?_push_of_some _ hd2,⟨rfl,rfl,rfl⟩,rfl,rfl,(λx hx=>nomatch hx),List.nodup_nil⟩
 ·exact⟨_,Heap.get?_push_size _ rfl,rfl,rfl⟩
end
section
variable{X:Cx}
noncomputable def PairsIn(H:Hp)(ys:List V)(kvs:List (List Key×V)):Prop:=Paired (λ(y:V) (p:List Key×V)=>∃r b,y=.ref r/\Rd H r (.tup [.ref b,p.2])/\H b=some (.tup (p.1.map kV))) ys kvs
theorem puts_new:∀(ps xs:List (List Key×Addr×Value)),((xs++ps).map (·.1)).Nodup->puts xs ps=xs++ps
 | [],xs,_=>(List.append_nil xs).symm
 | p::ps,xs,h=>by
  have hn:atKey xs p.1=none:=by
   refine atKey_none_of_get λj q e=>?_;rw[List.map_append,List.map_cons]at h;exact(List.nodup_append.mp h).2.2 p.1 (List.mem_map.mpr ⟨_,List.mem_of_getElem? e,rfl⟩) p.1 (List.mem_cons_self ..) rfl
  show puts (storedH xs p.1 p.2.1 p.2.2) ps=_;rw[storedH_new hn,puts_new ps _ (by rw[List.append_assoc];exact h),List.append_assoc]
  rfl
noncomputable def rDictT:List V->Hp->VK->Prop:=λxs H Q=>∃(t:Addr) (o:Obj) (ys:List V) (kvs:List (List Key×V)),xs=[.ref t]/\H t=some (.frz o (.tup ys))/\o.dict=none/\PairsIn H ys kvs/\(kvs.map (·.1)).Nodup/\New H (.dT kvs) Q
theorem call_dictT(hc:X.calm=true)(hu:X.A.units+2<cLine):CallR X (.type "dict") rDictT:=by
 intro pins s σ H xs us Q I r h;obtain⟨t,o,ys,kvs,rfl,ht,hd,hp,hn,q⟩:=h;obtain⟨u,rfl,ru⟩:=vQ r;cases ru;obtain⟨ho,hz,its,rv,o',ho',hcl,n,hdt⟩:=(show ObjOk X.prog X.w H s.heap t (.frz o (.tup ys))from I.hok t _ ht);rw[ho]at ho';cases ho';have key:∀(ys:List V) (its:List Value) (kvs:List (List Key×V)),Vals ys its->PairsIn H ys kvs->∃ps:List (List Key×Addr×Value),KT H kvs ps/\Paired (PairAt X.prog X.w s.heap) its ps:=by
  intro ys its kvs rv hp;induction hp generalizing its with
  | nil=>cases rv;exact⟨[],.nil,.nil⟩
  | @cons y p ys kvs h t ih=>
   cases rv with
   | cons r1 rt=>
    obtain⟨ps,k1,k2⟩:=ih _ rt;obtain⟨r,b,rfl,e1,e2⟩:=h;cases r1;obtain⟨_,il,rl,tp⟩:=(show ObjOk X.prog X.w H s.heap r (.tup [.ref b,p.2])from e1.ok I.hok);cases rl with
    | cons a1 a2=>cases a2 with
     | cons b1 b2=>
      cases b2;cases a1;rename_i vb;exact⟨(p.1,b,vb)::ps,.cons ⟨rfl,e2,b1⟩ k1,.cons ⟨r,rfl,tp,yY I.hok e2⟩ k2⟩
 obtain⟨ps,k1,k2⟩:=key ys its kvs rv hp;have lz:ps.length=its.length:=(Paired.length k2).symm;have lz2:kvs.length=ps.length:=Paired.length k1;have lz3:=rv.length;have hn2:(ps.map (·.1)).Nodup:=by
  have:kvs.map (·.1)=ps.map (·.1):=KTkeys k1;rw[<-this];exact hn
 refine dict_tup (ps:=ps) (I.ok.hd hc) hu ho hcl hd hdt (λj=>?_) (by omega) λh' tk' kk D=>?_
 ·have pr:∀(l:List Value) (m:List (List Key×Addr×Value)),Paired (PairAt X.prog X.w s.heap) l m->∀j:Nat,Option.Rel (PairAt X.prog X.w s.heap) l[j]? m[j]? :=by
   intro l m h;induction h with
   | nil=>intro j;exact .none
   | cons a b ih=>intro j;cases j with
    | zero=>exact .some a
    | succ j=>exact ih j
  simpa using pr its ps k2 j
 ·rw[puts_new ps [] (by simpa using hn2),List.nil_append]at D;obtain⟨ob,es,ep,g1,g2,g3,g4,_,g5⟩:=D;refine⟨.ref s.heap.objs.size,_,I.laid (a:=s.heap.objs.size) (o:=.dT kvs) kk (Nat.le_refl _) ⟨by omega,beq_eq_false_iff_ne.mpr (Ne.symm (Nat.ne_of_lt I.big)),ps,(KT.keeps k1 λc ys e=>?_),ob,es,ep,g1,g2,g3,g4,g5⟩,rfl,q.at (I.hok.fresh (Nat.le_refl _))⟩;rw[jQ (λz=>by rw[z,I.hok.fresh (Nat.le_refl _)]at e;cases e)];exact e
end
end LwD
namespace LwD
open PySem PySem.Spec PyProof.Rows L2 Lw
section
variable{prog:Program}{w:World}{A:Around}{E:Value->Shared->Prop}{s:Shared}
theorem mH{α:Type}(f:α->Int):∀(l:List α),(l.map f).Nodup->∀e∈l,(l.filter λx=>f x==f e).length<=1
 | [],_,e,he=>nomatch he
 | a::l,hn,e,he=>by
  rw[List.map_cons,List.nodup_cons]at hn;by_cases z:f a=f e
  ·have:(l.filter λx=>f x==f e)=[]:=by
    rw[List.filter_eq_nil_iff];intro x hx;simp only[beq_iff_eq];exact λy=>hn.1 (z▸y▸List.mem_map.mpr ⟨x,hx,rfl⟩)
   rw[List.filter_cons,this];split<;>simp
  ·rw[List.filter_cons,if_neg (by simpa using z)];rcases List.mem_cons.mp he with rfl | he
   ·exact absurd rfl z
   ·exact mH f l hn.2 e he
theorem merge_copy{nm:String}{d o:Addr}{xs:List (List Key×Addr×Value)}{Q:Unit->Shared->Prop}(hdo:d≠o)(hoS:(o==sysModules)=false)(hd:s.heap.DictOfH (tkd prog w) d [])(ho:s.heap.DictOfH (tkd prog w) o xs)
  (hh:(xs.map λx=>(tkd prog w).hash x.1).Nodup) (hz:xs.length<=sizeLine) (hQ:∀h',h'.DictOfH (tkd prog w) d xs->Heap.SameBut d s.heap h'->Q () { s with heap:=h' }):wpAny (model prog w) A (Builtin.Dict.mergeDict nm d o) Q E s:=by
 obtain⟨od,esd,epd,hod,hcd,hdd,hed,hid,hnd⟩:=id hd;obtain⟨oo,eso,epo,hoo,hco,hdo',heo,hio,hno⟩:=id ho;have d0:esd = #[]:=by simpa using hed
 subst d0;have lz:eso.size=xs.length:=size_of_entries heo;unfold Builtin.Dict.mergeDict;rw[if_neg (by simpa using hdo)];unfold Builtin.Dict.showsAll;rw[if_neg (by rw[hoS];exact Bool.false_ne_true)];refine wpAny_bind (wpAny_pure ?_);refine wpAny_bind (wpAny_dictEntries hoo hdo' ?_);dsimp only;by_cases he:xs=[]
 ·subst he;have e0:eso = #[]:=by simpa using heo
  subst e0;rw[if_neg (by simp)];refine wpAny_bind (wpAny_dictEpoch hoo hdo' ?_);refine wpAny_bind (wpAny_dictEntries hoo hdo' ?_);refine wpAny_bind ?_;rw[Std.Legacy.Range.forIn_eq_forIn_range'];refine wpAny_pure ?_;exact wpAny_pure (hQ s.heap hd (Heap.SameBut.refl _ _))
 ·have few:(decide (eso.size<=8)&&eso.all λe=>(keyPart e.key).isSome)=false:=by
   obtain⟨x,r,rfl⟩:∃x r,xs=x::r:=by cases xs with | nil=>exact absurd rfl he | cons x r=>exact⟨x,r,rfl⟩
   have:eso.all (λe=>(keyPart e.key).isSome)=false:=by
    rw[<-Array.all_toList,heo]
    rfl
   rw[this,Bool.and_false]
  rw[few,if_pos (by decide)];refine wpAny_bind (wpAny_dictEntries hod hdd ?_);rw[if_pos (by decide)];refine wpAny_bind ?_;unfold Builtin.Dict.entriesForEmpty;refine wpAny_bind (wpAny_dictEntries hoo hdo' ?_);have body:∀e∈eso.toList,∀(s':Shared),s'=s->∀{Q':ForInStep PUnit->Shared->Prop},Q' (.yield PUnit.unit) s'->wpAny (model prog w) A (do
   let q<-Builtin.Dict.quietEq e.key
   if (!q)=true then
    if (eso.filter (·.hash==e.hash)).size>1 then(do let _<-(unsupported s!"{nm}:keys-of-equal-hash" :Sem PUnit);pure (ForInStep.yield PUnit.unit))else pure (ForInStep.yield PUnit.unit)
   else pure (ForInStep.yield PUnit.unit):Sem (ForInStep PUnit)) Q' E s':=by
   rintro e hm s' rfl Q' hq;have hm':=hm;rw[heo]at hm;obtain⟨x,hx,rfl⟩:=List.mem_map.mp hm;refine wpAny_bind ?_;show wpAny _ _ (Builtin.Dict.quietEq (.ref x.2.1)) _ _ _;unfold Builtin.Dict.quietEq;refine wpAny_bind (wpAny_specialOf (hio x hx).typeIs F.slot_tuple_eq.lookup (wpAny_pure ?_));rw[if_pos (by decide),if_neg ?_]
   ·exact wpAny_pure hq
   ·have:=mH (λe:DictEntry=>e.hash) eso.toList (by rw[heo,List.map_map];exact hh) _ hm';rw[<-Array.toList_filter,Array.length_toList]at this;exact Nat.not_lt.mpr this
  refine wpAny_bind ?_;rw[<-Array.forIn_toList];refine wpAny_forIn_list _ (λrest _ s'=>s'=s/\∃pre,eso.toList=pre++rest) _ ?_ ?_ _ _ ⟨rfl,[],rfl⟩
  ·rintro e rest b s' ⟨rfl,pre,hp⟩;refine body e (by rw[hp];simp) _ rfl ?_;exact⟨rfl,pre++[e],by rw[hp];simp⟩
  ·rintro b s' ⟨rfl,_⟩;refine wpAny_pure ?_;rw[if_pos (by
    have:eso≠#[]:=λz=>he (List.length_eq_zero_iff.mp (by rw[<-lz,z];rfl));simpa using this)]
   refine wpAny_bind (wpAny_updateDictKeysTo hod hdd (wpAny_pure (hQ _ ⟨_,_,epd+1,Heap.get?_update_self _ hod (Obj.isFreed_of_dict (Obj.data_mapDictKeys hdd _)),hcd.mapDictKeys _,Obj.data_mapDictKeys hdd _,heo,λx hx=>?_,hno⟩ (Heap.SameBut.update ..))) (by omega));exact(tkd prog w).keeps (hio x hx) hod hdd (Heap.SameBut.update ..)
theorem dict_copy{o:Addr}{xs:List (List Key×Addr×Value)}{Q:Value->Shared->Prop}(hoS:(o==sysModules)=false)(ho:s.heap.DictOfH (tkd prog w) o xs)(hh:(xs.map λx=>(tkd prog w).hash x.1).Nodup)(hz:xs.length<=sizeLine)
  (h:∀h',h'.DictOfH (tkd prog w) s.heap.objs.size xs->(∀b u,s.heap.get? b=some u->h'.get? b=some u)->Q (.ref s.heap.objs.size) { s with heap:=h' }) :
  wpAny (model prog w) A (call (.type "dict") [.ref o]) Q E s:=by
 refine callType_codes (Q₁:=λobj s₁=>obj=.ref s.heap.objs.size/\s₁ = { s with heap:=s.heap.push { cls:=.type "dict",data:=.dict #[] } }) F.kt_called_dict (F.kt_typeCall_dict_1 _) F.entry_dict_init (kt_code_dict_new _ ⟨rfl,rfl⟩) ?_;rintro obj s₁ ⟨rfl,rfl⟩;have hnew:(s.heap.push { cls:=.type "dict",data:=.dict #[] }).DictOfH (tkd prog w) s.heap.objs.size []:=⟨_,#[],0,Heap.get?_push_size _ rfl,⟨rfl,rfl,rfl⟩,rfl,rfl,(λx hx=>nomatch hx),List.nodup_nil⟩;have ho':(s.heap.push { cls:=.type "dict",data:=.dict #[] }).DictOfH (tkd prog w) o xs:=by
  obtain⟨oo,es,ep,g1,g2,g3,g4,g5,g6⟩:=ho;exact⟨oo,es,ep,Heap.get?_push_of_some _ g1,g2,g3,g4,λx hx=>let ⟨q,its,n,i1,i2⟩:=g5 x hx;⟨q,its,n,Heap.get?_push_of_some _ i1,i2⟩,g6⟩
 have hdo:s.heap.objs.size≠o:=by
  obtain⟨_,_,_,hg,_⟩:=ho;exact λe=>absurd (Heap.lt_size hg) (by rw[e];exact Nat.lt_irrefl _)
 have ty:∀{h1:Heap} {a:Addr} {ys:List (List Key×Addr×Value)},h1.DictOfH (tkd prog w) a ys->(⟨h1,s.gens,s.drawn,s.toks,s.os⟩:Shared).TypeIs (.ref a) "dict":=λD=>let ⟨q,_,_,g1,g2,_⟩:=D;⟨q,g1,g2.1⟩;refine⟨ty hnew,F.args_dict_init_2 _ _, ?_⟩;unfold Builtin.«dict.__init__»;refine wpAny_bind ?_;unfold Builtin.Dict.selfAndRest;refine wpAny_bind (wpAny_notOrdered_dict (ty hnew) ?_);show wpAny _ _ (pure (s.heap.objs.size,[Value.ref o])) _ _ _;refine wpAny_pure ?_;show wpAny _ _ (Builtin.Dict.updateFrom "dict.__init__" s.heap.objs.size (.ref o) [] .none) _ _ _;unfold Builtin.Dict.updateFrom;refine wpAny_bind (wpAny_typeOf (ty ho') ?_);rw[if_neg (by decide)];refine wpAny_bind ?_;unfold Builtin.Dict.merge;refine wpAny_bind ?_;unfold Builtin.Dict.readDirectly;refine wpAny_bind (wpAny_isInstance (ty ho') isSubtype_dict_dict ?_);simp only[Bool.not_true,Bool.false_eq_true,if_false];refine wpAny_bind (wpAny_specialOf (ty ho') F.slot_dict_iter.lookup (wpAny_pure ?_));simp only[beq_self_eq_true,if_true];refine wpAny_bind (wpAny_pure ?_);refine merge_copy hdo hoS hnew ho' hh hz λh' hd' hs'=>?_;show wpAny _ _ (Builtin.Dict.addKeywords s.heap.objs.size [] >>= _) _ _ _;refine wpAny_bind (wpAny_pure (wpAny_pure ⟨rfl,h h' hd' λb u e=>?_⟩));exact(hs'.2 b (Nat.ne_of_lt (Heap.lt_size e))).trans (Heap.get?_push_of_some _ e)
end
section
variable{X:Cx}
theorem hash_small:∀i j:Fin 24,reduceHash (Builtin.Tuple.tupleHashOf [hashInt ((i.val:Nat):Int)])=reduceHash (Builtin.Tuple.tupleHashOf [hashInt ((j.val:Nat):Int)])->i=j:=by decide +kernel
noncomputable def SmallK(k:List Key):Prop:=∃n:Nat,n<24/\k=ik [(n:Int)]
theorem hash_inj{P:Program}{w:World}{k k':List Key}(h:SmallK k)(h':SmallK k')(e:(tkd P w).hash k=(tkd P w).hash k'):k=k':=by
 obtain⟨n,hn,rfl⟩:=h;obtain⟨m,hm,rfl⟩:=h';have:=hash_small ⟨n,hn⟩ ⟨m,hm⟩ e;cases this
 rfl
noncomputable def rDictD:List V->Hp->VK->Prop:=λxs H Q=>∃(a:Addr) (kvs:List (List Key×V)),xs=[.ref a]/\Rd H a (.dT kvs)/\(∀p∈kvs,SmallK p.1)/\New H (.dT kvs) Q
theorem call_dictD:CallR X (.type "dict") rDictD:=by
 intro pins s σ H xs us Q I r h;obtain⟨a,kvs,rfl,ha,hn,q⟩:=h;obtain⟨u,rfl,ru⟩:=vQ r;cases ru;obtain⟨z,lo,ks,rel,dd⟩:=zP I.hok ha;have lz:=Paired.length rel;refine dict_copy lo dd ?_ (by omega) λh' D kk=>?_
 ·have e:=KTkeys rel;obtain⟨_,_,_,_,_,_,_,_,nd⟩:=id dd;have sm:∀x∈ks.map (·.1),SmallK x:=λx hx=>by
   rw[<-e]at hx;obtain⟨p,hp,rfl⟩:=List.mem_map.mp hx;exact hn p hp
  have:(ks.map λx=>(tkd X.prog X.w).hash x.1)=(ks.map (·.1)).map λk=>(tkd X.prog X.w).hash k:=by rw[List.map_map];rfl
  rw[this];generalize ks.map (·.1)=l at nd sm;refine List.pairwise_map.mpr (List.Pairwise.imp_of_mem (fun {a b} ha hb hab hs=>hab (hash_inj (sm a ha) (sm b hb) hs)) nd)
 ·obtain⟨ob,es,ep,g1,g2,g3,g4,_,g5⟩:=D;refine⟨.ref s.heap.objs.size,_,I.laid (a:=s.heap.objs.size) (o:=.dT kvs) (t':=s.toks) kk (Nat.le_refl _) ⟨by omega,beq_eq_false_iff_ne.mpr (Ne.symm (Nat.ne_of_lt I.big)),ks,(KT.keeps rel λc ys e=>?_),ob,es,ep,g1,g2,g3,g4,g5⟩,rfl,q.at (I.hok.fresh (Nat.le_refl _))⟩;rw[jQ (λz=>by rw[z,I.hok.fresh (Nat.le_refl _)]at e;cases e)];exact e
end
end LwD
namespace LwD
open PySem PySem.Spec PyProof.Rows L2 Lw
structure PwS(many:Nat)(ns:List Int):Prop where
 len:ns.length=many
 nn:∀n∈ns,0<=n
 deg:ns.sum<=8
section
variable{X:Cx}
end
end LwD
namespace LwD
open PySem PySem.Spec PyProof.Rows L2 Lw
section
variable{prog:Program}{w:World}{A:Around}{E:Value->Shared->Prop}{s:Shared}
end
section
variable{X:Cx}
end
end LwD
namespace LwD
open PySem PySem.Spec PyProof.Rows L2 Lw
section
variable{prog:Program}{w:World}{A:Around}{E:Value->Shared->Prop}{s:Shared}{d it:Addr}{es:Array DictEntry}{ep i:Nat}
end
section
variable{X:Cx}
end
end LwD
namespace Lw
open PySem PySem.Spec PyProof.Rows L2
section
variable{X:Cx}
end
end Lw
namespace Lw
open PySem PySem.Spec PyProof.Rows L2
section
variable{X:Cx}
theorem zT{i:Nat}{y:Str}{py spos:Pos}(hN:X.N.Nodup)(hi:X.N[i]? = some y)(hx:Loc X.env.scope y){own:Nat}{idx:List Nat}{N:List Str}{elt target iter:Expr}{scope:Scope}{cl:List (Str×Addr)}{pos:Pos}{wi:TI}{g:TG}{te:TE}(hc:X.calm=true)
  (hk:scope.kind=.function) (hclos:closureFor scope X.env=pure cl) (hcell:∀x∈scope.names,x.2≠.cell) (hnames:∀x∈scope.names,x.2=.local->scope.names.lookup x.1=some .local)
  (hsub:∀x c,cl.lookup x=some c->X.env.cells.lookup x=some c) (hhas:∀x,((relabel scope X.env).names.lookup x=some .cell∨(relabel scope X.env).names.lookup x=some .free)->∃c,cl.lookup x=some c)
  (hlen:N.length=own+idx.length)
  (hidx:∀(k j:Nat) (x:Str),idx[k]? = some j->N[own+k]? = some x->X.N[j]? = some x/\X.env.kindOf x=some .cell/\(relabel scope X.env).names.lookup x=some .cell/\X.env.scope.names.lookup x=some .cell)
  (hit:PI X target iter wi) (hg:∀C fp s2 H2,PG (kC X N scope cl C fp s2 H2) target g) (he:∀C fp s2 H2,PE (kC X N scope cl C fp s2 H2) elt te)
  (hsw:swapsWith (.ListComp elt [⟨target,iter,[],0⟩] scope pos) (some (.Name y py)) spos.line X.env=pure true:=by rfl)
  (hs:∀x,foldedSetIterable iter X.env x=pure x:=by intro _;rfl) (hfn:X.fn y=true∨X.env.scope.names.lookup y=some .local:=by first | exact .inl rfl | exact .inr rfl | assumption):PS X (.Assign [.Name y py] (.ListComp elt [⟨target,iter,[],0⟩] scope pos) spos) (tAsg (tCompF own idx wi g te) (kN i)):=by
 intro pins s σ H D I h;rw[exec_Assign_Name_used _ _ _ _ hsw];refine wpAny_bind (wpAny_standAt (wpAny_bind ?_));show wpAny _ X.A (do let _<-comprehension (.ListComp elt [⟨target,iter,[],0⟩] scope pos) scope X.env _ (newList []) false (eval iter X.env) (some (assign (.Name y py) X.env))) _ _ s;refine wpAny_bind (wpAny_mono (wpAny_comprehension_free (use:=some (assign (.Name y py) X.env)) (Q:=λ_ s'=>∃σ' H',Inv X pins σ' H' s'/\D.nx σ' H') rfl hs hclos hk hnames (thn (hit pins s σ H _ I h) λv s1 h1=>thn h1 λitv s2 h2=>?_)) (λ_ s' hq=>wpAny_pure (wpAny_pure hq)) λ_ _ e=>e);obtain⟨it,fp,tn,J,H1,e,I2,T,st2,f2,hR⟩:=h2;subst e;have hlt:∀b∈fp,b<s2.heap.objs.size:=λb hb=>by
  obtain⟨o,ho,_⟩:=T.obj 0 _ st2 b hb;exact Heap.lt_size ho
 refine wpAny_newObj_type (wpAny_newFunctionEnv hcell (by intro y hy;simp at hy) (λh₁ hns₁ hsb₁=>?_) hk);dsimp only at hns₁ hsb₁ ⊢;generalize hHH:s2.heap.push { cls:=.type "list",dict:=none,data:=.seq ([]:List Value).toArray } = HH at hns₁ hsb₁ ⊢;have hCe:HH.objs.size=s2.heap.objs.size+1:=by rw[<-hHH,Heap.size_push]
 have hDC:s2.heap.objs.size≠HH.objs.size:=by rw[hCe];exact Nat.ne_of_lt (Nat.lt_succ_self _)
 have hCle:s2.heap.objs.size<=HH.objs.size:=by rw[hCe];exact Nat.le_succ _
 have old:∀b o,s2.heap.get? b=some o->h₁.get? b=some o:=λb o e=>hsb₁.extBut b o (by rw[hCe];exact Nat.ne_of_lt (Nat.lt_succ_of_lt (Heap.lt_size e))) (Heap.get?_push_of_some _ (hHH▸Heap.get?_push_of_some _ e));have hD:h₁.get? s2.heap.objs.size=some { cls:=.type "list",dict:=none,data:=.seq ([]:List Value).toArray } :=hsb₁.extBut _ _ hDC (Heap.get?_push_of_some _ (hHH▸Heap.get?_push_size _ rfl));have nD:H1 s2.heap.objs.size=none:=I2.hok.fresh (Nat.le_refl _);obtain⟨W,⟨m0,w0⟩,turn⟩:=hR s2.heap.objs.size _ nD (kH (.lst []) nD) jK;generalize hσ:(List.replicate own none++idx.map λj=>(σ[j]?).getD none:L2.St)=σ0 at turn;have lσ:σ0.length=N.length:=by rw[<-hσ,List.length_append,List.length_replicate,List.length_map,hlen]
 have ok:=mK (N:=N) (cl:=cl) (C:=HH.objs.size) I2 hk hsub hhas hCle f2 hlt;have oldC:∀c v,s2.heap.IsCell c v->h₁.IsCell c v:=λc v ⟨o,ho,hd⟩=>⟨o,old c o ho,hd⟩;have I4:Inv (kC X N scope cl HH.objs.size fp s2 H1) [] σ0 (upd H1 s2.heap.objs.size (.lst [])) { s2 with heap:=h₁,toks:=s2.toks+([]:List (Str×Value)).length } :=by
  refine⟨ok,rfl,I2.bare,Un.laid old (Nat.le_refl _) nD,⟨_,hns₁,λi x v e1 e2 _=>?_⟩,(λx c z=>?_), ?_,(λx c z=>?_),(λp hp=>nomatch hp),I2.hok.laid old (Nat.le_refl _) ?_,lσ⟩
  ·
   rw[<-hσ]at e2;by_cases hi':i<own
   ·rw[List.getElem?_append_left (by rw[List.length_replicate];exact hi'),List.getElem?_replicate]at e2;split at e2<;>cases e2
   ·obtain⟨k,rfl⟩:∃k,i=own+k:=⟨i-own,by omega⟩;rw[List.getElem?_append_right (by rw[List.length_replicate];omega),List.length_replicate,Nat.add_sub_cancel_left,List.getElem?_map]at e2;cases ej:idx[k]? with
    | none=>rw[ej]at e2;cases e2
    | some j=>
     rw[ej,Option.map_some]at e2;have e2:=Option.some.inj e2;obtain⟨n1,n2,n3,n4⟩:=hidx k j x ej e1;have e3:σ[j]? = some (some v):=by
      cases q:σ[j]? with
      | none=>rw[q]at e2;cases e2
      | some y=>rw[q,Option.getD_some]at e2;rw[e2]
     obtain⟨m,hm,hl⟩:=I2.loc;obtain⟨u,ru,lk⟩:=hl j x v n1 e3 (.inr (.inl n4));refine⟨u,ru, ?_⟩;rcases lk with⟨kl,_⟩ | ⟨_,c,hcl,hic⟩
     ·rw[n2]at kl;cases kl
     ·obtain⟨c',hc'⟩:=hhas x (.inl n3);have:c'=c:=Option.some.inj ((hsub x c' hc').symm.trans hcl);subst this;exact .inr ⟨.inl n3,c',hc',oldC _ _ hic⟩
  ·obtain⟨v,hv⟩:=I2.cell x c (hsub x c z);exact⟨v,oldC _ _ hv⟩
  ·show(upd H1 s2.heap.objs.size (.lst [])) HH.objs.size=none;rw[jQ (Ne.symm hDC)];exact I2.hok.fresh hCle
  ·obtain⟨v,hv⟩:=I2.cell x c (hsub x c z);show(upd H1 s2.heap.objs.size (.lst [])) c=none;rw[jQ (Nat.ne_of_lt hv.lt)];exact I2.freeC x c (hsub x c z)
  ·exact⟨by show 0<=sizeLine;decide,[],0,.nil,hD⟩
 have stat:∀{H':Hp},(∀b∈fp,H' b=none)->∀b∈fp,FpOk (kC X N scope cl HH.objs.size fp s2 H1) [] H' b:=λhn b hb=>
  ⟨hn b hb,(ok.exf b hb).1,ok.exfs b hb,.inl hb,(ok.exf b hb).2,λp hp=>nomatch hp⟩
 have st4:tn 0 h₁:=T.keep _ _ _ st2 λb _ o e=>old b o e;have fr4:∀b∈fp,(upd H1 s2.heap.objs.size (.lst [])) b=none:=λb hb=>by
  rw[jQ (Nat.ne_of_lt (hlt b hb))];exact(f2 b hb).1
 have loop:codeAny (model X.prog X.w) X.A (.compLoop (.ListComp elt [⟨target,iter,[],0⟩] scope pos) 0 (.ref it) (.ref s2.heap.objs.size) (compEnvC scope cl HH.objs.size X.env))
   (compPost (model X.prog X.w) X.A X.xe (some (assign (.Name y py) X.env)) (λ_ s'=>∃σ' H',Inv X pins σ' H' s'/\D.nx σ' H') (.ref s2.heap.objs.size) HH.objs.size) { s2 with heap:=h₁,toks:=s2.toks+([]:List (Str×Value)).length } :=by
  refine yI (λn s'=>∃i ys H',Inv (kC X N scope cl HH.objs.size fp s2 H1) [] σ0 H' s'/\tn i s'.heap/\(∀b∈fp,H' b=none)/\W i n ys H') ?_ m0 ⟨0,[],_,I4,st4,fr4,w0⟩;rintro n s3 ⟨i,ys,H3,I3,st3,fr3,w3⟩;obtain⟨hp3,hz3,hw⟩:=turn i n ys H3 w3;rcases hw with⟨stop,qn⟩ | ⟨go,step⟩
  ·refine thn (T.done (kC X N scope cl HH.objs.size fp s2 H1) rfl rfl rfl hc i [] s3 _ H3 _ I3 (stat fr3) st3 stop) λr s4 ⟨hr,I5⟩=>?_;subst hr;obtain⟨m,hm,_⟩:=id I5.loc;have U:=I5.base;have fC:H3 HH.objs.size=none:=I5.free;have IX:Inv X pins σ H3 s4:=I2.call' (ch:=fp) (s':=s4) I5.os U I5.hok I5.bare (λb hb=>⟨(f2 b hb).2.2.2.1,(f2 b hb).2.1,(f2 b hb).2.2.2.2.1,(f2 b hb).2.2.2.2.2⟩);have ltC:∀b,b<s2.heap.objs.size->b≠HH.objs.size:=λb hb=>Nat.ne_of_lt (Nat.lt_of_lt_of_le hb hCle);show wpAny _ X.A (assign (.Name y py) X.env (.ref s2.heap.objs.size)) _ _ s4;refine wpAny_assign_Name (mX IX hN hi hx (v:=.ref s2.heap.objs.size) rfl (λs5 I6 ⟨a,sb,ha⟩=>?_) hfn);have aC:a≠HH.objs.size:=by
    rcases ha with ha | ha
    ·rw[ha];exact ltC _ I2.lt
    ·obtain⟨v,hv⟩:=I2.cell y a ha;exact ltC _ hv.lt
   refine⟨m,hm.sameBut sb (Ne.symm aC),λh' sb'=>⟨_,H3, ?_,qn⟩⟩;refine I6.turned (it:=HH.objs.size) (t':=s5.toks) (λb o hb e=>sb'.extBut b o hb e) fC (Ne.symm (ltC _ I2.lt)) (.inr (Nat.le_trans I2.sz hCle)) (λx c hc=>?_) (λp hp=>?_)
   ·obtain⟨v,hv⟩:=I2.cell x c hc;exact ltC _ hv.lt
   ·exact ltC _ (Heap.lt_size (I2.pin p hp).1)
  ·refine wpAny_mono (T.item (kC X N scope cl HH.objs.size fp s2 H1) rfl rfl rfl hc i [] s3 _ H3 (λ_ _=>False) I3 (stat fr3) st3 go) (λr s4 ⟨u,hr,h4⟩=>?_) λ_ _ z=>z.elim;subst hr;refine wpAny_mono h4 (λ_ s5 ⟨x,H5,I5,r5,y5,st5,fr5⟩=>?_) λ_ _ z=>z.elim;have I5':=I5.pinned (stat fr5) (T.obj _ _ st5);refine wpAny_mono (hg _ _ _ _ _ s5 _ H5 x u _ I5' r5 (step x H5 y5)) (λ_ s6 ⟨σ6,H6,I6,kp6,q6⟩=>?_) λ_ _ z=>z.elim;refine wpAny_mono (he _ _ _ _ _ s6 σ6 H6 _ I6 q6) (λy s7 ⟨yv,H7,I7,r7,q7⟩=>?_) λ_ _ z=>z.elim;obtain⟨e7,m',hm',w7⟩:=q7;refine wpAny_mono (xF (X:=kC X N scope cl HH.objs.size fp s2 H1) _ s7 σ6 H7 (.ref s2.heap.objs.size) [yv] (.ref s2.heap.objs.size) [y] (λ_ H8=>H8=upd H7 s2.heap.objs.size (.lst (ys++[yv]))) I7 rfl (.cons r7 .nil) ⟨_,ys,yv,rfl,rfl,e7,hz3,rfl⟩) (λ_ s8 ⟨_,H8,I8,_,q8⟩=>?_) λ_ _ z=>z.elim;subst q8;refine⟨m',hm',i+1,_,_,(I8.unpinned).weak (by rw[lσ,I8.len];rfl) kp6,T.keep _ _ _ st5 λb hb o e=>(I8.pin (b,o) (List.mem_append_right _ (List.mem_append_right _ (qW hb e)))).1,λb hb=>?_,w7⟩;obtain⟨o,e,d⟩:=T.obj _ _ st5 b hb;exact(I8.pin (b,o) (List.mem_append_right _ (List.mem_append_right _ (qW hb e)))).2.1
 exact codeAny_compStart_list loop (T.self _ 0 _ _ _ st4 loop)
end
end Lw
namespace Lw
open PySem PySem.Spec PyProof.Rows L2
section
variable{prog:Program}{w:World}{A:Around}{R:Result->Shared->Prop}{s:Shared}
end
section
variable{X:Cx}
end
end Lw
namespace LwD
open PySem PySem.Spec PyProof.Rows L2 Lw
section
variable{prog:Program}{w:World}{A:Around}{E:Value->Shared->Prop}{s:Shared}
theorem same_empty{nm:String}{a b:Addr}{xs:List (List Key×Addr×Value)}{Q:Bool->Shared->Prop}(ha:(a==sysModules)=false)(hb:(b==sysModules)=false)
  (da:s.heap.DictOfH (tkd prog w) a xs) (db:s.heap.DictOfH (tkd prog w) b []) (h:Q (xs.isEmpty) s):wpAny (model prog w) A (Builtin.Dict.samePairs nm a b) Q E s:=by
 obtain⟨od,esd,epd,hod,hcd,hdd,hed,hid,hnd⟩:=id db;obtain⟨oo,eso,epo,hoo,hco,hdo',heo,hio,hno⟩:=id da;have d0:esd = #[]:=by simpa using hed
 subst d0;have lz:eso.size=xs.length:=size_of_entries heo;unfold Builtin.Dict.samePairs;unfold Builtin.Dict.showsAll;rw[if_neg (by rw[ha];exact Bool.false_ne_true),if_neg (by rw[hb];exact Bool.false_ne_true)];refine wpAny_bind (wpAny_pure (wpAny_bind (wpAny_pure ?_)));refine wpAny_bind (wpAny_dictEntries hoo hdo' ?_);refine wpAny_bind (wpAny_dictEntries hod hdd ?_);by_cases he:xs=[]
 ·subst he;have e0:eso = #[]:=by simpa using heo
  subst e0;rw[if_neg (by simp)];refine wpAny_bind (wpAny_dictEpoch hoo hdo' ?_);refine wpAny_bind ?_;rw[Std.Legacy.Range.forIn_eq_forIn_range'];refine wpAny_pure ?_;exact wpAny_pure h
 ·rw[if_pos (by
   have:eso.size≠0:=λz=>he (List.length_eq_zero_iff.mp (by omega));simpa using this)]
  refine wpAny_bind (wpAny_rule ?_);have:xs.isEmpty=false:=by cases xs with | nil=>exact absurd rfl he | cons x r=>rfl
  rw[this]at h;exact wpAny_pure h
theorem dict_ty{h1:Heap}{a:Addr}{ys:List (List Key×Addr×Value)}{g:Array GenState}{d:Drawn}{t:Nat}{os:OsState}(D:h1.DictOfH (tkd prog w) a ys):(⟨h1,g,d,t,os⟩:Shared).TypeIs (.ref a) "dict":=let ⟨q,_,_,g1,g2,_⟩:=D;⟨q,g1,g2.1⟩
theorem eq_empty{a b:Addr}{xs:List (List Key×Addr×Value)}{Q:Value->Shared->Prop}(ha:(a==sysModules)=false)(hb:(b==sysModules)=false)
  (da:s.heap.DictOfH (tkd prog w) a xs) (db:s.heap.DictOfH (tkd prog w) b []) (hu:A.units<cLine) (h:Q (.bool xs.isEmpty) s) :
  wpAny (model prog w) A (compareOp .Eq (.ref a) (.ref b)) Q E s:=by
 have ta:s.TypeIs (.ref a) "dict":=dict_ty da;have tb:s.TypeIs (.ref b) "dict":=dict_ty db;refine wpAny_richCompare_same_room (op:=.Eq) ta tb PySem.F.slot_dict_eq (wpAny_call_entry PySem.F.slot_dict_eq ta PySem.F.entry_dict_eq ?_ (PySem.F.args_dict_eq_2 _ _)) hu;show wpAny _ _ (Builtin.Dict.dictSlotArgs "__eq__" ⟨[.ref a,.ref b],[]⟩ >>= _) _ _ s;refine wpAny_bind ?_;unfold Builtin.Dict.dictSlotArgs;refine wpAny_bind (wpAny_notOrdered_dict ta ?_);show wpAny _ _ (pure (Value.ref a,Value.ref b)) _ _ s;refine wpAny_pure ?_;refine wpAny_bind (wpAny_isInstance (T:="dict") tb PySem.F.sub_dict_dict ?_);simp only[Bool.not_true,Bool.false_eq_true,if_false];refine wpAny_bind (wpAny_pure (wpAny_bind (wpAny_pure ?_)));refine wpAny_bind (same_empty ha hb da db ?_);refine wpAny_pure ⟨_,rfl, ?_, ?_⟩
 ·exact λx=>nomatch x
 ·simpa using h
end
section
variable{X:Cx}
noncomputable def rEqE:R2:=λx y H Q=>∃(a b:Addr) (kvs:List (List Key×V)),x=.ref a/\y=.ref b/\Rd H a (.dT kvs)/\Rd H b (.dT [])/\Q (.bl kvs.isEmpty) H
theorem op_eqE(hu:X.A.units<cLine):OpR X (compareOp .Eq) rEqE:=by
 intro pins s σ H x y v u Q I rx ry h;obtain⟨a,b,kvs,rfl,rfl,ha,hb,q⟩:=h;cases rx;cases ry;obtain⟨_,lo,ks,rel,dd⟩:=zP I.hok ha;obtain⟨_,lo',ks',rel',dd'⟩:=zP I.hok hb;cases rel';refine eq_empty lo lo' dd dd' hu ⟨.bl kvs.isEmpty,H,I, ?_,q⟩;have:ks.isEmpty=kvs.isEmpty:=by cases rel<;>rfl
 rw[this]
 rfl
end
end LwD
namespace LwD
open PySem PySem.Spec PyProof.Rows L2 Lw
section
variable{X:Cx}{k v:Expr}{tk tv:TE}{pos:Pos}
noncomputable def tDisp1(tk tv:TE):TE:=fun σ H Q=>∀p,H p=none->tk σ (upd H p (.dT [])) λx H1=>tv σ H1 λy H2=>H2 p=some (.dT [])/\∃(b:Addr) (ks:List Key),x=.ref b/\H2 b=some (.tup (ks.map kV))/\Q (.ref p) (upd H2 p (.dT [(ks,y)]))
theorem pe_disp1(hu:X.A.units<cLine)(hk:PE X k tk)(hv:PE X v tv):PE X (.Dict [some k] [v] pos) (tDisp1 tk tv):=by
 intro pins s σ H Q I q;have hn:=I.hok.fresh (Nat.le_refl s.heap.objs.size);have I1:=I.laid (a:=s.heap.objs.size) (o:=.dT []) (h':=s.heap.push { cls:=.type "dict",data:=.dict #[] }) (t':=s.toks) (λ_ _ q=>Heap.get?_push_of_some _ q) (Nat.le_refl _) (dt_empty s.heap I.big);refine wpAny_Dict_any rfl rfl (by simp) (by simp) (pairTrees_cons_walk (thn (hk pins _ σ _ _ I1 (q _ hn)) λu s1 ⟨x,H1,I2,rx,q1⟩=>thn (hv pins s1 σ H1 _ I2 q1) λu2 s2 ⟨y,H2,I3,ry,e,b,ks,ex,eb,q2⟩=>pairTrees_nil_walk ?_));subst ex;cases rx;unfold storeAll;rw[List.forIn_cons];obtain⟨z,hd,xs,rel,dd⟩:=dt_of I3.hok e;cases rel;refine wpAny_bind (wpAny_bind (wpAny_dictSet_heap (hsz:=by decide) (knd:=tkd X.prog X.w) hu (yY I3.hok eb) dd λh' dd' hs=>wpAny_pure ?_));dsimp only;rw[List.forIn_nil];refine wpAny_pure ⟨.ref s.heap.objs.size,_, ?_,rfl,q2⟩;obtain⟨o,es,ep,hq,h2,h3,h4,_,h5⟩:=dd';refine gH I3 (by rw[e];exact True.intro) hs ⟨o,hq⟩ ⟨show 1<=sizeLine by decide,hd,_, ?_,o,es,ep,hq,h2,h3,h4,h5⟩;refine .cons ⟨rfl, ?_,ry⟩ .nil;rw[jQ (ne_of eb e (λz=>nomatch z))];exact eb
end
end LwD
namespace L2
open PySem PySem.Spec PyProof.Rows
noncomputable def Itel(K:PySem.W.Frag)(a:Addr):It:=
 ⟨λi H=>∃xs x,SqL K H a xs/\xs[i]? = some x,
  λi H v H'=>∃p x,H p=none/\v=.ref p/\H'=upd H p (.tup [.int i,x])/\(∀xs,SqL K H a xs->xs[i]? = some x),
  λi H=>∃xs,SqL K H a xs/\xs.length<=i⟩
theorem turn_enumL{P:Program}{w:World}{K:PySem.W.Frag}{es:List Expr}{x1}{pos:Pos}(l:Addr){e it:Addr}(hne:e≠it):Turn P w K (.Tuple es x1 pos) (Itel K l) [e,it] e (λi h=>(∃old,IsEnum h e it i old)/\h.IsListIter it l i) where
 mem:=by simp
 obj:=λi h Z b hb=>by
  simp only[List.mem_cons,List.not_mem_nil,or_false]at hb;obtain⟨⟨old,he⟩,⟨o1,g1,c1,d1⟩⟩:=Z;rcases hb with rfl | rfl
  ·exact⟨_,he,λv q=>by cases (show Data.fields _=Data.cell v from q)⟩
  ·exact⟨_,g1,λv q=>by rw[d1]at q;cases q⟩
 keep:=λi h h' Z k=>by
  obtain⟨⟨old,he⟩,s1⟩:=Z;exact⟨⟨old,k e (by simp) _ he⟩,Heap.IsListIter.at s1 λo y=>k it (by simp) o y⟩
 item:=by
  intro X hP hw hK hc i pins s σ H E I hf Z hg;subst hP hw hK;obtain⟨xs,x,q1,hx⟩:=hg;obtain⟨its1,r1,p1,_⟩:=I.list q1;obtain⟨u1,hu1,ru1⟩:=r1.get hx;obtain⟨⟨old,he⟩,hit⟩:=id Z;have ae:l≠e:=FpOk.apartL I (hf e (by simp)) q1;have ai:l≠it:=FpOk.apartL I (hf it (by simp)) q1;refine wpAny_pyNext_enum_item he hit p1.isList (x:=u1) (by simpa using hu1) hne λg out n1 nu _ kk=>⟨_,rfl, ?_⟩;refine wpAny_letOwnedTupleGo_enum out λg2 z2 sb=>?_;have fr:H s.heap.objs.size=none:=I.hok.fresh (Nat.le_refl _);have el:e<s.heap.objs.size:=Heap.lt_size he;have il:it<s.heap.objs.size:=by obtain⟨_,y,_⟩:=hit;exact Heap.lt_size y
  have fp:∀b∈[e,it],FpOk X pins (upd H s.heap.objs.size (.tup [.int i,x])) b:=λb hb=>by
   have lt:b≠s.heap.objs.size:=by
    simp only[List.mem_cons,List.not_mem_nil,or_false]at hb;rcases hb with rfl | rfl
    ·exact Nat.ne_of_lt el
    ·exact Nat.ne_of_lt il
   exact⟨by rw[jQ lt];exact(hf b hb).1,(hf b hb).2⟩
  have I1:Inv X pins σ (upd H s.heap.objs.size (.tup [.int i,x])) { s with heap:=s.heap.push { cls:=.type "tuple",data:=.seq #[.int i s.toks,u1] } } :=I.laid (t':=s.toks) (λb u e=>Heap.get?_push_of_some _ e) (Nat.le_refl _) ⟨by simp [sizeLine],[.int i s.toks,u1],.cons ⟨_,rfl⟩ (.cons ru1 .nil),⟨_,Heap.get?_push_size _ rfl,rfl,_,rfl⟩⟩;have up:∀c o,c≠e->g.get? c=some o->g2.get? c=some o:=λc o cz y=>sb.extBut _ _ cz y;have I2:Inv X pins σ (upd H s.heap.objs.size (.tup [.int i,x])) { s with heap:=g2,toks:=s.toks+1 } :=by
   refine Inv.turnedL (s:={ s with heap:=s.heap.push { cls:=.type "tuple",data:=.seq #[.int i s.toks,u1] } }) (h':=g2) (t':=s.toks+1) I1 fp λb o hb y=>?_;simp only[List.mem_cons,List.not_mem_nil,or_false,not_or]at hb;rcases Heap.get?_push_cases y with⟨e1,e2⟩ | e1
   ·rw[e1,e2];exact up _ _ (Nat.ne_of_gt el) nu
   ·exact up _ _ hb.1 (kk b o hb.1 hb.2 e1)
  exact⟨.ref s.heap.objs.size,_,I2,rfl,⟨_,x,fr,rfl,rfl,λxs' h=>by rw[I.list_inj h q1];exact hx⟩,⟨⟨_,by simpa using z2⟩,Heap.IsListIter.at n1 λo y=>up _ o (Ne.symm hne) y⟩,λb hb=>(fp b hb).1⟩
 done:=by
  intro X hP hw hK hc i pins s σ H E I hf Z hg;subst hP hw hK;obtain⟨xs,q1,hl⟩:=hg;obtain⟨its1,r1,p1,_⟩:=I.list q1;obtain⟨⟨old,he⟩,hit⟩:=id Z;have e1:=r1.length;refine wpAny_pyNext_enum_end (I.ok.hd hc) he hit p1.isList (by simp;omega) λg eb=>⟨rfl,Inv.turnedL (t':=s.toks) I hf λb o hb y=>eb b o (λz=>hb (by simp [z])) y⟩
 self:=λ_ _ _ _ _ Z h=>by
  obtain⟨⟨old,he⟩,_⟩:=Z;exact wpAny_pyIter_enum he h
section
variable{X:Cx}
noncomputable def iEnumL(K:PySem.W.Frag)(ta:TA):TI:=fun σ H R=>ta σ H λvs H1=>∃a,vs=[.ref a]/\(∃xs,SqL K H1 a xs)/\R (Itel K a) H1
theorem gZ{es:List Expr}{x1}{tp:Pos}{a:Expr}{ta:TA}{p pos:Pos}(hg:Gl X "enumerate")(hm:X.mg "enumerate" = none)(ha:PA X [a] ta)(hs:starEach [a] X.env=[(false,eval a X.env)]:=by rfl) :
  PI X (.Tuple es x1 tp) (.Call (.Name "enumerate" p) [a] [] pos) (iEnumL X.K ta):=by
 intro pins s σ H R I h;refine Call_ (xA I hg hm (show bootBuiltins "enumerate" = some (.type "enumerate") by decide +kernel) (PyProof.Rows.callWith_type1 (thn (ha pos pins s σ H _ I h) λus s1 ⟨vs,H1,I1,r1,q1⟩=>?_) hs rfl));obtain⟨l1,e,⟨xs,q1⟩,q⟩:=q1;subst e;obtain⟨u,rfl,ru⟩:=vQ r1;cases ru;obtain⟨its1,_,p1,_⟩:=I1.list q1;refine call_enumerate_list p1.isList λg he hit _ k=>wpAny_pyIter_enum he ?_;refine⟨_,[s1.heap.objs.size+1,s1.heap.objs.size],_,_,H1,rfl,I1.kept (t':=s1.toks) k,turn_enumL l1 (Nat.ne_of_gt (Nat.lt_succ_self _)),⟨⟨_,he⟩,hit⟩,λb hb=>?_,q⟩;have hb':s1.heap.objs.size<=b:=by
  simp only[List.mem_cons,List.not_mem_nil,or_false]at hb;rcases hb with rfl | rfl<;>first | exact Nat.le_add_right _ _ | exact Nat.le_refl _
 exact I1.fpOk hb' (I1.hok.fresh hb')
end
theorem nN{K:PySem.W.Frag}{a:Addr}{xs:List V}{g:TG}{tb:TS}{D:Ends}{σ:St}{H:Hp}(Pv:Nat->St->Hp->Prop)(h0:Pv 0 σ H)(hl:∀i σ H,i<=xs.length->Pv i σ H->SqL K H a xs)
  (hs:∀i x p σ H,xs[i]? = some x->H p=none->Pv i σ H->g (.ref p) σ (upd H p (.tup [.int i,x])) fun σ2 H2=>tb { D with nx:=Pv (i+1),ct:=Pv (i+1),bk:=D.nx } σ2 H2) (hd:∀σ H,Pv xs.length σ H->D.nx σ H) :
  ∃W:Nat->Nat->St->Hp->Prop,(∃m,W 0 m σ H)/\∀i m σ H,W i m σ H->
   ((Itel K a).stop i H/\D.nx σ H)∨((Itel K a).go i H/\∃N:St->Hp->Prop,(∀σ' H',N σ' H'->∃m',m'<m/\W (i+1) m' σ' H')/\∀x H',(Itel K a).yld i H x H'->g x σ H' fun σ2 H2=>tb { D with nx:=N,ct:=N,bk:=D.nx } σ2 H2):=by
 refine⟨λi m σ H=>m=xs.length-i/\i<=xs.length/\Pv i σ H,⟨xs.length,by simp,Nat.zero_le _,h0⟩, ?_⟩;rintro i m σ H ⟨rfl,hi,p⟩;have q:=hl i σ H hi p;by_cases hlt:i<xs.length
 ·refine .inr ⟨⟨xs,xs[i],q,by simp [hlt]⟩,Pv (i+1),fun σ' H' p'=>⟨xs.length-(i+1),by omega,rfl,hlt,p'⟩,λv H' y=>?_⟩;obtain⟨r,x,hr,rfl,rfl,hx⟩:=y;exact hs i x r σ H (hx xs q) hr p
 ·have ei:i=xs.length:=by omega
  subst ei;exact .inl ⟨⟨xs,q,Nat.le_refl _⟩,hd σ H p⟩
end L2
namespace L2
open PySem PySem.Spec PyProof.Rows
section
variable{prog:Program}{w:World}{A:Around}{E:Value->Shared->Prop}{s:Shared}
theorem uR:isSubtype (.type "range_iterator") (.type "reversed")=pure false:=by rw[isSubtype_type];kernel_rfl
end
section
variable{X:Cx}{tg:Expr}
end
end L2
namespace L2
open PySem PySem.Spec PyProof.Rows Lw
section
variable{X:Cx}{pos:Pos}
theorem xS:∀{xs:List V} {us:List Value},Vals xs us->Vals xs.reverse us.reverse
 | _,_,.nil=>.nil
 | _,_,.cons h t=>by rw[List.reverse_cons,List.reverse_cons];exact(xS t).append (.cons h .nil)
noncomputable def tBackL(K:PySem.W.Frag)(te:TE)(ts:TO):TE:=fun σ H Q=>te σ H λx H1=>ts σ H1 λo H2=>o=some (-1)/\∃a xs,x=.ref a/\SqL K H2 a xs/\New H2 (.lst xs.reverse) Q
theorem pe_backL{e st:Expr}{te:TE}{ts:TO}{p2:Pos}(he:PE X e te)(hs:PO X (some st) ts):PE X (.Subscript e (.Slice none none (some st) p2) pos) (tBackL X.K te ts):=by
 intro pins s σ H Q I h;refine Subscript_ (thn (he pins s σ H _ I h) λv s1 ⟨x,H1,I1,r1,q1⟩=>?_);refine wpAny_Slice ?_;rw[evalPart_none];refine wpAny_pure (wpAny_pure (thn (hs pins s1 σ H1 _ I1 q1) λvs s2 ⟨o,H2,I2,po,eo,a,xs,ex,hx,q⟩=>?_));subst eo ex;cases r1;cases po with
 | int i u=>
 have I3:Inv X pins σ H2 { s2 with heap:=s2.heap.push { cls:=.type "slice",data:=.fields #[.none,.none,.int (-1) u] } } :=I2.kept (t':=s2.toks) λb ob q=>Heap.get?_push_of_some _ q;obtain⟨its,r,ht,hz⟩:=I3.list hx;have hl:its.toArray.size=xs.length:=by rw[List.size_toArray];exact r.length.symm
 show wpAny (model X.prog X.w) X.A (subscriptTail e (.Slice none none (some st) p2) (.ref a) (.ref s2.heap.objs.size)) (EP X pins σ Q) X.xe { s2 with heap:=s2.heap.push { cls:=.type "slice",data:=.fields #[.none,.none,.int (-1) u] } };refine tail_any (ops:=[.ref a,.ref s2.heap.objs.size]) ht.isList.typeIs slot_list_getitem.lookup ?_ (by with_unfolding_all rfl);refine wpAny_getItem_list_slice ht.isList (Heap.IsSliceOf.new ..) .none .none (.int (-1) u) (by decide) ?_ (by rw[hl];exact hz);rw[PySem.W.krv_pick];have n:=I3.hok.fresh (Nat.le_refl (s2.heap.push { cls:=.type "slice",data:=.fields #[.none,.none,.int (-1) u] }).objs.size);refine⟨.ref _,_,I3.laid (t':=s2.toks) (o:=.lst xs.reverse) (λb ob q=>Heap.get?_push_of_some _ q) (Nat.le_refl _) ?_,rfl,q _ _ n (Lw.kH _ n) jK⟩;exact⟨by rw[List.length_reverse];exact hz,_,0,xS r,Heap.get?_push_size _ rfl⟩
end
section
variable{prog:Program}{w:World}{A:Around}{E:Value->Shared->Prop}{s:Shared}
theorem drawL{it l:Addr}{items:Array Value}(ne:l≠it):∀(n i:Nat) (s:Shared) (Q:List Value->Shared->Prop),s.heap.IsListIter it l i->s.heap.IsList l items->i+n<=items.size->
  (∀g,g.IsListIter it l (i+n)->Heap.SameBut it s.heap g->Q ((items.toList.drop i).take n) { s with heap:=g })->wpAny (model prog w) A (draw (.ref it) n) Q E s
 | 0,i,s,Q,h1,_,_,q=>by
  show wpAny _ _ (pure []) Q E s;exact wpAny_pure (by simpa using q s.heap h1 (Heap.SameBut.refl ..))
 | n+1,i,s,Q,h1,h2,le,q=>by
  have lt:i<items.size:=by omega
  show wpAny _ _ (pyNext (.ref it) >>= _) Q E s;refine wpAny_bind (wpAny_pyNext_list_item h1 h2 (x:=items[i]) (by simp [lt]) λg1 k1 b1=>?_);refine wpAny_bind (wpAny_holding (drawL ne n (i+1) _ _ k1 (h2.extBut b1.extBut ne) (by omega) λg2 k2 b2=>wpAny_pure ?_));have e:items.toList.drop i=items[i]::items.toList.drop (i+1):=by simp [List.drop_eq_getElem_cons,lt]
  have:=q g2 (by rw[show i+(n+1)=i+1+n by omega];exact k2) (b1.trans b2);rw[e,List.take_succ_cons]at this;exact this
theorem unpackL{l:Addr}{items:Array Value}{Q:List Value->Shared->Prop}(hh:A.handled=none)(hl:s.heap.IsList l items)
  (q:∀g,Heap.ExtBut s.heap.objs.size s.heap g->Q items.toList { s with heap:=g }):wpAny (model prog w) A (unpackItems (.ref l) items.size none) Q E s:=by
 have lt:l≠s.heap.objs.size:=by obtain⟨o,ho,_⟩:=hl;exact Nat.ne_of_lt (Heap.lt_size ho)
 unfold unpackItems;refine wpAny_bind ?_;unfold notIterableAtAll;refine wpAny_bind (wpAny_specialOf hl.typeIs slot_list_iter.lookup (wpAny_pure ?_));simp only[Bool.false_eq_true,if_false];refine wpAny_bind (wpAny_holding (wpAny_pyIter_list hl ?_));refine wpAny_bind (wpAny_holding (drawL lt items.size 0 _ _ ⟨_,Heap.get?_push_size _ rfl,rfl,rfl⟩ (Heap.IsList.push hl _) (by omega) λg1 k1 b1=>?_));rw[show List.take items.size (List.drop 0 items.toList)=items.toList by rw[List.drop_zero];exact List.take_of_length_le (by simp),if_neg (by simp)];have h1:g1.IsList l items:=Heap.IsList.extBut (Heap.IsList.push hl _) b1.extBut lt;refine wpAny_bind (wpAny_holding (wpAny_pyNext_list_end hh k1 h1 (by simp) λg2 b2=>?_));simp only[Option.isSome_none,Bool.false_eq_true,if_false];exact wpAny_pure (q g2 λb o hb e=>b2 b o hb (b1.extBut b o hb (Heap.get?_push_of_some _ e)))
end
section
variable{X:Cx}{pos:Pos}
noncomputable def gTupL(K:PySem.W.Frag)(n:Nat)(t:TGs):TG:=λv σ H Q=>∃a xs,v=.ref a/\SqL K H a xs/\xs.length=n/\t xs σ H Q
theorem pg_tupL{es:List Expr}{k:Nat}{t:TGs}{n:Nat}(hc:X.calm=true)(h:PGs X es t)
  (hn:(assignEach es X.env).length=n:=by rfl) (hst:(assignEach es X.env).findIdx? (·.1)=none:=by rfl):PG X (.Tuple es k pos) (gTupL X.K n t):=by
 intro pins s σ H v u Q I r hw;obtain⟨a,xs,e1,hq,hl,hw⟩:=hw;subst e1;cases r;obtain⟨its,rv,ht,hz⟩:=I.list hq;rw[PyProof.Rows.assign_Tuple];refine wpAny_bind (wpAny_standAt ?_);unfold unpack;rw[show(assignEach es X.env).length=its.toArray.size by simp [hn,<-hl,rv.length],hst];refine wpAny_bind (wpAny_holding (unpackL (I.ok.hd hc) ht.isList λh' hx=>?_));have I1:Inv X pins σ H { s with heap:=h' } :=I.kept (t':=s.toks) λb o e=>hx b o (Nat.ne_of_lt (Heap.lt_size e)) e;exact h pins _ σ H xs _ Q I1 (by simpa using rv) hw
end
structure ZL(z TI TO i1 i2 l1 l2:Addr)(k:Nat)(h:Heap):Prop where
 zz:IsZip h z TI TO .none
 ti:IsPair h TI (.ref i1) (.ref i2)
 to:∃a b,IsPair h TO a b
 one:h.IsListIter i1 l1 k
 two:h.IsListIter i2 l2 k
noncomputable def ItzL(K:PySem.W.Frag)(a b:Addr):It:=
 ⟨λi H=>∃xs ys x y,SqL K H a xs/\SqL K H b ys/\xs[i]? = some x/\ys[i]? = some y,
  λi H v H'=>∃p x y,H p=none/\v=.ref p/\H'=upd H p (.tup [x,y])/\(∀xs,SqL K H a xs->xs[i]? = some x)/\(∀ys,SqL K H b ys->ys[i]? = some y),
  λi H=>∃xs ys,SqL K H a xs/\SqL K H b ys/\(xs.length<=i∨ys.length<=i)⟩
theorem turn_zipL{P:Program}{w:World}{K:PySem.W.Frag}{es:List Expr}{x1}{pos:Pos}(l1 l2:Addr){z TI TO i1 i2:Addr}(F:Five z TI TO i1 i2):Turn P w K (.Tuple es x1 pos) (ItzL K l1 l2) [z,TI,TO,i1,i2] z (λi h=>ZL z TI TO i1 i2 l1 l2 i h) where
 mem:=by simp
 obj:=λi h Z b hb=>by
  simp only[List.mem_cons,List.not_mem_nil,or_false]at hb;obtain⟨hz,hti,⟨a,c,hto⟩,⟨o1,g1,c1,d1⟩,⟨o2,g2,c2,d2⟩⟩:=Z;rcases hb with rfl | rfl | rfl | rfl | rfl
  ·exact⟨_,hz,λv q=>by cases (show Data.fields _=Data.cell v from q)⟩
  ·exact⟨_,hti,λv q=>by cases (show Data.seq _ _=Data.cell v from q)⟩
  ·exact⟨_,hto,λv q=>by cases (show Data.seq _ _=Data.cell v from q)⟩
  ·exact⟨_,g1,λv q=>by rw[d1]at q;cases q⟩
  ·exact⟨_,g2,λv q=>by rw[d2]at q;cases q⟩
 keep:=λi h h' Z k=>by
  obtain⟨hz,hti,⟨a,c,hto⟩,s1,s2⟩:=Z;exact⟨k z (by simp) _ hz,k TI (by simp) _ hti,⟨a,c,k TO (by simp) _ hto⟩,s1.at λo e=>k i1 (by simp) o e,s2.at λo e=>k i2 (by simp) o e⟩
 item:=by
  intro X hP hw hK hc i pins s σ H E I hf Z hg;subst hP hw hK;obtain⟨xs,ys,x,y,q1,q2,hx,hy⟩:=hg;obtain⟨its1,r1,p1,_⟩:=I.list q1;obtain⟨its2,r2,p2,_⟩:=I.list q2;obtain⟨u1,hu1,ru1⟩:=r1.get hx;obtain⟨u2,hu2,ru2⟩:=r2.get hy;have D:=F.of (λb hb=>FpOk.apartL I (hf b hb) q1) (λb hb=>FpOk.apartL I (hf b hb) q2);obtain⟨a0,b0,hto⟩:=Z.to;refine wpAny_pyNext_zip_item D Z.zz Z.ti hto Z.one Z.two p1.isList p2.isList (x:=u1) (y:=u2) (by simpa using hu1) (by simpa using hu2) λg z1 to1 n1 n2 nu _ kk=>⟨_,rfl, ?_⟩;refine wpAny_letOwnedTupleGo_zip z1 λg2 z2 sb=>?_;have fr:H s.heap.objs.size=none:=I.hok.fresh (Nat.le_refl _);have fp:∀b∈[z,TI,TO,i1,i2],FpOk X pins (upd H s.heap.objs.size (.tup [x,y])) b:=λb hb=>by
   have lt:b≠s.heap.objs.size:=by
    simp only[List.mem_cons,List.not_mem_nil,or_false]at hb;obtain⟨hz,hti,⟨a,c,hto⟩,⟨o1,g1,_⟩,⟨o2,g2,_⟩⟩:=Z;rcases hb with rfl | rfl | rfl | rfl | rfl
    ·exact Nat.ne_of_lt (Heap.lt_size hz)
    ·exact Nat.ne_of_lt (Heap.lt_size hti)
    ·exact Nat.ne_of_lt (Heap.lt_size hto)
    ·exact Nat.ne_of_lt (Heap.lt_size g1)
    ·exact Nat.ne_of_lt (Heap.lt_size g2)
   exact⟨by rw[jQ lt];exact(hf b hb).1,(hf b hb).2⟩
  have I1:Inv X pins σ (upd H s.heap.objs.size (.tup [x,y])) { s with heap:=s.heap.push { cls:=.type "tuple",data:=.seq #[u1,u2] } } :=I.laid (t':=s.toks) (λb u e=>Heap.get?_push_of_some _ e) (Nat.le_refl _) ⟨by simp [sizeLine],[u1,u2],.cons ru1 (.cons ru2 .nil),⟨_,Heap.get?_push_size _ rfl,rfl,_,rfl⟩⟩;have up:∀c o,c≠z->g.get? c=some o->g2.get? c=some o:=λc o cz e=>sb.extBut _ _ cz e;have zs:z≠s.heap.objs.size:=Nat.ne_of_lt (Heap.lt_size Z.zz);have I2:Inv X pins σ (upd H s.heap.objs.size (.tup [x,y])) { s with heap:=g2 } :=by
   refine Inv.turnedL (s:={ s with heap:=s.heap.push { cls:=.type "tuple",data:=.seq #[u1,u2] } }) (h':=g2) (t':=s.toks) I1 fp λb o hb e=>?_;simp only[List.mem_cons,List.not_mem_nil,or_false,not_or]at hb;rcases Heap.get?_push_cases e with⟨e1,e2⟩ | e1
   ·rw[e1,e2];exact up _ _ (Ne.symm zs) nu
   ·exact up _ _ hb.1 (kk b o hb.1 hb.2.2.1 hb.2.2.2.1 hb.2.2.2.2 e1)
  exact⟨.ref s.heap.objs.size,_,I2,rfl,⟨_,x,y,fr,rfl,rfl,λxs' h=>by rw[I.list_inj h q1];exact hx,λys' h=>by rw[I.list_inj h q2];exact hy⟩,⟨z2,up _ _ D.TIz (kk _ _ D.TIz D.TITO D.TIi1 D.TIi2 Z.ti),⟨_,_,up _ _ D.TOz to1⟩,n1.at λo e=>up _ o D.i1z e,n2.at λo e=>up _ o D.i2z e⟩,λb hb=>(fp b hb).1⟩
 done:=by
  intro X hP hw hK hc i pins s σ H E I hf Z hg;subst hP hw hK;obtain⟨xs,ys,q1,q2,he⟩:=hg;obtain⟨its1,r1,p1,_⟩:=I.list q1;obtain⟨its2,r2,p2,_⟩:=I.list q2;have D:=F.of (λb hb=>FpOk.apartL I (hf b hb) q1) (λb hb=>FpOk.apartL I (hf b hb) q2);have e1:=r1.length;have e2:=r2.length;obtain⟨a0,b0,hto⟩:=Z.to;refine wpAny_pyNext_zip_end (I.ok.hd hc) D Z.zz Z.ti hto Z.one Z.two p1.isList p2.isList ?_ λg kk=>⟨rfl,Inv.turnedL (t':=s.toks) I hf λb o hb e=>by
   simp only[List.mem_cons,List.not_mem_nil,or_false,not_or]at hb;exact kk b o hb.1 hb.2.2.1 hb.2.2.2.1 hb.2.2.2.2 e⟩
  rcases he with h | h
  ·exact .inl (by simp;omega)
  ·exact .inr (by simp;omega)
 self:=λ_ _ _ _ _ Z h=>wpAny_pyIter_zip Z.zz h
section
variable{X:Cx}
noncomputable def iZipL(K:PySem.W.Frag)(ta:TA):TI:=fun σ H R=>ta σ H λvs H1=>∃a b,vs=[.ref a,.ref b]/\(∃xs,SqL K H1 a xs)/\(∃ys,SqL K H1 b ys)/\R (ItzL K a b) H1
theorem pi_zipL{es:List Expr}{x1}{tp:Pos}{a b:Expr}{ta:TA}{p pos:Pos}(hg:Gl X "zip")(hm:X.mg "zip" = none)(ha:PA X [a,b] ta)(hs:starEach [a,b] X.env=[(false,eval a X.env),(false,eval b X.env)]:=by rfl)(hs2:starEach [b] X.env=[(false,eval b X.env)]:=by rfl) :
  PI X (.Tuple es x1 tp) (.Call (.Name "zip" p) [a,b] [] pos) (iZipL X.K ta):=by
 intro pins s σ H R I h;refine Call_ (xA I hg hm boot_zip (PyProof.Rows.callWith_type1 (thn (ha pos pins s σ H _ I h) λus s1 ⟨vs,H1,I1,r1,q1⟩=>?_) (by rw[hs,hs2]) (by rw[hs2];rfl)));obtain⟨l1,l2,e,⟨xs,q1⟩,⟨ys,q2⟩,q⟩:=q1;subst e;cases r1 with
 | cons r rr=>
  cases rr with
  | cons r' rr=>
   cases rr;cases r;cases r';obtain⟨its1,_,p1,_⟩:=I1.list q1;obtain⟨its2,_,p2,_⟩:=I1.list q2;refine call_zip_2 p1.isList p2.isList λg z1 z2 z3 z4 z5 _ k=>wpAny_pyIter_zip z1 ?_;refine⟨_,_,_,_,H1,rfl,I1.kept (t':=s1.toks) k,turn_zipL l1 l2 ⟨by simp⟩,⟨z1,z2,⟨_,_,z3⟩,z4,z5⟩,λb hb=>?_,q⟩;have hb':s1.heap.objs.size<=b:=by
    simp only[List.mem_cons,List.not_mem_nil,or_false]at hb;rcases hb with rfl | rfl | rfl | rfl | rfl<;>first | exact Nat.le_add_right _ _ | exact Nat.le_refl _
   exact I1.fpOk hb' (I1.hok.fresh hb')
end
end L2
namespace L2
open PySem PySem.Spec PyProof.Rows
section
variable{prog:Program}{w:World}{A:Around}{E:Value->Shared->Prop}{s:Shared}
theorem range_rev2{r:Addr}{a n:Int}{t u v:Tok}{Q:Value->Shared->Prop}(hr:IsRange s.heap r a (a+n) 1 t u v)(ha:0<=a)(ha1:a<2^61)(h0:0<=n)(h1:n<2^61)
  (h:Q (.ref s.heap.objs.size) { s with heap:=s.heap.push { cls:=.type "range_iterator",data:=.fields #[rawInt (a+(n-1)),rawInt n,rawInt (-1)] } }) :
  wpAny (model prog w) A (call (.builtin "range.__reversed__") [.ref r]) Q E s:=by
 have hT:s.TypeIs (.ref r) "range":=⟨_,hr,rfl⟩;refine wpAny_call_entry F.slot_range_reversed hT F.entry_range_reversed ?_ (F.args_range_reversed_1 _);unfold Builtin.«range.__reversed__»;refine wpAny_bind (wpAny_of_eq (a:=Value.ref r) rfl ?_);have rf:∀{Q':Int×Int×Int->Shared->Prop} {E':Value->Shared->Prop},Q' (a,a+n,1) s->wpAny (model prog w) A.in1 (Builtin.Range.rangeFields (.ref r)) Q' E' s:=fun {Q' E'} hq=>by
  unfold Builtin.Range.rangeFields;refine wpAny_bind (wpAny_field hr rfl (x:=.int a t) rfl (wpAny_bind (wpAny_pure ?_)));refine wpAny_bind (wpAny_field hr rfl (x:=.int (a+n) u) rfl (wpAny_bind (wpAny_pure ?_)));refine wpAny_bind (wpAny_field hr rfl (x:=.int 1 v) rfl (wpAny_bind (wpAny_pure ?_)));exact wpAny_pure hq
 refine wpAny_bind (rf ?_);have sz:Builtin.Range.rangeSize a (a+n) 1=n:=by rw[rangeSize_one];split<;>omega
 have sm:(Builtin.Range.rangeFitsLong a&&Builtin.Range.rangeFitsLong (a+n)&&Builtin.Range.rangeFitsLong 1&&Builtin.Range.rangeFitsLong (-1)&&Builtin.Range.rangeFitsLong (a-1)&&Builtin.Range.rangeFitsLong n)=true:=by
  simp only[Builtin.Range.rangeFitsLong,Bool.and_eq_true,decide_eq_true_eq];omega
 dsimp only;rw[sz,sm];rw[if_neg (by decide)];have e:a+(n-1)*1=a+(n-1):=by omega
 rw[e];exact wpAny_bind (wpAny_newObj_type (wpAny_pure ⟨_,rfl,h⟩))
theorem code_rev2{r:Addr}{a n:Int}{t u v:Tok}{Q₁:Value->Shared->Prop}(hr:IsRange s.heap r a (a+n) 1 t u v)(ha:0<=a)(ha1:a<2^61)(h0:0<=n)(h1:n<2^61)
  (h:Q₁ (.ref s.heap.objs.size) { s with heap:=s.heap.push { cls:=.type "range_iterator",data:=.fields #[rawInt (a+(n-1)),rawInt n,rawInt (-1)] } }) :
  codeAny (model prog w) A (.call (.builtin "reversed.__new__") ⟨[.type "reversed",.ref r],[]⟩) (wants Q₁ E) s:=by
 have hT:s.TypeIs (.ref r) "range":=⟨_,hr,rfl⟩;refine codeAny_of_tree ?_;show wpAny _ A.in1 (do checkBuiltinCall "reversed.__new__" ⟨[.type "reversed",.ref r],[]⟩;again (.builtin "reversed.__new__" ⟨[.type "reversed",.ref r],[]⟩)) _ _ s;refine wpAny_bind (wpAny_of_eq (F.newCall_reversed_1 _) (wpAny_pure ⟨plainId_quiet F.plain_reversed_new _,codeAny_builtin F.entry_reversed_new ?_⟩));rw[Around.under_plainId F.plain_reversed_new _];unfold Builtin.«reversed.__new__»;refine wpAny_bind (wpAny_of_eq (newClass_reversed _) ?_);try dsimp only
 refine wpAny_bind (wpAny_of_eq (a:=()) (by first | rfl | kernel_rfl) ?_);refine wpAny_bind (wpAny_of_eq (a:=()) (by first | rfl | kernel_rfl) ?_);try dsimp only
 refine wpAny_bind (wpAny_specialOf hT F.slot_range_reversed.lookup ?_);try dsimp only
 refine wpAny_bind (wpAny_of_eq (F.slot_range_reversed.bind _) ?_);try dsimp only
 first
 | rw[if_neg (show ¬((Value.builtin "range.__reversed__"==Value.none)=true)from Bool.false_ne_true)]
 | (show wpAny _ _ (if (Value.builtin "range.__reversed__"==Value.none)=true then _ else _) _ _ _;rw[if_neg (show ¬((Value.builtin "range.__reversed__"==Value.none)=true)from Bool.false_ne_true)])
 refine wpAny_bind (wpAny_rule ?_);refine wpAny_bind (m:=runValue (.call (.builtin "range.__reversed__") ⟨[.ref r],[]⟩)) (show wpAny _ _ (call (.builtin "range.__reversed__") [.ref r]) _ _ _ from range_rev2 hr ha ha1 h0 h1 ?_);first
 | exact wpAny_pure h
 | exact wpAny_bind (wpAny_pure (wpAny_pure h))
theorem call_rev2{r:Addr}{a n:Int}{t u v:Tok}{Q:Value->Shared->Prop}(hr:IsRange s.heap r a (a+n) 1 t u v)(ha:0<=a)(ha1:a<2^61)(h0:0<=n)(h1:n<2^61)
  (h:Q (.ref s.heap.objs.size) { s with heap:=s.heap.push { cls:=.type "range_iterator",data:=.fields #[rawInt (a+(n-1)),rawInt n,rawInt (-1)] } }) :
  wpAny (model prog w) A (call (.type "reversed") [.ref r]) Q E s:=by
 refine callType_other (U:="range_iterator") (Q₁:=λobj s₁=>obj=.ref s.heap.objs.size/\s₁ = { s with heap:=s.heap.push { cls:=.type "range_iterator",data:=.fields #[rawInt (a+(n-1)),rawInt n,rawInt (-1)] } }) (by decide +kernel) F.create_reversed ⟨_,_,F.mro_reversed⟩ F.made_reversed uR (F.typeCall_reversed_1 _) (code_rev2 hr ha ha1 h0 h1 ⟨rfl,rfl⟩) ?_;rintro obj s₁ ⟨rfl,rfl⟩;exact⟨⟨_,Heap.get?_push_size _ rfl,rfl⟩,h⟩
end
noncomputable def Itd2(a n:Nat):It:=⟨λi _=>i<n,λi H x H'=>H'=H/\x=.int ((a:Int)+((n:Int)-1-i)),λi _=>n<=i⟩
theorem turn_down2{P:Program}{w:World}{K:PySem.W.Frag}{tg:Expr}(it:Addr)(a n:Nat):Turn P w K tg (Itd2 a n) [it] it (λi h=>IsRangeIter h it (((a:Int)+((n:Int)-1))+(i:Nat)*(-1)) ((n:Int)-(i:Nat)) (-1)) where
 mem:=by simp
 obj:=λi h st b hb=>by
  have e:b=it:=by simpa using hb
  subst e;exact⟨_,st,λv z=>by
   have z':Data.fields _=Data.cell v:=z;cases z'⟩
 keep:=λi h h' st k=>k it (by simp) _ st
 item:=by
  intro X hP hw hK hc i pins s σ H E I hf st hg;subst hP hw hK;obtain⟨f0,f1,f2,f3,f4,f5⟩:=hf it (by simp);have W:=Walks.range (prog:=X.prog) (w:=X.w) (I.ok.hd hc) it ((a:Int)+((n:Int)-1)) (-1) n;refine W.item i s _ _ hg st λv h' tk hv st' kk=>?_;obtain⟨t,rfl⟩:=hv;have I1:Inv X pins σ H { s with heap:=h',toks:=tk } :=I.turned (λb o hb e=>kk b o (by simpa using hb) e) f0 f1 f3 f4 f5;refine⟨_,rfl,go_of (s:={ s with heap:=h',toks:=tk }) (n:="range_iterator") st' rfl rfl (by decide) ⟨.int ((a:Int)+((n:Int)-1-i)),H,I1,⟨t, ?_⟩,⟨rfl,rfl⟩,st',λb hb=>(hf b hb).1⟩⟩;rw[show(a:Int)+((n:Int)-1)+(i:Int)*(-1)=a+((n:Int)-1-i) by omega]
 done:=by
  intro X hP hw hK hc i pins s σ H E I hf st hg;subst hP hw hK;obtain⟨f0,f1,f2,f3,f4,f5⟩:=hf it (by simp);exact wpAny_pyNext_range_end (I.ok.hd hc) st (by have:n<=i:=hg;omega) λh' eb=>⟨rfl,I.turned (t':=s.toks) (λb o hb e=>eb b o hb e) f0 f1 f3 f4 f5⟩
 self:=λ_ _ _ _ _ st h=>wpAny_pyIter_rangeiter st h
section
variable{X:Cx}{tg:Expr}
noncomputable def rRange2:List V->Hp->VK->Prop:=λxs H Q=>∃a b:Int,xs=[.int a,.int b]/\∀p,H p=none->Q (.ref p) (upd H p (.rng a b))
theorem call_range2:CallR X (.type "range") rRange2:=by
 intro pins s σ H xs us Q I r h;obtain⟨a,b,rfl,q⟩:=h;cases r with
 | cons r rr=>
  cases rr with
  | cons r' rr=>
   cases rr;obtain⟨t,rfl⟩:=r;obtain⟨t',rfl⟩:=r';exact call_range_2 ⟨.ref s.heap.objs.size,_,I.laid (a:=s.heap.objs.size) (o:=.rng a b) (λb u e=>Heap.get?_push_of_some _ e) (Nat.le_refl _) ⟨_,_,_,Heap.get?_push_size _ rfl⟩,rfl,q _ (I.hok.fresh (Nat.le_refl _))⟩
noncomputable def iRev2(ta:TA):TI:=fun σ H R=>ta σ H λvs H1=>∃(r:Addr) (a n:Nat),vs=[.ref r]/\H1 r=some (.rng a (a+n))/\a<2^61/\n<2^61/\R (Itd2 a n) H1
theorem pi_rev2{a:Expr}{ta:TA}{p pos:Pos}(hg:Gl X "reversed")(hm:X.mg "reversed" = none)(ha:PA X [a] ta)(hs:starEach [a] X.env=[(false,eval a X.env)]:=by rfl):PI X tg (.Call (.Name "reversed" p) [a] [] pos) (iRev2 ta):=by
 intro pins s σ H R I h;refine Call_ (xA I hg hm (show bootBuiltins "reversed" = some (.type "reversed") by decide +kernel) (PyProof.Rows.callWith_type1 (thn (ha pos pins s σ H _ I h) λus s1 ⟨vs,H1,I1,r1,q1⟩=>?_) hs rfl));obtain⟨r,lo,n,e,hr,hlo,hn,q⟩:=q1;subst e;obtain⟨u,rfl,ru⟩:=vQ r1;cases ru;obtain⟨t,u,v,ho⟩:=(show ObjOk X.prog X.w H1 s1.heap r (.rng lo (lo+n))from I1.hok r _ hr);refine call_rev2 ho (by omega) (by omega) (by omega) (by omega) (wpAny_pyIter_rangeiter (Heap.get?_push_size _ rfl) ?_);refine⟨s1.heap.objs.size,[s1.heap.objs.size],_,_,H1,rfl,I1.kept (t':=s1.toks) λb o e=>Heap.get?_push_of_some _ e,turn_down2 _ lo n, ?_,λb hb=>?_,q⟩
 ·show IsRangeIter _ _ _ _ _;rw[show(lo:Int)+((n:Int)-1)+((0:Nat):Int)*(-1)=lo+(n-1) by omega,show(n:Int)-((0:Nat):Int)=n by omega];exact Heap.get?_push_size _ rfl
 ·have e:b=s1.heap.objs.size:=by simpa using hb
  subst e;exact I1.fpOk (Nat.le_refl _) (I1.hok.fresh (Nat.le_refl _))
end
theorem for_down2{a n:Nat}{g:TG}{tb:TS}{D:Ends}{σ:L2.St}{H:Hp}(Pv:Nat->L2.St->Hp->Prop)(h0:Pv 0 σ H)
  (hs:∀i σ H,i<n->Pv i σ H->g (.int ((a:Int)+((n:Int)-1-i))) σ H fun σ2 H2=>tb { D with nx:=Pv (i+1),ct:=Pv (i+1),bk:=D.nx } σ2 H2) (hd:∀σ H,Pv n σ H->D.nx σ H) :
  ∃W:Nat->Nat->L2.St->Hp->Prop,(∃m,W 0 m σ H)/\∀i m σ H,W i m σ H->
   ((Itd2 a n).stop i H/\D.nx σ H)∨((Itd2 a n).go i H/\∃N:L2.St->Hp->Prop,(∀σ' H',N σ' H'->∃m',m'<m/\W (i+1) m' σ' H')/\∀x H',(Itd2 a n).yld i H x H'->g x σ H' fun σ2 H2=>tb { D with nx:=N,ct:=N,bk:=D.nx } σ2 H2):=by
 refine⟨λi m σ H=>m=n-i/\i<=n/\Pv i σ H,⟨n,by simp,Nat.zero_le _,h0⟩, ?_⟩;rintro i m σ H ⟨rfl,hi,p⟩;by_cases hlt:i<n
 ·refine .inr ⟨hlt,Pv (i+1),fun σ' H' p'=>⟨n-(i+1),by omega,rfl,hlt,p'⟩,λx H' y=>?_⟩;obtain⟨e,y⟩:=y;subst e y;exact hs i σ _ hlt p
 ·have e:i=n:=by omega
  subst e;exact .inl ⟨Nat.le_refl _,hd σ H p⟩
end L2
namespace Lw
open PySem PySem.Spec PyProof.Rows L2
section
variable{X:Cx}
noncomputable def rAny(K:PySem.W.Frag):List V->Hp->VK->Prop:=λxs H Q=>∃(a:Addr) (bs:List Bool),xs=[.ref a]/\SqL K H a (bs.map V.bl)/\Q (.bl (bs.any id)) H
theorem any_range(bs:List Bool):(List.range bs.length).any (λi=>bs.getD i true)=bs.any id:=by
 induction bs with
 | nil=>rfl
 | cons b r ih=>
  rw[List.length_cons,List.range_succ_eq_map,List.any_cons,List.any_map,List.any_cons,<-ih]
  rfl
theorem boot_any:bootBuiltins "any" = some (.builtin "any"):=by decide +kernel
theorem boot_min:bootBuiltins "min" = some (.builtin "min"):=by decide +kernel
theorem call_any(hc:X.calm=true):CallR X (.builtin "any") (rAny X.K):=by
 intro pins s σ H xs us Q I r h;obtain⟨a,bs,rfl,hq,q⟩:=h;obtain⟨u,rfl,ru⟩:=vQ r;cases ru;obtain⟨its,rv,p,hz⟩:=I.list hq;have hl:=rv.length;rw[List.length_map]at hl;refine PySem.call_any_walk (wpAny_pyIter_list p.isList ?_);have ha:a<s.heap.objs.size:=by
  obtain⟨o,n,e,_⟩:=p;exact Heap.lt_size e
 refine⟨s.heap.objs.size,_,_,_,_,_,λi=>bs.getD i true,rfl,Walks.list (show X.A.in1.handled=none from I.ok.hd hc) s.heap.objs.size a (Nat.ne_of_lt ha) its.toArray,⟨⟨_,Heap.get?_push_size _ rfl,rfl,rfl⟩,p.isList.at λo e=>Heap.get?_push_of_some _ e⟩, ?_, ?_⟩
 ·intro i v s' Q' E' hv hq';obtain rfl:=bls_get rv (by simpa using hv);exact wpAny_truthy_bool hq'
 ·intro h' tk k;rw[List.size_toArray,<-hl,any_range];refine⟨.bl _,H,I.kept (t':=tk) (λb o e=>?_),rfl,q⟩;exact k b o (by simp;exact Nat.ne_of_lt (Heap.lt_size e)) (Heap.get?_push_of_some _ e)
theorem least_is(ns:List Int):∀k,k<ns.length->(argBest (λi j=>decide (ns.getD i 0<ns.getD j 0)) k)<=k/\∀j,j<=k->ns.getD (argBest (λi j=>decide (ns.getD i 0<ns.getD j 0)) k) 0<=ns.getD j 0
 | 0,_=>⟨Nat.le_refl _,λj hj=>by
   have:j=0:=by omega
   subst this;exact Int.le_refl _⟩
 | k+1,h=>by
  obtain⟨h1,h2⟩:=least_is ns k (by omega);simp only[argBest];split
  ·rename_i hb;have hb:=of_decide_eq_true hb;refine⟨Nat.le_refl _,λj hj=>?_⟩;rcases Nat.lt_or_ge j (k+1)with z | z
   ·have:=h2 j (by omega);omega
   ·have:j=k+1:=by omega
    subst this;exact Int.le_refl _
  ·rename_i hb;refine⟨by omega,λj hj=>?_⟩;rcases Nat.lt_or_ge j (k+1)with z | z
   ·exact h2 j (by omega)
   ·have:j=k+1:=by omega
    subst this;have:¬(ns.getD (k+1) 0<ns.getD (argBest (λi j=>decide (ns.getD i 0<ns.getD j 0)) k) 0):=λz=>hb (decide_eq_true z);omega
noncomputable def rMin1:List V->Hp->VK->Prop:=λxs H Q=>∃(l:Addr) (ns:List Int),xs=[.ref l]/\H l=some (.lst (ns.map V.int))/\ns≠[]/\∀m,m∈ns->(∀x∈ns,m<=x)->Q (.int m) H
theorem call_min1(hc:X.calm=true):CallR X (.builtin "min") rMin1:=by
 intro pins s σ H xs us Q I r h;obtain⟨l,ns,rfl,hl,hne,q1⟩:=h;obtain⟨u,rfl,ru⟩:=vQ r;cases ru;obtain⟨its,rv,p,_⟩:=I.list (SqL.of hl);have i1:IntsAre its ns:=qX rv;have il:=vO i1;have ha:l<s.heap.objs.size:=by
  obtain⟨o,_,e,_⟩:=p;exact Heap.lt_size e
 have p':s.heap.IsList l its.toArray:=by
  obtain⟨o,n,e,e2,_,e3⟩:=p;exact⟨o,e,e2,⟨n,e3⟩⟩
 have np:0<ns.length:=List.length_pos_iff.mpr hne;refine call_min_walk (wpAny_pyIter_list p' ?_);refine⟨s.heap.objs.size,_,_,_,_,_,λi j=>decide (ns.getD i 0<ns.getD j 0),rfl,Walks.list (show X.A.in1.handled=none from I.ok.hd hc) s.heap.objs.size l (Nat.ne_of_lt ha) its.toArray,⟨⟨_,Heap.get?_push_size _ rfl,rfl,rfl⟩,p'.push _⟩, ?_, ?_, ?_, ?_⟩
 ·intro b hb;show b<(s.heap.push _).objs.size;rw[Heap.size_push];simp only[List.mem_cons,List.not_mem_nil,or_false]at hb;rcases hb with rfl | rfl
  ·exact Nat.lt_succ_self _
  ·exact Nat.lt_succ_of_lt ha
 ·rw[List.size_toArray,il];exact np
 ·refine CmpOf.ints_lt (λi=>ns.getD i 0) λi v hv=>?_;have hv':its[i]? = some v:=by simpa using hv
  obtain⟨hi,e⟩:=List.getElem?_eq_some_iff.mp hv';obtain⟨n,t,e1,e2⟩:=vI i1 hi;exact⟨t,by rw[<-e,e2,List.getD_eq_getElem?_getD,e1];rfl⟩
 ·intro v h' tk hv k;have sz:its.toArray.size=ns.length:=by rw[List.size_toArray,il]
  rw[sz]at hv;obtain⟨b1,b2⟩:=least_is ns (ns.length-1) (by omega);generalize argBest (λi j=>decide (ns.getD i 0<ns.getD j 0)) (ns.length-1)=i at hv b1 b2;have hv':its[i]? = some v:=by simpa using hv
  obtain⟨hi,e⟩:=List.getElem?_eq_some_iff.mp hv';obtain⟨n,t,e1,e2⟩:=vI i1 hi;have en:ns.getD i 0=n:=by rw[List.getD_eq_getElem?_getD,e1];rfl
  refine⟨.int n,H,I.kept (t':=tk) (λb o e=>k b o ?_ (Heap.get?_push_of_some _ e)),⟨t,by rw[<-e,e2]⟩,q1 n (List.mem_of_getElem? e1) λx hx=>?_⟩
  ·simp;exact Nat.ne_of_lt (Heap.lt_size e)
  ·obtain⟨j,hj⟩:=List.mem_iff_getElem?.mp hx;have hjl:=(List.getElem?_eq_some_iff.mp hj).1;have:=b2 j (by omega);rw[en,List.getD_eq_getElem?_getD,hj]at this;exact this
noncomputable def rInN(K:PySem.W.Frag):R2:=λx y H Q=>∃(p:Addr) (xs:List V),x=.non/\y=.ref p/\SqL K H p xs/\(∀z∈xs,z=.non∨∃a ds,z=.ref a/\DecV H z (.tuple ds)/\DataOk (.tuple ds))/\Q (.bl (xs.any λz=>decide (z=.non))) H
noncomputable def isN:Value->Bool
 | .none=>true
 | _=>false
theorem any_isN{H:Hp} :∀{xs:List V} {us:List Value},Vals xs us->(∀z∈xs,z=.non∨∃a ds,z=.ref a/\DecV H z (.tuple ds)/\DataOk (.tuple ds))->us.any isN=xs.any λz=>decide (z=.non)
 | _,_,.nil,_=>rfl
 | _,_,.cons (a:=x) r t,h=>by
  rw[List.any_cons,List.any_cons,any_isN t λz hz=>h z (List.mem_cons_of_mem _ hz)]
  congr 1
  rcases h x (List.mem_cons_self ..)with rfl | ⟨a,ds,rfl,_⟩
  ·cases r;rfl
  ·cases r;rfl
theorem eq_isN{pins:List (Addr×Obj)}{σ:L2.St}{H:Hp}{s:Shared}(I:Inv X pins σ H s)(hu:X.A.units+64<cLine):∀{xs:List V} {us:List Value},Vals xs us->(∀z∈xs,z=.non∨∃a ds,z=.ref a/\DecV H z (.tuple ds)/\DataOk (.tuple ds))->∀u∈us,SeqAt.EqAt X.A.in1 s u .none (isN u)
 | _,_,.nil,_,u,hu'=>nomatch hu'
 | _,_,.cons (a:=x) r t,h,u,hu'=>by
  rcases List.mem_cons.mp hu' with rfl | hu'
  ·rcases h x (List.mem_cons_self ..)with rfl | ⟨a,ds,rfl,d,ok⟩
   ·cases r;exact SeqAt.EqAt.same _
   ·obtain⟨as,ra⟩:=d.reads I r;cases r;have:=SeqAt.eqAt_reads (.tuple ds) .none X.A.in1 s (.ref a) .none as _ ra .none ok.1 rfl (by
     have:=ok.2;show X.A.units+1+min _ _<cLine;omega)
    exact this
  ·exact eq_isN I hu t (λz hz=>h z (List.mem_cons_of_mem _ hz)) u hu'
theorem op_inN(hu:X.A.units+64<cLine):OpR X (compareOp .In) (rInN X.K):=by
 intro pins s σ H x y v u Q I rx ry h;obtain⟨p,xs,rfl,rfl,hq,hz,q⟩:=h;cases rx;cases ry;obtain⟨its,r,pl,_⟩:=I.list hq;refine SeqAt.in_listAt isN pl.isList (λw hw=>eq_isN I hu r hz w (by simpa using hw)) ⟨.bl _,H,I,rfl, ?_⟩;rw[show its.toArray.any isN=its.any isN by simp,any_isN r hz];exact q
end
theorem for_zipL{K:PySem.W.Frag}{a b:Addr}{xs ys:List V}{g:TG}{tb:TS}{D:Ends}{σ:L2.St}{H:Hp}(Pv:Nat->L2.St->Hp->Prop)(le:ys.length<=xs.length)(h0:Pv 0 σ H)(hl:∀i σ H,i<=ys.length->Pv i σ H->SqL K H a xs/\SqL K H b ys)
  (hs:∀i x y p σ H,xs[i]? = some x->ys[i]? = some y->H p=none->Pv i σ H->g (.ref p) σ (upd H p (.tup [x,y])) fun σ2 H2=>tb { D with nx:=Pv (i+1),ct:=Pv (i+1),bk:=D.nx } σ2 H2) (hd:∀σ H,Pv ys.length σ H->D.nx σ H) :
  ∃W:Nat->Nat->L2.St->Hp->Prop,(∃m,W 0 m σ H)/\∀i m σ H,W i m σ H->
   ((ItzL K a b).stop i H/\D.nx σ H)∨((ItzL K a b).go i H/\∃N:L2.St->Hp->Prop,(∀σ' H',N σ' H'->∃m',m'<m/\W (i+1) m' σ' H')/\∀x H',(ItzL K a b).yld i H x H'->g x σ H' fun σ2 H2=>tb { D with nx:=N,ct:=N,bk:=D.nx } σ2 H2):=by
 refine⟨λi m σ H=>m=ys.length-i/\i<=ys.length/\Pv i σ H,⟨ys.length,by simp,Nat.zero_le _,h0⟩, ?_⟩;rintro i m σ H ⟨rfl,hi,p⟩;obtain⟨q1,q2⟩:=hl i σ H hi p;by_cases hlt:i<ys.length
 ·have hx:i<xs.length:=by omega
  refine .inr ⟨⟨xs,ys,xs[i],ys[i],q1,q2,by simp [hx],by simp [hlt]⟩,Pv (i+1),fun σ' H' p'=>⟨ys.length-(i+1),by omega,rfl,hlt,p'⟩,λv H' y=>?_⟩;obtain⟨r,x,y',hr,rfl,rfl,e1,e2⟩:=y;exact hs i x y' r σ H (e1 xs q1) (e2 ys q2) hr p
 ·have ei:i=ys.length:=by omega
  subst ei;exact .inl ⟨⟨xs,ys,q1,q2,.inr (Nat.le_refl _)⟩,hd σ H p⟩
end Lw
namespace Lw
open PySem PySem.Spec PyProof.Rows L2
theorem lri_no_len:typeLookup (.type "list_reverseiterator") "__len__" = pure none:=by rw[typeLookup_type,builtinLookup_eq_fast];kernel_rfl
theorem lri_hint:typeLookup (.type "list_reverseiterator") "__length_hint__" = pure (some (.builtin "list_reverseiterator.__length_hint__")):=by rw[typeLookup_type,builtinLookup_eq_fast];kernel_rfl
section
variable{prog:Program}{w:World}{A:Around}{E:Value->Shared->Prop}{s:Shared}
theorem hint_rev{it l:Addr}{i:Int}{Q:Bool->Shared->Prop}(hit:s.heap.IsRevIter it l i)(h:Q false s):wpAny (model prog w) A (Builtin.List.listLengthHint (.ref it)) Q E s:=by
 unfold Builtin.List.listLengthHint;refine wpAny_bind (wpAny_specialOf hit.typeIs lri_no_len ?_);show wpAny _ A (specialOf (Value.ref it) (Str.ofString "__length_hint__") >>= _) _ _ _;refine wpAny_bind (wpAny_specialOf hit.typeIs lri_hint ?_);generalize hid:("list_reverseiterator.__length_hint__" :String)=id0
 wp_delta
 rw[show splitId id0=some ("list_reverseiterator","__length_hint__")from by subst hid;decide +kernel];subst hid;refine wpAny_bind (wpAny_isInstance (T:="list_reverseiterator") (b:=true) hit.typeIs (by rw[isSubtype_type];kernel_rfl) ?_);refine wpAny_ite_split (λhab=>absurd hab (by decide)) (λ_=>?_);refine wpAny_ite_split (λ_=>?_) (λhab=>absurd (by decide +kernel) hab);refine wpAny_ite_split (λhab=>absurd hab (by decide +kernel)) (λ_=>?_);exact wpAny_pure h
theorem extend_rev{R:Result->Shared->Prop}{it l:Addr}{items:Array Value}(hh:A.handled=none)(hne:l≠it)(hit:s.heap.IsRevIter it l ((items.size:Int)-1))(hl:s.heap.IsList l items)(S:Addr)(res:Value)(c₀:Nat)(hSf:S∉[it,l])(hz:items.size<=sizeLine)
  (hS:s.heap.get? S=some { cls:=.type "list",data:=.seq #[] c₀ })
  (hR:∀h' tk acc' c',(∀b o,b≠S->b≠it->s.heap.get? b=some o->h'.get? b=some o)->h'.get? S=some { cls:=.type "list",dict:=none,data:=.seq acc' c',slots:=#[] }->ItemsOf (λi v=>items[items.size-1-i]? = some v) acc' items.size->R (.ok (.ret res)) { s with heap:=h',toks:=tk }) :
  wpAny (model prog w) A.in1 (Builtin.List.listExtendWith (.ref S) (.ref it) res)
   (λfin s'=>match fin with | .done f=>R (.ok f) s' | .again c'=>c'.quiet=true/\codeAny (model prog w) A c' R s') (λe s'=>R (.error e) s') s:=by
 have W:=(Walks.listRev (prog:=prog) (w:=w) (A:=A.in1) hh it l hne items).toS;have hSI:S≠it:=λe=>hSf (by rw[e];exact List.mem_cons_self ..);unfold Builtin.List.listExtendWith;refine wpAny_bind (wpAny_typeOf hit.typeIs ?_);have h1:Builtin.List.listSameRef (.ref S) (.ref it)=false:=by simp [Builtin.List.listSameRef,hSI]
 have h2:(Value.type "list_reverseiterator"==Value.type "list")=false:=by decide
 have h3:(Value.type "list_reverseiterator"==Value.type "tuple")=false:=by decide
 simp only[h1,h2,h3,Bool.or_false,Bool.false_eq_true,if_false];refine wpAny_bind (wpAny_pyIter_revIter hit ?_);refine wpAny_bind (wpAny_holding (hint_rev hit ?_));refine wpAny_ite_split (λhab=>absurd hab (by decide +kernel)) (λ_=>wpAny_pure ⟨plainId_quiet F.plain_extend_loop _, ?_⟩);refine codeAny_extend_loopS W hz S hSf res items.size 0 _ #[] c₀ rfl (Nat.zero_le _) ⟨Nat.zero_le _,by simpa using hit,hl⟩ hS (ItemsOf.nil _) λs' acc' c' hm hS' hacc=>?_;rw[Moved.eq_with hm];refine hR s'.heap s'.toks acc' c' (λb o hb hb2 e=>hm.heap b o (λhmem=>?_) e) hS' hacc;rcases List.mem_cons.mp hmem with e' | hmem
 ·exact hb e'
 ·exact hb2 (List.mem_singleton.mp hmem)
theorem init_rev{R:Result->Shared->Prop}{it l:Addr}{items:Array Value}(hh:A.handled=none)(hne:l≠it)(hit:s.heap.IsRevIter it l ((items.size:Int)-1))(hl:s.heap.IsList l items)(S:Addr)(hSf:S∉[it,l])(hz:items.size<=sizeLine)
  (hS:s.heap.get? S=some { cls:=.type "list",data:=.seq #[] })
  (hR:∀h' tk acc' c',(∀b o,b≠S->b≠it->s.heap.get? b=some o->h'.get? b=some o)->h'.get? S=some { cls:=.type "list",dict:=none,data:=.seq acc' c',slots:=#[] }->ItemsOf (λi v=>items[items.size-1-i]? = some v) acc' items.size->R (.ok (.ret .none)) { s with heap:=h',toks:=tk }) :
  wpAny (model prog w) A.in1 (Builtin.«list.__init__» ⟨[.ref S,.ref it],[]⟩)
   (λfin s'=>match fin with | .done f=>R (.ok f) s' | .again c'=>c'.quiet=true/\codeAny (model prog w) A c' R s') (λe s'=>R (.error e) s') s:=by
 show wpAny _ _ (do let old<-Builtin.List.listItems (.ref S);Builtin.List.listUpdate (.ref S) (λ_=>#[]);letGo old.toList.reverse;Builtin.List.listExtendWith (.ref S) (.ref it) .none) _ _ s;refine wpAny_bind ?_;unfold Builtin.List.listItems;refine wpAny_bind (wpAny_seqItems hS rfl (wpAny_pure ?_));show wpAny _ _ (updateSeq S (λ_=>#[]) >>= λ_=>letGo (#[]:Array Value).toList.reverse >>= λ_=>Builtin.List.listExtendWith (.ref S) (.ref it) .none) _ _ s;refine wpAny_bind (wpAny_updateSeq hS rfl ?_);have hS₂:=Heap.get?_update_self (Obj.mapSeq (λ_=>(#[]:Array Value))) hS rfl;have oth:∀b o,b≠S->s.heap.get? b=some o->(s.heap.update S (Obj.mapSeq (λ_=>(#[]:Array Value)))).get? b=some o:=λb o hb e=>(Heap.get?_update_other _ _ (Ne.symm hb)).trans e;have nI:it≠S:=λe=>hSf (by rw[e];exact List.mem_cons_self ..);have nl:l≠S:=λe=>hSf (by rw[e];exact List.mem_cons_of_mem _ (List.mem_cons_self ..));refine wpAny_bind (wpAny_letGo ?_);refine extend_rev hh hne (hit.at λo e=>oth _ o nI e) (hl.at λo e=>oth _ o nl e) S .none _ hSf hz hS₂ λh' tk acc' c' hk hS' hacc=>?_;exact hR h' tk acc' c' (λb o hb hb2 e=>hk b o hb hb2 (oth b o hb e)) hS' hacc
theorem mS{Q:Value->Shared->Prop}{it l:Addr}{items:Array Value}(hh:A.handled=none)(hne:l≠it)(hit:s.heap.IsRevIter it l ((items.size:Int)-1))(hl:s.heap.IsList l items)(hz:items.size<=sizeLine)
  (hQ:∀h' tk acc' c',(∀b o,b≠it->s.heap.get? b=some o->h'.get? b=some o)->h'.get? s.heap.objs.size=some { cls:=.type "list",dict:=none,data:=.seq acc' c',slots:=#[] }->ItemsOf (λi v=>items[items.size-1-i]? = some v) acc' items.size->Q (.ref s.heap.objs.size) { s with heap:=h',toks:=tk }) :
  wpAny (model prog w) A (call (.type "list") [.ref it]) Q E s:=by
 refine callType_codes (Q₁:=λobj s₁=>obj=.ref s.heap.objs.size/\s₁ = { s with heap:=s.heap.push { cls:=.type "list",data:=.seq #[] } }) F.called_list (F.typeCall_list_1 _) F.entry_list_init
  (code_list_new _ ⟨rfl,rfl⟩) λobj s₁ h₁=>?_
 obtain⟨rfl,rfl⟩:=h₁;have hS:(s.heap.push { cls:=.type "list",data:=.seq #[] }).get? s.heap.objs.size=some { cls:=.type "list",data:=.seq #[] } :=Heap.get?_push_size _ rfl;obtain⟨oi,hoi,_⟩:=id hit;obtain⟨ol,hol,_⟩:=id hl;have ni:it<s.heap.objs.size:=Heap.lt_size hoi;have nl:l<s.heap.objs.size:=Heap.lt_size hol;have hSf:s.heap.objs.size∉[it,l]:=λhm=>by
  rcases List.mem_cons.mp hm with e | hm
  ·rw[<-e]at ni;exact Nat.lt_irrefl _ ni
  ·rw[<-List.mem_singleton.mp hm]at nl;exact Nat.lt_irrefl _ nl
 refine⟨⟨_,hS,rfl⟩,F.args_list_init_2 _ _,init_rev (A:=A.in1) (show A.in1.handled=none from hh) hne (hit.at λo e=>Heap.get?_push_of_some _ e) (hl.at λo e=>Heap.get?_push_of_some _ e) _ hSf hz hS λh' tk acc' c' hk hS' hacc=>⟨rfl, ?_⟩⟩;refine hQ h' tk acc' c' (λb o hb e=>hk b o (λz=>?_) hb (Heap.get?_push_of_some _ e)) hS' hacc;rw[z]at e;exact Nat.lt_irrefl _ (Heap.lt_size e)
end
theorem rev_items{items acc:Array Value}(h:ItemsOf (λi v=>items[items.size-1-i]? = some v) acc items.size):acc.toList=items.toList.reverse:=by
 refine List.ext_getElem? λi=>?_;by_cases hi:i<items.size
 ·have ha:i<acc.size:=by rw[h.1];exact hi
  have e:=h.2 i acc[i] (Array.getElem?_eq_getElem ha);rw[Array.getElem?_toList,Array.getElem?_eq_getElem ha,List.getElem?_reverse (by simpa using hi),Array.length_toList,Array.getElem?_toList];exact e.symm
 ·rw[List.getElem?_eq_none (by rw[Array.length_toList,h.1];omega),List.getElem?_eq_none (by rw[List.length_reverse,Array.length_toList];omega)]
section
variable{X:Cx}
noncomputable def tRevL(K:PySem.W.Frag)(ta:TA):TE:=fun σ H Q=>ta σ H λvs H1=>∃a xs,vs=[.ref a]/\SqL K H1 a xs/\New H1 (.lst xs.reverse) Q
theorem pe_revL{a:Expr}{ta:TA}{p p2 pos pos2:Pos}(hc:X.calm=true)(hg:Gl X "list")(hm:X.mg "list" = none)(hg2:Gl X "reversed")(hm2:X.mg "reversed" = none)(ha:PA X [a] ta)(hs:starEach [a] X.env=[(false,eval a X.env)]:=by rfl)(hs2:starEach [.Call (.Name "reversed" p2) [a] [] pos2] X.env=[(false,eval (.Call (.Name "reversed" p2) [a] [] pos2) X.env)]:=by rfl) :
  PE X (.Call (.Name "list" p) [.Call (.Name "reversed" p2) [a] [] pos2] [] pos) (tRevL X.K ta):=by
 intro pins s σ H Q I h;refine wpAny_Call_Name_kw (xA I hg hm (show bootBuiltins "list" = some (.type "list") by decide +kernel) ?_ (by decide) (by decide));refine PyProof.Rows.callWith_type1 ?_ hs2 rfl;rw[hs2];show wpAny _ _ (spliced ((false,eval (.Call (.Name "reversed" p2) [a] [] pos2) X.env)::backTo pos [])) _ _ s;refine Calls.spliced_cons ?_;refine wpAny_Call_Name_kw (xA I hg2 hm2 (show bootBuiltins "reversed" = some (.type "reversed") by decide +kernel) ?_ (by decide) (by decide));refine PyProof.Rows.callWith_type1 (thn (ha pos2 pins s σ H _ I h) λus s1 ⟨vs,H1,I1,r1,q1⟩=>?_) hs rfl;obtain⟨l,xs,e,hl,q⟩:=q1;subst e;obtain⟨u,rfl,ru⟩:=vQ r1;cases ru;obtain⟨its,rv,pl,hz⟩:=I1.list hl;have hll:l<s1.heap.objs.size:=by
  obtain⟨o,n,e,_⟩:=pl;exact Heap.lt_size e
 refine call_reversed_list pl.isList ?_;refine Calls.spliced_nil ?_;have sz:its.toArray.size=xs.length:=by rw[List.size_toArray];exact rv.length.symm
 have psz:(s1.heap.push (revObj l ((its.toArray.size:Int)-1))).objs.size=s1.heap.objs.size+1:=Heap.size_push ..;refine mS (I1.ok.hd hc) (Nat.ne_of_lt hll) (⟨_,Heap.get?_push_size _ rfl,rfl,rfl⟩:Heap.IsRevIter _ _ l ((its.toArray.size:Int)-1)) (pl.isList.at λo e=>Heap.get?_push_of_some _ e) (by rw[sz];exact hz) λh' tk acc' c' hk hS' hacc=>?_;have n:H1 (s1.heap.push (revObj l ((its.toArray.size:Int)-1))).objs.size=none:=I1.hok.fresh (by rw[psz];exact Nat.le_succ _);have rr:=rev_items hacc;rw[List.toList_toArray]at rr;refine⟨.ref _,_,I1.laid (t':=tk) (o:=.lst xs.reverse) (λb ob q=>hk b ob (λz=>?_) (Heap.get?_push_of_some _ q)) (by rw[psz];exact Nat.le_succ _) ?_,rfl,q _ _ n (Lw.kH _ n) jK⟩
 ·rw[z]at q;exact Nat.lt_irrefl _ (Heap.lt_size q)
 ·refine⟨by rw[List.length_reverse];exact hz,its.reverse,c',xS rv, ?_⟩;rw[<-rr,Array.toArray_toList];exact hS'
end
end Lw
namespace Lw
open PySem PySem.Spec PyProof.Rows L2
noncomputable def Tape(cl:Addr)(H:Hp)(tp:Addr)(B:Int):Prop:=∃(ns:List Int) (spot rest left:Int),H tp=some (.lst [.ref cl,.int spot,.int rest,.int left])/\H cl=some (.lst (ns.map V.int))/\ns.length<=63/\0<=spot/\spot<=B
theorem Tape.mono{cl:Addr}{H H':Hp}{tp:Addr}{B B':Int}(e:Same H H')(hB:B<=B')(h:Tape cl H tp B):Tape cl H' tp B':=by
 obtain⟨ns,spot,rest,left,h1,h2,h3,h4,h5⟩:=h;exact⟨ns,spot,rest,left,e _ _ h1,e _ _ h2,h3,h4,by omega⟩
noncomputable def spGcd:Sp:=λvs H Q _=>∃a b:Int,vs=[.int a,.int b]/\0<b/\b.natAbs<2^8000/\Q (.int (Int.gcd a b)) H
noncomputable def spDraw:Sp:=λvs H Q _=>∃(tp:Addr) (many B:Int),vs=[.ref tp,.int many]/\∃cl,Tape cl H tp B/\B<2^40/\0<many/\many<2^100/\
 ∀(r:Int) (H':Hp),0<=r->r<many->Tape cl H' tp (B+1)->But tp H H'->Q (.int r) H'
noncomputable def lowT(t b:Int):Int:=(if b<0 then 0-t else t)/(Int.gcd t b:Int)
noncomputable def lowB(t b:Int):Int:=(if b<0 then 0-b else b)/(Int.gcd t b:Int)
noncomputable def LowFit(t b:Int):Prop:=b.natAbs<2^8000∨(t.natAbs<2^13400/\b.natAbs<2^13400)
noncomputable def spLow:Sp:=λvs H Q _=>∃t b:Int,vs=[.int t,.int b]/\b≠0/\LowFit t b/\
 ∀(p:Addr) (H':Hp),H p=none->Same H H'->H' p=some (.tup [.int (lowT t b),.int (lowB t b)])->Q (.ref p) H'
noncomputable def spLaw(K:PySem.W.Frag):Sp:=λvs H Q _=>∃(a:Addr) (ns:List Int),vs=[.ref a]/\SqL K H a (ns.map V.int)/\ns.length<=63/\∀H',Q (.bl true) H'
structure Txt(mg:Str->Option Value):Prop where
 isi:mg "isinstance" = none
 len:mg "len" = none
 int:mg "int" = none
 bool:mg "bool" = none
 tup:mg "tuple" = none
 lst:mg "list" = none
 str:mg "str" = none
 abs:mg "abs" = none
 rng:mg "range" = none
 lbits:∃t,mg "LONG_BITS" = some (.int 8000 t)
 sum:mg "sum" = none
 zip:mg "zip" = none
 sorted:mg "sorted" = none
 max:mg "max" = none
 enum:mg "enumerate" = none
 rev:mg "reversed" = none
 all:mg "all" = none
 dct:mg "dict" = none
 any:mg "any" = none
 min:mg "min" = none
structure Df(K:PySem.W.Frag)(mg:Str->Option Value)(x:Str)(st:Stmt)(ps:List Str)(f:Addr)(fd:FuncData):Prop where
 F:Fun K x x st f fd
 b:Binds K fd ps []
 m:mg x=some (.ref f)
section
variable{P:Program}{w:World}{K:PySem.W.Frag}{mg:Str->Option Value}{base:Heap}{f fd:_}
theorem scGcd:FnScope ["one","other"] ["one","other"] (jO sGcd):=⟨rfl,rfl,rfl,by decide +kernel,rfl,by decide +kernel,by decide +kernel⟩
theorem mt_bits{X:Cx} :MtR X "int.bit_length" (λx xs H Q=>∃i:Int,x=.int i/\xs=[]/\Q (.int (Builtin.Int.intBits i:Nat)) H):=by
 intro pins s σ H x xs v us Q I rx rs q;obtain⟨i,rfl,rfl,q⟩:=q;obtain⟨t,rfl⟩:=rx;cases rs;exact call_int_bit_length ⟨.int (Builtin.Int.intBits i:Nat),H,I.tok _,⟨_,rfl⟩,q⟩
theorem ok_gcd(F:Fun K "greatest_divisor" "greatest_divisor" sGcd f fd)(T:Txt mg):FnOk P w K mg base CX0 1 f fd ["one","other"] spGcd:=by
 obtain⟨tl,hl⟩:=T.lbits;refine F.ok scGcd (λvs H Q E h=>?_) (λcdv A outer s H vs Q E hr h=>?_)
 ·obtain⟨a,b,rfl,_⟩:=h
  rfl
 ·obtain⟨a,b,rfl,hb,hs,k⟩:=h;refine⟨_,jB (ps_while PassesOwn.never (jR uM (pv 1) jD (jS _))
    (jF (jX (jR wM (pe_bm0 PySem.F.plainAttrs_int slot_int_bit_length type_int_bit_length mt_bits (pv 1)) (pe_glob (v:=.int 8000) (by rfl) hl ⟨_,rfl⟩) (jS _)) uE
     (jF (ps_par (i:=0) (j:=1) rfl scGcd.nd rfl rfl (by decide) rfl rfl (jA (pv 1) (jA (jJ vR (pv 0) (pv 1)) jC)) rfl)))))
   (jF (jN (pv 0))), ?_⟩
  refine while_by (fun σ H1=>H1=H/\∃p q:Int,σ=[some (.int p),some (.int q)]/\0<=q/\(0<q∨0<=p)/\q.natAbs<2^8000/\Int.gcd p q=Int.gcd a b)
   (fun σ _=>match σ with | [_,some (.int q)]=>q.toNat | _=>0) ⟨rfl,a,b,rfl,by omega,.inl hb,hs,rfl⟩ ?_ ?_
  ·rintro σ H1 ⟨rfl,p,q,rfl,h0,h1,hq8,h2⟩;refine⟨_,rfl,rfl,_,rfl, ?_⟩;refine ite2 (λe=>?_) (λe=>?_)
   ·have hq:0<q:=by
     have:q≠0:=λz=>by simp [z]at e
     omega
    have hbits:(Builtin.Int.intBits q)<=8000:=PySem.intBits_le_iff.mpr hq8;refine⟨_,rfl,rfl,_,rfl,rfl,_,_,rfl,rfl,_,rfl,iteN (decide_eq_false (by omega)) ?_⟩;refine⟨_,rfl,_,rfl,_,rfl,_,_,rfl,rfl,hq,_,_,rfl, ?_⟩;have m1:=Int.emod_nonneg p (b:=q) (by omega);have m2:=Int.emod_lt_of_pos p hq;have m3:(p%q).natAbs<=q.natAbs:=by omega
    refine⟨⟨rfl,q,p%q,rfl,m1,.inr h0,Nat.lt_of_le_of_lt m3 hq8,(LwM.gcd_step p q).trans h2⟩, ?_⟩;show(p%q).toNat<q.toNat;omega
   ·have hq:q=0:=by
     by_cases z:q=0
     ·exact z
     ·exact absurd (by simp [z]) e
    subst hq;refine⟨_,rfl, ?_⟩;have:p=((Int.gcd a b:Nat):Int):=by
     rw[<-h2,Int.gcd_zero_right];omega
    rw[this];exact k
  ·rintro σ H1 Q1 Q2 hQ ⟨v,e,hs,k',ek,q⟩;exact⟨v,e,hs,k',ek,hQ _ _ q⟩
theorem scLow:FnScope ["top","bottom","one","other"] ["top","bottom"] (jO sLow):=⟨rfl,rfl,rfl,by decide +kernel,rfl,by decide +kernel,by decide +kernel⟩
theorem uG(F:Fun K "_law_low" "_law_low" sLow f fd)(T:Txt mg):FnOk P w K mg base CX0 1 f fd ["top","bottom"] spLow:=by
 refine F.ok scLow (λvs H Q E h=>?_) (λcdv A outer s H vs Q E hr h=>?_)
 ·obtain⟨t,b,rfl,_⟩:=h
  rfl
 ·obtain⟨t,b,rfl,hb,hs,k⟩:=h;refine⟨_,jB (jX (jR xZ (pv 1) jD (jS _)) (jF (ps_par (i:=0) (j:=1) rfl scLow.nd rfl rfl (by decide) rfl rfl (jA (jJ qB jD (pv 0)) (jA (jJ qB jD (pv 1)) jC)) rfl)) jP)
   (jB (jI (i:=2) scLow.nd rfl (Or.inl rfl) (kA mO (by rfl) T.abs boot_abs (jA (pv 0) jC)))
   (jB (jI (i:=3) scLow.nd rfl (Or.inl rfl) (pv 1))
   (jB (ps_while PassesOwn.never (jR wM (pv 2) jD (jS _)) (jF (ps_par (i:=2) (j:=3) rfl scLow.nd rfl rfl (by decide) rfl rfl (jA (jJ vR (pv 3) (pv 2)) (jA (pv 2) jC)) rfl)))
   (jF (jN (pe_tup (jA (jJ LwD.op_fdivP (pv 0) (pv 3)) (jA (jJ LwD.op_fdivP (pv 1) (pv 3)) jC)))))))), ?_⟩
  refine⟨_,rfl,_,_,rfl,rfl,_,rfl, ?_⟩;have fin:∀t' b':Int,0<b'->(∀q:Int,0<q->q<=b'->LwD.CDivP t' q/\LwD.CDivP b' q)->t'=(if b<0 then 0-t else t)->b'=(if b<0 then 0-b else b)->Int.gcd t' b'=Int.gcd t b->
    (tSeq (tAsg (tCB (λxs H Q=>∃i,xs=[V.int i]/\Q (.int (if i<0 then -i else i)) H) (kT (tVar 0) tNil)) (kN 2)) (tSeq (tAsg (tVar 1) (kN 3)) (tSeq (tWhile (tTest (tOp (rI0 λi j=>V.bl (decide (j<i))) (tVar 2) (tC (.int 0)))) (tPar 2 3 (kT (tOp (rI (λ_ j=>0<j) λi j=>.int (i%j)) (tVar 3) (tVar 2)) (kT (tVar 2) tNil)))) (tRet (tTup (kT (tOp (rI LwD.CDivP λi j=>.int (i/j)) (tVar 0) (tVar 3)) (kT (tOp (rI LwD.CDivP λi j=>.int (i/j)) (tVar 1) (tVar 3)) tNil))))))) { nx:=λ_ H'=>Q .non H',rt:=Q } [some (.int t'),some (.int b'),none,none] H:=by
   intro t' b' hb' hs' et eb hg;refine⟨_,rfl,_,rfl,_,rfl, ?_⟩;refine while_by (fun σ H1=>H1=H/\∃p q:Int,σ=[some (.int t'),some (.int b'),some (.int p),some (.int q)]/\0<=p/\0<q/\Int.gcd q p=Int.gcd t b)
    (fun σ _=>match σ with | [_,_,some (.int p),_]=>p.toNat | _=>0) ⟨rfl,_,b',rfl,by split<;>omega,hb', ?_⟩ ?_ ?_
   ·rw[<-hg,Int.gcd_comm t'];split
    ·exact Int.gcd_neg
    ·rfl
   ·rintro σ H1 ⟨rfl,p,q,rfl,h0,h1,h2⟩;refine⟨_,rfl,_,_,rfl,rfl,_,rfl, ?_⟩;refine ite2 (λe=>?_) (λe=>?_)
    ·have hp:0<p:=of_decide_eq_true e;refine⟨_,rfl,_,rfl,_,_,rfl,rfl,hp,_,rfl,_,_,rfl, ?_⟩;have m1:=Int.emod_nonneg q (b:=p) (by omega);have m2:=Int.emod_lt_of_pos q hp;refine⟨⟨rfl,q%p,p,rfl,m1,hp,(LwM.gcd_step q p).trans h2⟩, ?_⟩;show(q%p).toNat<p.toNat;omega
    ·have hp:p=0:=by
      have:¬0<p:=λz=>e (decide_eq_true z);omega
     subst hp;have hq:q=((Int.gcd t b:Nat):Int):=by
      rw[<-h2,Int.gcd_zero_right];omega
     have gb:q<=b':=by
      rw[hq,<-hg];exact LwM.gcd_le t' b' hb'
     obtain⟨c1,c2⟩:=hs' q h1 gb;refine⟨_,rfl,_,rfl,_,_,rfl,rfl,c1,_,rfl,_,rfl,_,_,rfl,rfl,c2,(by show 2<=sizeLine;decide), ?_⟩;refine fresh λp H' n s1 e1=>k p H' n s1 ?_;rw[e1,hq,et,eb]
     rfl
   ·rintro σ H1 Q1 Q2 hQ ⟨v,e,i,j,e1,e2,k',ek,q⟩;exact⟨v,e,i,j,e1,e2,k',ek,hQ _ _ q⟩
  have hs2:∀t' b':Int,t'.natAbs=t.natAbs->b'.natAbs=b.natAbs->0<b'->∀q:Int,0<q->q<=b'->LwD.CDivP t' q/\LwD.CDivP b' q:=λt' b' e1 e2 h0 q h1 h2=>by
   rcases hs with hs | ⟨ha,hb2⟩
   ·have hq:q.natAbs<2^8000:=Nat.lt_of_le_of_lt (by omega) hs;exact⟨LwD.cdivp_of ⟨h1,hq⟩,LwD.cdivp_of ⟨h1,hq⟩⟩
   ·exact⟨LwD.mL h1 (Nat.le_refl _) (by rw[e1];exact ha),LwD.mL h1 (Nat.le_refl _) (by rw[e2];exact hb2)⟩
  by_cases n:b<0
  ·refine iteP (decide_eq_true n) ?_;refine⟨_,rfl,_,_,rfl,rfl,_,rfl,_,_,rfl,rfl,_,_,rfl, ?_⟩;refine fin (0-t) (0-b) (by omega) (hs2 _ _ (by omega) (by omega) (by omega)) (by rw[if_pos n]) (by rw[if_pos n]) ?_;rw[Int.zero_sub,Int.zero_sub,Int.neg_gcd,Int.gcd_neg]
  ·refine iteN (decide_eq_false n) ?_;exact fin t b (by omega) (hs2 _ _ rfl rfl (by omega)) (by rw[if_neg n]) (by rw[if_neg n]) rfl
theorem uV{t b:Int}(h:0<b):lowT t b=t/(Int.gcd t b:Int)/\lowB t b=b/(Int.gcd t b:Int):=by
 unfold lowT lowB;rw[if_neg (by omega),if_neg (by omega)];exact⟨rfl,rfl⟩
theorem at_ints{ns:List Int}{i:Int}(h0:0<=i)(h1:i<ns.length):∃c:Int,atI (ns.map V.int) i=some (.int c):=by
 obtain⟨j,rfl⟩:=Int.eq_ofNat_of_zero_le h0;have hj:j<ns.length:=by omega
 exact⟨ns[j],xR (by simp [hj])⟩
theorem scDraw:FnScope ["tape","many","spot","cell","some","rest"] ["tape","many"] (jO yL):=⟨rfl,rfl,rfl,by decide +kernel,rfl,by decide +kernel,by decide +kernel⟩
theorem uT(F:Fun K "_law_draw" "_law_draw" yL f fd)(T:Txt mg):FnOk P w K mg base CX0 1 f fd ["tape","many"] spDraw:=by
 refine F.ok scDraw (λvs H Q E h=>?_) (λcdv A outer s H vs Q E hr h=>?_)
 ·obtain⟨tp,many,B,rfl,_⟩:=h
  rfl
 ·obtain⟨tp,many,B,rfl,cl,⟨ns,spot,rest,left,h1,h2,h3,h4,h5⟩,hB,hm,hm2,k⟩:=h;have hne:cl≠tp:=by
   rintro rfl;rw[h1]at h2;injection h2 with h2
   injection h2 with h2
   cases ns with
   | nil=>cases h2
   | cons n r=>injection h2 with z;cases z
  refine⟨_,jB (jX (jR qP (jT kQ (pv 0) jD (λ_ _=>rfl)) jD (jS _))
    (jB (jI (i:=2) scDraw.nd rfl (Or.inl rfl) (jT kQ (pv 0) jD (λ_ _=>rfl)))
    (jB (qC (jJ kM (pv 2) jD) (xT (pv 0) jD qS))
    (jB (jI (i:=3) scDraw.nd rfl (Or.inl rfl) jD)
    (jB (jX (jR wM (kA kD (by rfl) T.len PySem.boot_len (jA (jT kQ (pv 0) jD (λ_ _=>rfl)) jC)) jD (jS _))
     (jF (jI (i:=3) scDraw.nd rfl (Or.inl rfl) (jT kQ (jT kQ (pv 0) jD (λ_ _=>rfl)) (jJ vR (pv 2) (kA kD (by rfl) T.len PySem.boot_len (jA (jT kQ (pv 0) jD (λ_ _=>rfl)) jC))) (λ_ _=>rfl)))) jP)
    (jB (jX (PW.pt (xW (jR op_ge (pv 2) (kA kD (by rfl) T.len PySem.boot_len (jA (jT kQ (pv 0) jD (λ_ _=>rfl)) jC)) (jS _)) (vY (jR xZ (pv 3) (jJ op_pow jD jD) (jS _)))))
     (jB (jI (i:=4) scDraw.nd rfl (Or.inl rfl) (jJ kM (jJ kM (jJ vR (jJ zU (pv 2) (pv 2)) jD) (jJ zU jD (pv 2))) jD))
     (jB (jI (i:=4) scDraw.nd rfl (Or.inl rfl) (jJ vR (jJ zU (jJ kM (jJ vR (pv 3) jD) jD) (pv 4)) jD))
     (jF (jN (jJ vR (jJ vR (jJ kM (jJ op_fdiv (jJ vR (jJ zU (pv 4) (pv 4)) jD) jD) (jJ zU jD (pv 2))) jD) (pv 1)))))) jP)
    (jB (qC (jJ qB (pv 3) (jJ op_pow jD jD)) (xT (pv 0) jD qS))
    (jF (qC jD (xT (pv 0) jD qS))))))))) jP)
   (jB (qC (jJ qB (jT kQ (pv 0) jD (λ_ _=>rfl)) jD) (xT (pv 0) jD qS))
   (jB (jI (i:=5) scDraw.nd rfl (Or.inl rfl) (jT kQ (pv 0) jD (λ_ _=>rfl)))
   (jB (qC (jJ qO (pv 5) (pv 1)) (xT (pv 0) jD qS))
   (jF (jN (jJ vR (pv 5) (pv 1))))))), ?_⟩
  have hmd:many.natAbs<2^8000:=by
   have:many.natAbs<2^100:=by
    have h:((2^100:Nat):Int)=2^100:=by decide
    omega
   exact Nat.lt_of_lt_of_le this (Nat.pow_le_pow_right (by decide) (by decide))
  have tail:∀(spot' rest' left':Int) (a b c d:Option V) (H1:Hp),H1 tp=some (.lst [.ref cl,.int spot',.int rest',.int left'])->But tp H H1->0<=spot'->spot'<=B+1->
    (tSeq (tAsg (tOp (rI0 λi j=>V.int (i-j)) (tOp (rIxL K) (tVar 0) (tC (.int 3))) (tC (.int 1))) (gSub (tVar 0) (tC (.int 3)) rSetL))
     (tSeq (tAsg (tOp (rIxL K) (tVar 0) (tC (.int 2))) (kN 5))
     (tSeq (tAsg (tOp (rI CDivL λi j=>.int (i/j)) (tVar 5) (tVar 1)) (gSub (tVar 0) (tC (.int 2)) rSetL))
     (tRet (tOp (rI (λ_ j=>0<j) λi j=>.int (i%j)) (tVar 5) (tVar 1)))))) { nx:=λ_ H'=>Q .non H',rt:=Q } [some (.ref tp),some (.int many),a,b,c,d] H1:=by
   intro spot' rest' left' a b c d H1 g1 g2 g3 g4;refine⟨_,rfl,tp,_,_,_,rfl,rfl,SqL.of g1,rfl,_,_,rfl,rfl, ?_⟩;refine⟨_,rfl,tp,_,_,_,rfl,rfl,g1,rfl, ?_⟩;refine⟨_,rfl,tp,_,_,_,rfl,rfl,SqL.of jK,rfl, ?_⟩;refine⟨_,rfl,_,rfl,_,_,rfl,rfl,⟨hm,hmd⟩,_,rfl,tp,_,_,_,rfl,rfl,jK,rfl, ?_⟩;refine⟨_,rfl,_,rfl,_,_,rfl,rfl,hm, ?_⟩;refine k _ _ (Int.emod_nonneg _ (by omega)) (Int.emod_lt_of_pos _ hm) ⟨ns,spot',_,_,jK, ?_,h3,g3,g4⟩ ?_
   ·rw[jQ hne,jQ hne];exact g2 _ _ h2 hne
   ·exact(g2.trans (But.upd _ _ _)).trans (But.upd _ _ _)
  refine⟨_,rfl,tp,_,_,_,rfl,rfl,SqL.of h1,rfl,rfl,_,rfl, ?_⟩;by_cases hl:left=0
  ·subst hl;refine iteP (by decide) ?_;refine⟨_,rfl,tp,_,_,_,rfl,rfl,SqL.of h1,rfl, ?_⟩;refine⟨_,rfl,_,_,rfl,rfl,_,rfl,tp,_,_,_,rfl,rfl,h1,rfl, ?_⟩;have T1:∀o,(upd H tp o) cl=some (.lst (ns.map V.int)):=λo=>by
    rw[jQ hne];exact h2
   have mid:∀(cell:Int) (b c:Option V),(tSeq (tIfS (tOr (tTest (tOp (rI0 λi j=>V.bl (decide (j<=i))) (tVar 2) (tCB (λxs H Q=>∃p ys,xs=[V.ref p]/\(SqL K H p ys∨SqT K H p ys)/\Q (.int ys.length) H) (kT (tOp (rIxL K) (tVar 0) (tC (.int 0))) tNil))))
      (tTest (tOp (rI0 λi j=>V.bl (decide (i<j))) (tVar 3) (tOp (rI CPow λi j=>.int (i^j.toNat)) (tC (.int 10)) (tC (.int 18))))))
     (tSeq (tAsg (tOp (rI0 λi j=>V.int (i+j)) (tOp (rI0 λi j=>V.int (i+j)) (tOp (rI (λ_ j=>0<j) λi j=>.int (i%j)) (tOp (rI CMul λi j=>.int (i*j)) (tVar 2) (tVar 2)) (tC (.int 10007))) (tOp (rI CMul λi j=>.int (i*j)) (tC (.int 61)) (tVar 2))) (tC (.int 7))) (kN 4))
     (tSeq (tAsg (tOp (rI (λ_ j=>0<j) λi j=>.int (i%j)) (tOp (rI CMul λi j=>.int (i*j)) (tOp (rI0 λi j=>V.int (i+j)) (tOp (rI (λ_ j=>0<j) λi j=>.int (i%j)) (tVar 3) (tC (.int 999983))) (tC (.int 3))) (tVar 4)) (tC (.int 1000003))) (kN 4))
     (tRet (tOp (rI (λ_ j=>0<j) λi j=>.int (i%j)) (tOp (rI (λ_ j=>0<j) λi j=>.int (i%j)) (tOp (rI0 λi j=>V.int (i+j)) (tOp (rI CDiv λi j=>.int (i/j)) (tOp (rI (λ_ j=>0<j) λi j=>.int (i%j)) (tOp (rI CMul λi j=>.int (i*j)) (tVar 4) (tVar 4)) (tC (.int 999979))) (tC (.int 3))) (tOp (rI CMul λi j=>.int (i*j)) (tC (.int 131)) (tVar 2))) (tC (.int 99991))) (tVar 1)))))
     tNext)
     (tSeq (tAsg (tOp (rI0 λi j=>V.int (i-j)) (tVar 3) (tOp (rI CPow λi j=>.int (i^j.toNat)) (tC (.int 10)) (tC (.int 18)))) (gSub (tVar 0) (tC (.int 2)) rSetL))
     (tAsg (tC (.int 40)) (gSub (tVar 0) (tC (.int 3)) rSetL))))
     { nx:=(tSeq (tAsg (tOp (rI0 λi j=>V.int (i-j)) (tOp (rIxL K) (tVar 0) (tC (.int 3))) (tC (.int 1))) (gSub (tVar 0) (tC (.int 3)) rSetL))
     (tSeq (tAsg (tOp (rIxL K) (tVar 0) (tC (.int 2))) (kN 5))
     (tSeq (tAsg (tOp (rI CDivL λi j=>.int (i/j)) (tVar 5) (tVar 1)) (gSub (tVar 0) (tC (.int 2)) rSetL))
     (tRet (tOp (rI (λ_ j=>0<j) λi j=>.int (i%j)) (tVar 5) (tVar 1)))))) { nx:=λ_ H'=>Q .non H',rt:=Q },rt:=Q } [some (.ref tp),some (.int many),some (.int spot),some (.int cell),b,c] (upd H tp (.lst [.ref cl,.int (spot+1),.int rest,.int 0])):=by
    intro cell b c;have pw:CPow 10 18:=⟨by decide,by decide,by decide⟩;have drawn:(tSeq (tAsg (tOp (rI0 λi j=>V.int (i+j)) (tOp (rI0 λi j=>V.int (i+j)) (tOp (rI (λ_ j=>0<j) λi j=>.int (i%j)) (tOp (rI CMul λi j=>.int (i*j)) (tVar 2) (tVar 2)) (tC (.int 10007))) (tOp (rI CMul λi j=>.int (i*j)) (tC (.int 61)) (tVar 2))) (tC (.int 7))) (kN 4))
     (tSeq (tAsg (tOp (rI (λ_ j=>0<j) λi j=>.int (i%j)) (tOp (rI CMul λi j=>.int (i*j)) (tOp (rI0 λi j=>V.int (i+j)) (tOp (rI (λ_ j=>0<j) λi j=>.int (i%j)) (tVar 3) (tC (.int 999983))) (tC (.int 3))) (tVar 4)) (tC (.int 1000003))) (kN 4))
     (tRet (tOp (rI (λ_ j=>0<j) λi j=>.int (i%j)) (tOp (rI (λ_ j=>0<j) λi j=>.int (i%j)) (tOp (rI0 λi j=>V.int (i+j)) (tOp (rI CDiv λi j=>.int (i/j)) (tOp (rI (λ_ j=>0<j) λi j=>.int (i%j)) (tOp (rI CMul λi j=>.int (i*j)) (tVar 4) (tVar 4)) (tC (.int 999979))) (tC (.int 3))) (tOp (rI CMul λi j=>.int (i*j)) (tC (.int 131)) (tVar 2))) (tC (.int 99991))) (tVar 1))))) { nx:=λ_ _=>False,rt:=Q } [some (.ref tp),some (.int many),some (.int spot),some (.int cell),b,c] (upd H tp (.lst [.ref cl,.int (spot+1),.int rest,.int 0])):=by
     refine⟨_,rfl,_,rfl,_,_,rfl,rfl,.inl ⟨by omega,by omega⟩,_,_,rfl,rfl,(by show(0:Int)<_;decide), ?_⟩;refine⟨_,rfl,_,_,rfl,rfl,.inl ⟨by omega,by omega⟩,_,_,rfl,rfl,_,_,rfl,rfl, ?_⟩;have c1:=Int.emod_nonneg cell (b:=999983) (by decide);have c2:=Int.emod_lt_of_pos cell (b:=999983) (by decide);refine⟨_,rfl,_,_,rfl,rfl,(by show(0:Int)<_;decide),_,_,rfl,rfl,_,rfl,_,_,rfl,rfl,.inl ⟨by omega,by omega⟩,_,_,rfl,rfl,(by show(0:Int)<_;decide), ?_⟩;generalize hx:((cell%999983+3)*(spot*spot%10007+61*spot+7))=x;have d1:=Int.emod_nonneg x (b:=1000003) (by decide);have d2:=Int.emod_lt_of_pos x (b:=1000003) (by decide);refine⟨_,rfl,_,rfl,_,_,rfl,rfl,.inl ⟨by omega,by omega⟩,_,_,rfl,rfl,(by show(0:Int)<_;decide),_,_,rfl,rfl,⟨by decide,by decide⟩, ?_⟩;refine⟨_,rfl,_,_,rfl,rfl,.inl ⟨by decide,by decide⟩,_,_,rfl,rfl,_,_,rfl,rfl,(by show(0:Int)<_;decide),_,rfl,_,_,rfl,rfl,hm, ?_⟩;exact k _ _ (Int.emod_nonneg _ (by omega)) (Int.emod_lt_of_pos _ hm) ⟨ns,spot+1,_,_,jK,T1 _,h3,by omega,by omega⟩ (But.upd _ _ _)
    refine⟨_,rfl,_,rfl,tp,_,_,_,rfl,rfl,SqL.of jK,rfl,cl,_,rfl,.inl (SqL.of (T1 _)),_,_,rfl,rfl,_,rfl, ?_⟩;by_cases z1:((ns.map V.int).length:Int)<=spot
    ·refine iteP (decide_eq_true z1) (iteT ?_);exact drawn
    ·refine iteN (decide_eq_false z1) ?_;refine⟨_,rfl,_,_,rfl,rfl,pw,_,_,rfl,rfl,_,rfl, ?_⟩;by_cases z2:cell<(10:Int)^(18:Int).toNat
     ·refine iteP (decide_eq_true z2) ?_;exact drawn
     ·refine iteN (decide_eq_false z2) ?_;refine⟨_,rfl,_,_,rfl,rfl,pw,_,_,rfl,rfl,_,rfl,tp,_,_,_,rfl,rfl,jK,rfl, ?_⟩;refine⟨_,rfl,tp,_,_,_,rfl,rfl,jK,rfl, ?_⟩;exact tail (spot+1) _ 40 _ _ _ _ _ jK (((But.upd _ _ _).trans (But.upd _ _ _)).trans (But.upd _ _ _)) (by omega) (by omega)
   refine⟨_,rfl,tp,_,_,_,rfl,rfl,SqL.of jK,rfl,cl,_,rfl,.inl (SqL.of (T1 _)),_,_,rfl,rfl,_,rfl, ?_⟩;by_cases hn:(0:Int)<((ns.map V.int).length:Int)
   ·refine iteP (decide_eq_true hn) ?_;obtain⟨c,hc⟩:=at_ints (ns:=ns) (i:=spot%((ns.map V.int).length:Int)) (Int.emod_nonneg _ (by omega)) (by have:=Int.emod_lt_of_pos spot hn;rw[List.length_map]at this ⊢;exact this);refine⟨_,rfl,tp,_,_,_,rfl,rfl,SqL.of jK,rfl,_,rfl,_,rfl,tp,_,_,_,rfl,rfl,SqL.of jK,rfl,cl,_,rfl,.inl (SqL.of (T1 _)),_,_,rfl,rfl,hn,cl,_,_,_,rfl,rfl,SqL.of (T1 _),hc, ?_⟩;exact mid c _ _
   ·refine iteN (decide_eq_false hn) ?_;exact mid 0 _ _
  ·refine iteN (decide_eq_false (by intro z;injection z with z;exact hl z)) ?_;exact tail spot rest left _ _ _ _ H h1 (But.refl _ _) h4 (by omega)
end
end Lw
namespace Lw
open PySem PySem.Spec PyProof.Rows L2
structure FrOk(n:Nat)(t b:Int):Prop where
 pos:0<b
 low:Int.gcd t b=1
 st:t.natAbs<2^n
 sb:b.natAbs<2^n
noncomputable def At2(H:Hp)(p:Addr)(t b:Int):Prop:=H p=some (.tup [.int t,.int b])
theorem jW{a b:Int}{m n:Nat}(ha:a.natAbs<2^m)(hb:b.natAbs<2^n):(a*b).natAbs<2^(m+n):=by
 rw[Int.natAbs_mul,Nat.pow_add];exact Nat.mul_lt_mul'' ha hb
theorem yK{a b:Int}{n:Nat}(ha:a.natAbs<2^n)(hb:b.natAbs<2^n):(a+b).natAbs<2^(n+1):=by
 rw[Nat.pow_succ];omega
theorem abs_sub{a b:Int}{n:Nat}(ha:a.natAbs<2^n)(hb:b.natAbs<2^n):(a-b).natAbs<2^(n+1):=by
 rw[Nat.pow_succ];omega
theorem jE{a:Int}{m n:Nat}(ha:a.natAbs<2^m)(h:m<=n):a.natAbs<2^n:=Nat.lt_of_lt_of_le ha (Nat.pow_le_pow_right (by decide) h)
theorem qR{a g:Int}{n:Nat}(ha:a.natAbs<2^n)(hg:1<=g):(a/g).natAbs<2^n:=Nat.lt_of_le_of_lt (LwM.wY a g hg) ha
theorem uX{a b:Int}{n:Nat}(hb:0<b)(hs:b.natAbs<2^n):((Int.gcd a b:Nat):Int).natAbs<2^n:=by
 have:=LwM.gcd_le a b hb;have:=LwM.qQ a b hb;omega
theorem vH{t b:Int}(h:0<b):lowT t b=t/(Int.gcd t b:Int):=(uV h).1
theorem vX{t b:Int}(h:0<b):lowB t b=b/(Int.gcd t b:Int):=(uV h).2
noncomputable def spTwo(K:PySem.W.Frag)(nt nb:Int->Int->Int->Int->Int):Sp:=λvs H Q _=>∃(p q:Addr) (t b o u:Int),vs=[.ref p,.ref q]/\SqT K H p [.int t,.int b]/\SqT K H q [.int o,.int u]/\FrOk 7900 t b/\FrOk 7900 o u/\
 ∀(r:Addr) (H':Hp),H r=none->Same H H'->At2 H' r (lowT (nt t b o u) (nb t b o u)) (lowB (nt t b o u) (nb t b o u))->Q (.ref r) H'
noncomputable abbrev spAdded(K:PySem.W.Frag):Sp:=spTwo K (λt b o u=>t*u+o*b) (λ_ b _ u=>b*u)
noncomputable abbrev spLess(K:PySem.W.Frag):Sp:=spTwo K (λt b o u=>t*u-o*b) (λ_ b _ u=>b*u)
noncomputable abbrev spMul(K:PySem.W.Frag):Sp:=spTwo K (λt _ o _=>t*o) (λ_ b _ u=>b*u)
theorem qU{K:PySem.W.Frag}{H H':Hp}{a:Addr}{xs:List V}(s:Same H H')(h:SqT K H a xs):SqT K H' a xs:=by
 rcases h with(h | ⟨o,h⟩) | h
 ·exact .inl (.inl (s _ _ h))
 ·exact .inl (.inr ⟨o,s _ _ h⟩)
 ·exact .inr h
section
variable{P:Program}{w:World}{K:PySem.W.Frag}{mg:Str->Option Value}{base:Heap}{f fd:_}
theorem scAdded:FnScope ["one","other","top","bottom","over","under","shared","total","left"] ["one","other"] (jO gU):=⟨rfl,rfl,rfl,by decide +kernel,rfl,by decide +kernel,by decide +kernel⟩
theorem ok_added{fG:Addr}{fdG:FuncData}(F:Fun K "added" "added" gU f fd)(T:Txt mg)(DG:Df K mg "greatest_divisor" sGcd ["one","other"] fG fdG):FnOk P w K mg base CX0 2 f fd ["one","other"] (spAdded K):=by
 have GG:FnOk P w K mg base CX0 1 fG fdG ["one","other"] spGcd:=ok_gcd DG.F T;refine F.ok scAdded (λvs H Q E h=>?_) (λcdv A outer s H vs Q E hr h=>?_)
 ·obtain⟨p,q,t,b,o,u,rfl,_⟩:=h
  rfl
 ·obtain⟨p,q,t,b,o,u,rfl,hp,hq,f1,f2,k⟩:=h;refine⟨_,jB (qC (pv 0) (kU rfl (jM (jH (i:=2) scAdded.nd rfl (Or.inl rfl)) (jM (jH (i:=3) scAdded.nd rfl (Or.inl rfl)) kG))))
   (jB (qC (pv 1) (kU rfl (jM (jH (i:=4) scAdded.nd rfl (Or.inl rfl)) (jM (jH (i:=5) scAdded.nd rfl (Or.inl rfl)) kG))))
   (jB (jI (i:=6) scAdded.nd rfl (Or.inl rfl) (jG GG hr rfl DG.m DG.F.kp DG.b .nil jL (jA (pv 3) (jA (pv 5) jC))))
   (jB (jI (i:=7) scAdded.nd rfl (Or.inl rfl) (jJ kM (jJ kB (pv 2) (jJ qO (pv 5) (pv 6))) (jJ kB (pv 4) (jJ qO (pv 3) (pv 6)))))
   (jB (jI (i:=8) scAdded.nd rfl (Or.inl rfl) (jG GG hr rfl DG.m DG.F.kp DG.b .nil jL (jA (pv 7) (jA (pv 6) jC))))
   (jF (jN (jV (jA (jJ qO (pv 7) (pv 8)) (jA (jJ kB (jJ qO (pv 3) (pv 6)) (jJ qO (pv 5) (pv 8))) jC))))))))), ?_⟩
  refine⟨_,rfl,p,_,rfl,hp,rfl,_,_,rfl,_,_,rfl,rfl, ?_⟩;refine⟨_,rfl,q,_,rfl,hq,rfl,_,_,rfl,_,_,rfl,rfl, ?_⟩;have s1:=LwM.qQ b u f2.pos;have sA:((Int.gcd b u:Nat):Int).natAbs<2^7900:=uX f2.pos f2.sb;have sD:CDivL u (Int.gcd b u:Int):=⟨by omega,jE sA (by decide)⟩;refine⟨_,rfl,_,rfl,b,u,rfl,f2.pos,jE f2.sb (by decide), ?_⟩;refine⟨_,rfl,_,rfl,_,rfl,_,_,rfl,rfl,sD,_,_,rfl,rfl,⟨jE f1.st (by decide),jE (qR f2.sb s1) (by decide)⟩, ?_⟩;refine⟨_,rfl,_,rfl,_,rfl,_,_,rfl,rfl,sD,_,_,rfl,rfl,⟨jE f2.st (by decide),jE (qR f1.sb s1) (by decide)⟩,_,_,rfl,rfl, ?_⟩;have tA:(t*(u/(Int.gcd b u:Int))+o*(b/(Int.gcd b u:Int))).natAbs<2^15801:=yK (n:=15800) (jW (m:=7900) (n:=7900) f1.st (qR f2.sb s1)) (jW (m:=7900) (n:=7900) f2.st (qR f1.sb s1));refine⟨_,rfl,_,rfl,_,_,rfl,by omega,jE sA (by decide), ?_⟩;have m:=LwM.add_low f1.pos f2.pos f1.low f2.low;have l1:=LwM.qQ (t*(u/(Int.gcd b u:Int))+o*(b/(Int.gcd b u:Int))) (Int.gcd b u:Int) (by omega);have lA:((Int.gcd (t*(u/(Int.gcd b u:Int))+o*(b/(Int.gcd b u:Int))) (Int.gcd b u:Int):Nat):Int).natAbs<2^7900:=uX (by omega) sA;generalize hT:t*(u/(Int.gcd b u:Int))+o*(b/(Int.gcd b u:Int))=T at *;generalize hl:(Int.gcd T (Int.gcd b u:Int):Int)=l at *;have lD:CDivL u l:=⟨by omega,jE lA (by decide)⟩;refine⟨_,rfl,_,rfl,_,_,rfl,rfl,lD,_,rfl,_,rfl,_,_,rfl,rfl,sD,_,rfl,_,rfl,_,_,rfl,rfl,lD,_,_,rfl,rfl,⟨jE (qR f1.sb s1) (by decide),jE (qR f2.sb (by omega)) (by decide)⟩,(by show 2<=sizeLine;decide),λr H' n s e=>?_⟩
  refine k r H' n s ?_;have bu:=Int.mul_pos f1.pos f2.pos;show H' r=_;rw[e,vH bu,vX bu];dsimp only;rw[hT,m.1,m.2]
theorem scLess:FnScope ["one","other","over","under"] ["one","other"] (jO sLess):=⟨rfl,rfl,rfl,by decide +kernel,rfl,by decide +kernel,by decide +kernel⟩
theorem ok_less{fA fG:Addr}{fdA fdG:FuncData}(F:Fun K "less" "less" sLess f fd)(T:Txt mg)(DA:Df K mg "added" gU ["one","other"] fA fdA)(DG:Df K mg "greatest_divisor" sGcd ["one","other"] fG fdG):FnOk P w K mg base CX0 3 f fd ["one","other"] (spLess K):=by
 have GA:FnOk P w K mg base CX0 2 fA fdA ["one","other"] (spAdded K):=ok_added DA.F T DG;refine F.ok scLess (λvs H Q E h=>?_) (λcdv A outer s H vs Q E hr h=>?_)
 ·obtain⟨p,q,t,b,o,u,rfl,_⟩:=h
  rfl
 ·obtain⟨p,q,t,b,o,u,rfl,hp,hq,f1,f2,k⟩:=h;refine⟨_,jB (qC (pv 1) (kU rfl (jM (jH (i:=2) scLess.nd rfl (Or.inl rfl)) (jM (jH (i:=3) scLess.nd rfl (Or.inl rfl)) kG))))
   (jF (jN (jG GA hr rfl DA.m DA.F.kp DA.b .nil jL (jA (pv 0) (jA (jV (jA (yW xG (pv 2)) (jA (pv 3) jC))) jC))))), ?_⟩
  refine⟨_,rfl,q,_,rfl,hq,rfl,_,_,rfl,_,_,rfl,rfl, ?_⟩;refine⟨_,rfl,_,rfl,_,rfl,_,rfl,(by show 2<=sizeLine;decide),λz H1 n1 s1 e1=>?_⟩;refine⟨p,z,t,b,-o,u,rfl,qU s1 hp,SqT.of e1,f1,⟨f2.pos,by rw[Int.neg_gcd];exact f2.low,by rw[Int.natAbs_neg];exact f2.st,f2.sb⟩,λr H' n s e=>?_⟩;refine k r H' (s1.free n) (s1.trans s) ?_;have ee:t*u + -o*b=t*u-o*b:=by rw[Int.neg_mul];omega
  dsimp only at e;rw[ee]at e;exact e
theorem scMul:FnScope ["one","other","top","bottom","over","under","first","second"] ["one","other"] (jO sMul):=⟨rfl,rfl,rfl,by decide +kernel,rfl,by decide +kernel,by decide +kernel⟩
theorem ok_mul{fG:Addr}{fdG:FuncData}(F:Fun K "multiplied" "multiplied" sMul f fd)(T:Txt mg)(DG:Df K mg "greatest_divisor" sGcd ["one","other"] fG fdG):FnOk P w K mg base CX0 2 f fd ["one","other"] (spMul K):=by
 have GG:FnOk P w K mg base CX0 1 fG fdG ["one","other"] spGcd:=ok_gcd DG.F T;refine F.ok scMul (λvs H Q E h=>?_) (λcdv A outer s H vs Q E hr h=>?_)
 ·obtain⟨p,q,t,b,o,u,rfl,_⟩:=h
  rfl
 ·obtain⟨p,q,t,b,o,u,rfl,hp,hq,f1,f2,k⟩:=h;refine⟨_,jB (qC (pv 0) (kU rfl (jM (jH (i:=2) scMul.nd rfl (Or.inl rfl)) (jM (jH (i:=3) scMul.nd rfl (Or.inl rfl)) kG))))
   (jB (qC (pv 1) (kU rfl (jM (jH (i:=4) scMul.nd rfl (Or.inl rfl)) (jM (jH (i:=5) scMul.nd rfl (Or.inl rfl)) kG))))
   (jB (jI (i:=6) scMul.nd rfl (Or.inl rfl) (jG GG hr rfl DG.m DG.F.kp DG.b .nil jL (jA (pv 2) (jA (pv 5) jC))))
   (jB (jI (i:=7) scMul.nd rfl (Or.inl rfl) (jG GG hr rfl DG.m DG.F.kp DG.b .nil jL (jA (pv 4) (jA (pv 3) jC))))
   (jF (jN (jV (jA (jJ kB (jJ qO (pv 2) (pv 6)) (jJ qO (pv 4) (pv 7))) (jA (jJ kB (jJ qO (pv 3) (pv 7)) (jJ qO (pv 5) (pv 6))) jC)))))))), ?_⟩
  refine⟨_,rfl,p,_,rfl,hp,rfl,_,_,rfl,_,_,rfl,rfl, ?_⟩;refine⟨_,rfl,q,_,rfl,hq,rfl,_,_,rfl,_,_,rfl,rfl, ?_⟩;refine⟨_,rfl,_,rfl,t,u,rfl,f2.pos,jE f2.sb (by decide), ?_⟩;refine⟨_,rfl,_,rfl,o,b,rfl,f1.pos,jE f1.sb (by decide), ?_⟩;have a1:=LwM.qQ t u f2.pos;have a2:=LwM.qQ o b f1.pos;have d1:CDivL t (Int.gcd t u:Int):=⟨by omega,jE (uX f2.pos f2.sb) (by decide)⟩;have d2:CDivL t (Int.gcd o b:Int):=⟨by omega,jE (uX f1.pos f1.sb) (by decide)⟩;have m:=LwM.mul_low f1.pos f2.pos f1.low f2.low;refine⟨_,rfl,_,rfl,_,_,rfl,rfl,d1,_,rfl,_,rfl,_,_,rfl,rfl,d2,_,_,rfl,rfl,⟨jE (qR f1.st a1) (by decide),jE (qR f2.st a2) (by decide)⟩, ?_⟩;refine⟨_,rfl,_,rfl,_,_,rfl,rfl,d2,_,rfl,_,rfl,_,_,rfl,rfl,d1,_,_,rfl,rfl,⟨jE (qR f1.sb a2) (by decide),jE (qR f2.sb a1) (by decide)⟩,(by show 2<=sizeLine;decide),λr H' n s e=>?_⟩;refine k r H' n s ?_;have bu:=Int.mul_pos f1.pos f2.pos;show H' r=_;rw[e,vH bu,vX bu];dsimp only;rw[m.1,m.2]
end
noncomputable def spDivN(K:PySem.W.Frag):Sp:=λvs H Q _=>∃(p q:Addr) (t b o u:Int),vs=[.ref p,.ref q]/\SqT K H p [.int t,.int b]/\SqT K H q [.int o,.int u]/\FrOk 7900 t b/\FrOk 7900 o u/\o≠0/\
 ∀(r:Addr) (H':Hp),H r=none->Same H H'->At2 H' r (lowT (t*u) (b*o)) (lowB (t*u) (b*o))->Q (.ref r) H'
theorem low_neg{t b:Int}(h:b<0):lowT (-t) (-b)=lowT t b/\lowB (-t) (-b)=lowB t b:=by
 unfold lowT lowB;simp only[if_neg (show ¬(-b<0) by omega),if_pos h,Int.neg_gcd,Int.gcd_neg,Int.zero_sub];exact⟨trivial,trivial⟩
section
variable{P:Program}{w:World}{K:PySem.W.Frag}{mg:Str->Option Value}{base:Heap}{f fd:_}
theorem scDiv:FnScope ["one","other","over","under"] ["one","other"] (jO sDiv):=⟨rfl,rfl,rfl,by decide +kernel,rfl,by decide +kernel,by decide +kernel⟩
theorem ok_divN{fM fG:Addr}{fdM fdG:FuncData}(F:Fun K "divided" "divided" sDiv f fd)(T:Txt mg)(DM:Df K mg "multiplied" sMul ["one","other"] fM fdM)(DG:Df K mg "greatest_divisor" sGcd ["one","other"] fG fdG):FnOk P w K mg base CX0 3 f fd ["one","other"] (spDivN K):=by
 have GM:FnOk P w K mg base CX0 2 fM fdM ["one","other"] (spMul K):=ok_mul DM.F T DG;refine F.ok scDiv (λvs H Q E h=>?_) (λcdv A outer s H vs Q E hr h=>?_)
 ·obtain⟨p,q,t,b,o,u,rfl,_⟩:=h
  rfl
 ·obtain⟨p,q,t,b,o,u,rfl,hp,hq,f1,f2,ho,k⟩:=h;refine⟨_,jB (qC (pv 1) (kU rfl (jM (jH (i:=2) scDiv.nd rfl (Or.inl rfl)) (jM (jH (i:=3) scDiv.nd rfl (Or.inl rfl)) kG))))
   (jB (jX (jR qP (pv 2) jD (jS _)) (jF ps_never) jP)
   (jB (jX (jR xZ (pv 2) jD (jS _)) (jF (jN (jG GM hr rfl DM.m DM.F.kp DM.b .nil jL (jA (pv 0) (jA (jV (jA (yW xG (pv 3)) (jA (yW xG (pv 2)) jC))) jC))))) jP)
   (jF (jN (jG GM hr rfl DM.m DM.F.kp DM.b .nil jL (jA (pv 0) (jA (jV (jA (pv 3) (jA (pv 2) jC))) jC))))))), ?_⟩
  refine⟨_,rfl,q,_,rfl,hq,rfl,_,_,rfl,_,_,rfl,rfl, ?_⟩;refine⟨_,rfl,rfl,_,rfl,iteN (decide_eq_false (by intro z;injection z with z;exact ho z)) ?_⟩;refine⟨_,rfl,_,_,rfl,rfl,_,rfl, ?_⟩;have gc:Int.gcd u o=1:=by rw[Int.gcd_comm];exact f2.low
  by_cases hn:o<0
  ·refine iteP (decide_eq_true hn) ?_;refine⟨_,rfl,_,rfl,_,rfl,_,rfl,_,rfl,(by show 2<=sizeLine;decide),λz H1 n1 s1 e1=>?_⟩;refine⟨p,z,t,b,-u,-o,rfl,qU s1 hp,SqT.of e1,f1,⟨by omega,by rw[Int.neg_gcd,Int.gcd_neg];exact gc,by rw[Int.natAbs_neg];exact f2.sb,by rw[Int.natAbs_neg];exact f2.st⟩,λr H' n s e=>?_⟩;refine k r H' (s1.free n) (s1.trans s) ?_;dsimp only at e;rw[Int.mul_neg,Int.mul_neg,(low_neg (Int.mul_neg_of_pos_of_neg f1.pos hn)).1,(low_neg (Int.mul_neg_of_pos_of_neg f1.pos hn)).2]at e;exact e
  ·refine iteN (decide_eq_false hn) ?_;refine⟨_,rfl,_,rfl,_,rfl,(by show 2<=sizeLine;decide),λz H1 n1 s1 e1=>?_⟩;refine⟨p,z,t,b,u,o,rfl,qU s1 hp,SqT.of e1,f1,⟨by omega,gc,f2.sb,f2.st⟩,λr H' n s e=>?_⟩;exact k r H' (s1.free n) (s1.trans s) e
end
end Lw
namespace Lw
open PySem PySem.Spec PyProof.Rows L2
structure FrS(t b:Int):Prop where
 pos:0<b
 low:Int.gcd t b=1
 st:t.natAbs<2^14
 sb:b.natAbs<2^7
section
variable{P:Program}{w:World}{K:PySem.W.Frag}{mg:Str->Option Value}{base:Heap}{f fd:_}
noncomputable def zF(c M:Int):Sp:=λvs H Q _=>∃(tp:Addr) (B:Int),vs=[.ref tp]/\∃cl,Tape cl H tp B/\B<M/\
 ∀(r:Addr) (t b:Int) (H':Hp),FrS t b->At2 H' r t b->r≠tp->Tape cl H' tp (B+c)->But tp H H'->(∀c o,H c=some o->c≠r)->Q (.ref r) H'
theorem low_fr{t b:Int}(hb:0<b)(ht:t.natAbs<2^14)(hs:b.natAbs<2^7):FrS (lowT t b) (lowB t b):=by
 have g1:=LwM.qQ t b hb;have gp:0<Int.gcd t b:=by omega
 rw[vH hb,vX hb];refine⟨?_,Int.gcd_ediv_gcd_ediv_gcd gp,qR ht g1,qR hs g1⟩;exact Int.ediv_pos_of_pos_of_dvd hb (by omega) (Int.gcd_dvd_right ..)
theorem vM{cl:Addr}{H:Hp}{tp r:Addr}{B:Int}(T:Tape cl H tp B)(n:H r=none):r≠tp:=by
 obtain⟨ns,spot,rest,left,z,_⟩:=T;rintro rfl;rw[n]at z;cases z
theorem uN{p:Addr}{H H':Hp}{r:Addr}(b:But p H H')(n:H' r=none)(hr:r≠p):H r=none:=by
 cases q:H r with
 | none=>rfl
 | some o=>rw[b r o q hr]at n;cases n
theorem scNumber:FnScope ["tape","way","top","great"] ["tape"] (jO xC):=⟨rfl,rfl,rfl,by decide +kernel,rfl,by decide +kernel,by decide +kernel⟩
theorem uF{fD fL:Addr}{fdD fdL:FuncData}(F:Fun K "_law_number" "_law_number" xC f fd)(T:Txt mg)(DD:Df K mg "_law_draw" yL ["tape","many"] fD fdD)(DL:Df K mg "_law_low" sLow ["top","bottom"] fL fdL):FnOk P w K mg base CX0 2 f fd ["tape"] (zF 6 (2^38)):=by
 have GD:FnOk P w K mg base CX0 1 fD fdD ["tape","many"] spDraw:=uT DD.F T;have GL:FnOk P w K mg base CX0 1 fL fdL ["top","bottom"] spLow:=uG DL.F T;refine F.ok scNumber (λvs H Q E h=>?_) (λcdv A outer s H vs Q E hr h=>?_)
 ·obtain⟨tp,B,rfl,_⟩:=h
  rfl
 ·obtain⟨tp,B,rfl,cl,hT,hB,k⟩:=h;refine⟨_,jB (jI (i:=1) scNumber.nd rfl (Or.inl rfl) (jG GD hr rfl DD.m DD.F.kp DD.b .nil jL (jA (pv 0) (jA jD jC))))
   (jB (jI (i:=2) scNumber.nd rfl (Or.inl rfl) (jJ qB (jG GD hr rfl DD.m DD.F.kp DD.b .nil jL (jA (pv 0) (jA jD jC))) jD))
   (jB (jX (jR xZ (pv 1) jD (jS _)) (jF (jN (jV (jA (pv 2) (jA jD jC))))) jP)
   (jB (jX (jR xZ (pv 1) jD (jS _)) (jF (jN (jG GL hr rfl DL.m DL.F.kp DL.b .nil jL (jA (pv 2) (jA (jJ kM jD (jG GD hr rfl DD.m DD.F.kp DD.b .nil jL (jA (pv 0) (jA jD jC)))) jC))))) jP)
   (jB (jI (i:=3) scNumber.nd rfl (Or.inl rfl) (jJ zU (jG GD hr rfl DD.m DD.F.kp DD.b .nil jL (jA (pv 0) (jA (jJ op_pow jD jD) jC))) (jJ qB jD (jJ zU jD (jG GD hr rfl DD.m DD.F.kp DD.b .nil jL (jA (pv 0) (jA jD jC)))))))
   (jF (jN (jG GL hr rfl DL.m DL.F.kp DL.b .nil jL (jA (pv 3) (jA (jJ kM jD (jG GD hr rfl DD.m DD.F.kp DD.b .nil jL (jA (pv 0) (jA jD jC)))) jC)))))))))
   , ?_⟩
  refine⟨_,rfl,tp,8,B,rfl,_,hT,by omega,by decide,by decide,λway H1 w0 w1 T1 b1=>?_⟩;refine⟨_,rfl,tp,13,_,rfl,_,T1,by omega,by decide,by decide,λtop H2 t0 t1 T2 b2=>⟨_,_,rfl,rfl, ?_⟩⟩;have p10:∀n:Int,0<=n->n<=1000000->CPow 10 n:=λn h0 h1=>⟨h0,h1,by decide⟩;have tell:∀(t b B':Int) (H3:Hp),0<b->t.natAbs<2^14->b.natAbs<2^7->Tape cl H3 tp B'->B'<=B+6->But tp H H3->spLow [.int t,.int b] H3 Q E0:=by
   intro t b B' H3 hb ht hs T3 hB' b3;refine⟨t,b,rfl,by omega,.inl (jE hs (by decide)),λp H4 n4 s4 e4=>?_⟩;refine k p _ _ H4 (low_fr hb ht hs) e4 (vM T3 n4) (T3.mono s4 (by omega)) (b3.trans (But.of s4)) (λc o hc hp=>?_);subst hp;have:=uN b3 n4 (vM T3 n4);rw[hc]at this;cases this
  refine⟨_,rfl,_,_,rfl,rfl,_,rfl, ?_⟩;refine ite2 (λ_=>?_) (λ_=>?_)
  ·refine⟨_,rfl,(by show 2<=sizeLine;decide),λp H3 n3 s3 e3=>?_⟩;refine k p (top-6) 1 H3 ⟨by decide,by simp,by omega,by decide⟩ e3 (vM T2 n3) (T2.mono s3 (by omega)) ((b1.trans b2).trans (But.of s3)) (λc o hc hp=>?_);subst hp;have:=uN (b1.trans b2) n3 (vM T2 n3);rw[hc]at this;cases this
  ·refine⟨_,rfl,_,_,rfl,rfl,_,rfl, ?_⟩;refine ite2 (λ_=>?_) (λ_=>?_)
   ·refine⟨_,rfl,_,rfl,tp,5,_,rfl,_,T2,by omega,by decide,by decide,λc H3 c0 c1 T3 b3=>⟨_,_,rfl,rfl, ?_⟩⟩;exact tell _ _ _ H3 (by omega) (by omega) (by omega) T3 (by omega) ((b1.trans b2).trans b3)
   ·refine⟨_,rfl,_,_,rfl,rfl,p10 4 (by decide) (by decide),tp,_,_,rfl,_,T2,by omega,by decide,by decide,λg H3 g0 g1 T3 b3=>?_⟩;refine⟨_,rfl,tp,2,_,rfl,_,T3,by omega,by decide,by decide,λr H4 r0 r1 T4 b4=>?_⟩;refine⟨_,_,rfl,rfl,.inl ⟨by decide,by decide⟩,_,_,rfl,rfl,_,_,rfl,rfl,.inr ⟨by omega,by omega⟩, ?_⟩;refine⟨_,rfl,_,rfl,tp,99,_,rfl,_,T4,by omega,by decide,by decide,λc H5 c0 c1 T5 b5=>⟨_,_,rfl,rfl, ?_⟩⟩;have e12:(10:Int)^(4:Int).toNat=10000:=by decide +kernel
    rw[e12]at g1;have hr2:r=0∨r=1:=by omega
    refine tell _ _ _ H5 (by omega) ?_ (by omega) T5 (by omega) ((((b1.trans b2).trans b3).trans b4).trans b5);rcases hr2 with rfl | rfl
    ·simp only[Int.mul_zero,Int.sub_zero,Int.mul_one];omega
    ·rw[show(1:Int)-2*1 = -1 by decide,Int.mul_neg,Int.mul_one,Int.natAbs_neg];omega
end
end Lw
namespace LwQ
noncomputable def fv(t b:Int):Rat:=(t:Rat)/(b:Rat)
theorem cne{b:Int}(h:0<b):(b:Rat)≠0:=by
 intro z;have:b=0:=Rat.intCast_inj.mp (by rw[z];rfl);omega
theorem nM{t b o u:Int}(hb:0<b)(hu:0<u)(h:t*u=o*b):fv t b=fv o u:=by
 have h1:=cne hb;have h2:=cne hu;have h3:(t:Rat)*(u:Rat)=(o:Rat)*(b:Rat):=by rw[<-Rat.intCast_mul,<-Rat.intCast_mul,h]
 unfold fv
 grind
theorem fv_inj{t b o u:Int}(hb:0<b)(hu:0<u)(h:fv t b=fv o u):t*u=o*b:=by
 have h1:=cne hb;have h2:=cne hu;unfold fv at h;have h3:(t:Rat)*(u:Rat)=(o:Rat)*(b:Rat):=by grind
 rw[<-Rat.intCast_mul,<-Rat.intCast_mul]at h3;exact Rat.intCast_inj.mp h3
theorem fv_add{t b o u:Int}(hb:0<b)(hu:0<u):fv (t*u+o*b) (b*u)=fv t b+fv o u:=by
 have h1:=cne hb;have h2:=cne hu;unfold fv;rw[Rat.intCast_add,Rat.intCast_mul,Rat.intCast_mul,Rat.intCast_mul]
 grind
theorem uI{t b o u:Int}(hb:0<b)(hu:0<u):fv (t*o) (b*u)=fv t b*fv o u:=by
 have h1:=cne hb;have h2:=cne hu;unfold fv;rw[Rat.intCast_mul,Rat.intCast_mul]
 grind
theorem vE{t b o u t' b':Int}(hb:0<b)(hu:0<u)(hb':0<b')(h:t'*(b*u)=(t*u+o*b)*b'):fv t' b'=fv t b+fv o u:=by
 rw[<-fv_add hb hu];exact nM hb' (Int.mul_pos hb hu) h
theorem mE(t:Int):fv t 1=(t:Rat):=by
 unfold fv;have:((1:Int):Rat)=1:=rfl;rw[this]
 grind
theorem fv_zero:fv 0 1=0:=by rw[mE];rfl
theorem gF{b t u:Int}(g:Int.gcd t b=1)(h:b∣t*u):b∣u:=by
 have h:=Int.natAbs_dvd_natAbs.mpr h;rw[Int.natAbs_mul]at h;have c:Nat.Coprime b.natAbs t.natAbs:=by
  have:Nat.gcd t.natAbs b.natAbs=1:=g;rw[Nat.gcd_comm]at this;exact this
 exact Int.natAbs_dvd_natAbs.mp (c.dvd_of_dvd_mul_left h)
theorem low_uniq{t b o u:Int}(hb:0<b)(hu:0<u)(g1:Int.gcd t b=1)(g2:Int.gcd o u=1)(h:t*u=o*b):t=o/\b=u:=by
 have d1:b∣u:=by
  have:b∣t*u:=⟨o,by rw[h,Int.mul_comm]⟩;exact gF g1 this
 have d2:u∣b:=by
  have:u∣o*b:=⟨t,by rw[<-h,Int.mul_comm]⟩;exact gF g2 this
 have e:b=u:=Int.dvd_antisymm (by omega) (by omega) d1 d2;subst e;exact⟨Int.eq_of_mul_eq_mul_right (by omega) h,rfl⟩
theorem kE(x:Rat):fv x.num x.den=x:=by
 unfold fv;have:=Rat.num_divInt_den x;rw[Rat.divInt_eq_div]at this;exact this
theorem jZ(x:Rat):0<(x.den:Int)/\Int.gcd x.num x.den=1:=⟨by have:=x.den_pos;omega,x.reduced⟩
theorem hW{t b:Int}(hb:0<b)(g:Int.gcd t b=1):(fv t b).num=t/\((fv t b).den:Int)=b:=by
 have n:=jZ (fv t b);have e:=fv_inj n.1 hb (kE (fv t b));exact low_uniq n.1 hb n.2 g e
noncomputable def Wh(D:Int)(x:Rat):Prop:=∃z:Int,x*(D:Rat)=(z:Rat)
theorem Wh.dvd{D t b:Int}(hb:0<b)(g:Int.gcd t b=1)(h:Wh D (fv t b)):b∣D:=by
 obtain⟨z,hz⟩:=h;have h1:=cne hb;have e:(t:Rat)*(D:Rat)=(z:Rat)*(b:Rat):=by unfold fv at hz;grind
 rw[<-Rat.intCast_mul,<-Rat.intCast_mul]at e;have e:=Rat.intCast_inj.mp e;have:b∣t*D:=⟨z,by rw[e,Int.mul_comm]⟩;exact gF g this
theorem Wh.mul{D D':Int}{x y:Rat}(h:Wh D x)(h':Wh D' y):Wh (D*D') (x*y):=by
 obtain⟨z,e⟩:=h;obtain⟨z',e'⟩:=h';exact⟨z*z',by rw[Rat.intCast_mul,Rat.intCast_mul];grind⟩
theorem Wh.up{D:Int}{x:Rat}(h:Wh D x)(k:Int):Wh (D*k) x:=by
 obtain⟨z,e⟩:=h;exact⟨z*k,by rw[Rat.intCast_mul,Rat.intCast_mul];grind⟩
theorem Wh.add{D:Int}{x y:Rat}(h:Wh D x)(h':Wh D y):Wh D (x+y):=by
 obtain⟨z,e⟩:=h;obtain⟨z',e'⟩:=h';exact⟨z+z',by rw[Rat.intCast_add];grind⟩
theorem Wh.sub{D:Int}{x y:Rat}(h:Wh D x)(h':Wh D y):Wh D (x-y):=by
 obtain⟨z,e⟩:=h;obtain⟨z',e'⟩:=h';exact⟨z-z',by rw[Rat.intCast_sub];grind⟩
theorem Wh.zero(D:Int):Wh D 0:=⟨0,by rw[Rat.zero_mul];rfl⟩
theorem Wh.of{t b:Int}(hb:0<b):Wh b (fv t b):=⟨t,by have h1:=cne hb;unfold fv;grind⟩
theorem Wh.of_dvd{D D':Int}{x:Rat}(h:Wh D x)(d:D∣D'):Wh D' x:=by
 obtain⟨k,rfl⟩:=d;exact h.up k
end LwQ
namespace Lw
open PySem PySem.Spec PyProof.Rows L2 LwQ
noncomputable def spPlus:Sp:=λvs H Q _=>∃(p q:Addr) (t b o u:Int),vs=[.ref p,.ref q]/\At2 H p t b/\At2 H q o u/\0<b/\0<u/\t.natAbs<2^50000/\b.natAbs<2^50000/\o.natAbs<2^50000/\u.natAbs<2^8000/\
 ∀(r:Addr) (t' b':Int) (H':Hp),H r=none->Same H H'->At2 H' r t' b'->0<b'->b'.natAbs<=b.natAbs*u.natAbs->t'*(b*u)=(t*u+o*b)*b'->Q (.ref r) H'
noncomputable def spLMul:Sp:=λvs H Q _=>∃(p q:Addr) (t b o u:Int),vs=[.ref p,.ref q]/\At2 H p t b/\At2 H q o u/\t.natAbs<2^50000/\b.natAbs<2^50000/\o.natAbs<2^50000/\u.natAbs<2^50000/\
 ∀(r:Addr) (H':Hp),H r=none->Same H H'->At2 H' r (t*o) (b*u)->Q (.ref r) H'
theorem mod_div{b u:Int}(h:decide (V.int (b%u)=V.int 0)=true):b=u*(b/u):=by
 have e:b%u=0:=by
  have:=of_decide_eq_true h;injection this
 have:=Int.mul_ediv_add_emod b u;omega
section
variable{P:Program}{w:World}{K:PySem.W.Frag}{mg:Str->Option Value}{base:Heap}{f fd:_}
theorem scPlus:FnScope ["one","other","top"] ["one","other"] (jO xH):=⟨rfl,rfl,rfl,by decide +kernel,rfl,by decide +kernel,by decide +kernel⟩
theorem wO(F:Fun K "_law_plus" "_law_plus" xH f fd):FnOk P w K mg base CX0 1 f fd ["one","other"] spPlus:=by
 refine F.ok scPlus (λvs H Q E h=>?_) (λcdv A outer s H vs Q E hr h=>?_)
 ·obtain⟨p,q,t,b,o,u,rfl,_⟩:=h
  rfl
 ·obtain⟨p,q,t,b,o,u,rfl,hp,hq,hb,hu,st,sb,so,su,k⟩:=h;refine⟨_,jB (jX (jR qP (jJ vR (jT jU (pv 0) jD (λ_ _=>rfl)) (jT jU (pv 1) jD (λ_ _=>rfl))) jD (jS _))
    (jF (jN (jV (jA (jJ kM (jT jU (pv 0) jD (λ_ _=>rfl)) (jJ kB (jT jU (pv 1) jD (λ_ _=>rfl)) (jJ qO (jT jU (pv 0) jD (λ_ _=>rfl)) (jT jU (pv 1) jD (λ_ _=>rfl))))) (jA (jT jU (pv 0) jD (λ_ _=>rfl)) jC))))) jP)
   (jB (jX (jR qP (jJ vR (jT jU (pv 1) jD (λ_ _=>rfl)) (jT jU (pv 0) jD (λ_ _=>rfl))) jD (jS _))
    (jF (jN (jV (jA (jJ kM (jT jU (pv 1) jD (λ_ _=>rfl)) (jJ kB (jT jU (pv 0) jD (λ_ _=>rfl)) (jJ qO (jT jU (pv 1) jD (λ_ _=>rfl)) (jT jU (pv 0) jD (λ_ _=>rfl))))) (jA (jT jU (pv 1) jD (λ_ _=>rfl)) jC))))) jP)
   (jB (jI (i:=2) scPlus.nd rfl (Or.inl rfl) (jJ kM (jJ kB (jT jU (pv 0) jD (λ_ _=>rfl)) (jT jU (pv 1) jD (λ_ _=>rfl))) (jJ kB (jT jU (pv 1) jD (λ_ _=>rfl)) (jT jU (pv 0) jD (λ_ _=>rfl)))))
   (jF (jN (jV (jA (pv 2) (jA (jJ kB (jT jU (pv 0) jD (λ_ _=>rfl)) (jT jU (pv 1) jD (λ_ _=>rfl))) jC))))))), ?_⟩
  have P:=SqT.of (K:=K) hp;have R:=SqT.of (K:=K) hq;have d1:(b/u).natAbs<2^100000:=jE (qR sb hu) (by decide);have d2:(u/b).natAbs<2^100000:=jE (qR su hb) (by decide);have st':t.natAbs<2^100000:=jE st (by decide);have sb':b.natAbs<2^100000:=jE sb (by decide);have so':o.natAbs<2^100000:=jE so (by decide);have su':u.natAbs<2^100000:=jE su (by decide);have lb:b.natAbs<=b.natAbs*u.natAbs:=Nat.le_mul_of_pos_right _ (by omega);have lu:u.natAbs<=b.natAbs*u.natAbs:=Nat.le_mul_of_pos_left _ (by omega);refine⟨_,rfl,p,_,_,_,rfl,rfl,P,rfl,_,rfl,q,_,_,_,rfl,rfl,R,rfl,_,_,rfl,rfl,hu,rfl,_,rfl, ?_⟩;refine ite2 (λe=>?_) (λ_=>?_)
  ·refine⟨_,rfl,p,_,_,_,rfl,rfl,P,rfl,_,rfl,q,_,_,_,rfl,rfl,R,rfl,_,rfl,p,_,_,_,rfl,rfl,P,rfl,_,rfl,q,_,_,_,rfl,rfl,R,rfl,_,_,rfl,rfl,⟨hu,su⟩,_,_,rfl,rfl,⟨so',d1⟩,_,_,rfl,rfl,_,rfl,p,_,_,_,rfl,rfl,P,rfl,(by show 2<=sizeLine;decide),λr H1 n1 s1 e1=>?_⟩;refine k r _ _ H1 n1 s1 e1 hb lb ?_;have m:=mod_div e;generalize b/u=x at m;subst m
   grind
  refine⟨_,rfl,q,_,_,_,rfl,rfl,R,rfl,_,rfl,p,_,_,_,rfl,rfl,P,rfl,_,_,rfl,rfl,hb,rfl,_,rfl, ?_⟩;refine ite2 (λe=>?_) (λ_=>?_)
  ·have m:=mod_div e;have bu:b.natAbs<2^8000:=by
    have:b∣u:=⟨_,m⟩;have:=Int.le_of_dvd hu this;exact Nat.lt_of_le_of_lt (by omega) su
   refine⟨_,rfl,q,_,_,_,rfl,rfl,R,rfl,_,rfl,p,_,_,_,rfl,rfl,P,rfl,_,rfl,q,_,_,_,rfl,rfl,R,rfl,_,rfl,p,_,_,_,rfl,rfl,P,rfl,_,_,rfl,rfl,⟨hb,bu⟩,_,_,rfl,rfl,⟨st',d2⟩,_,_,rfl,rfl,_,rfl,q,_,_,_,rfl,rfl,R,rfl,(by show 2<=sizeLine;decide),λr H1 n1 s1 e1=>?_⟩;refine k r _ _ H1 n1 s1 e1 hu lu ?_;generalize u/b=x at m;subst m
   grind
  ·refine⟨_,rfl,p,_,_,_,rfl,rfl,P,rfl,_,rfl,q,_,_,_,rfl,rfl,R,rfl,_,_,rfl,rfl,⟨st',su'⟩,_,rfl,q,_,_,_,rfl,rfl,R,rfl,_,rfl,p,_,_,_,rfl,rfl,P,rfl,_,_,rfl,rfl,⟨so',sb'⟩,_,_,rfl,rfl, ?_⟩;refine⟨_,rfl,_,rfl,p,_,_,_,rfl,rfl,P,rfl,_,rfl,q,_,_,_,rfl,rfl,R,rfl,_,_,rfl,rfl,⟨sb',su'⟩,(by show 2<=sizeLine;decide),λr H1 n1 s1 e1=>?_⟩;exact k r _ _ H1 n1 s1 e1 (Int.mul_pos hb hu) (Nat.le_of_eq (Int.natAbs_mul _ _)) rfl
theorem scLMul:FnScope ["one","other"] ["one","other"] (jO yT):=⟨rfl,rfl,rfl,by decide +kernel,rfl,by decide +kernel,by decide +kernel⟩
theorem wP(F:Fun K "_law_mul" "_law_mul" yT f fd):FnOk P w K mg base CX0 1 f fd ["one","other"] spLMul:=by
 refine F.ok scLMul (λvs H Q E h=>?_) (λcdv A outer s H vs Q E hr h=>?_)
 ·obtain⟨p,q,t,b,o,u,rfl,_⟩:=h
  rfl
 ·obtain⟨p,q,t,b,o,u,rfl,hp,hq,st,sb,so,su,k⟩:=h;refine⟨_,jF (jN (jV (jA (jJ kB (jT jU (pv 0) jD (λ_ _=>rfl)) (jT jU (pv 1) jD (λ_ _=>rfl))) (jA (jJ kB (jT jU (pv 0) jD (λ_ _=>rfl)) (jT jU (pv 1) jD (λ_ _=>rfl))) jC)))), ?_⟩;have P:=SqT.of (K:=K) hp;have R:=SqT.of (K:=K) hq;refine⟨_,rfl,p,_,_,_,rfl,rfl,P,rfl,_,rfl,q,_,_,_,rfl,rfl,R,rfl,_,_,rfl,rfl,⟨jE st (by decide),jE so (by decide)⟩,_,rfl,p,_,_,_,rfl,rfl,P,rfl,_,rfl,q,_,_,_,rfl,rfl,R,rfl,_,_,rfl,rfl,⟨jE sb (by decide),jE su (by decide)⟩,(by show 2<=sizeLine;decide),λr H1 n1 s1 e1=>?_⟩;exact k r H1 n1 s1 e1
theorem scLike:FnScope ["one","other"] ["one","other"] (jO sLike):=⟨rfl,rfl,rfl,by decide +kernel,rfl,by decide +kernel,by decide +kernel⟩
end
end Lw
namespace Lw
open PySem PySem.Spec PyProof.Rows L2 LwQ
structure Ent where
 n:Nat
 c:Addr
 t:Int
 b:Int
noncomputable def Ent.kv(e:Ent):List Key×V:=(LwD.ik [(e.n:Int)],.ref e.c)
structure EntP(H:Hp)(c:Nat->Rat)(s:Nat->Nat)(e:Ent):Prop where
 lt:e.n<24
 at':At2 H e.c e.t e.b
 pos:0<e.b
 nz:e.t≠0
 val:fv e.t e.b=c e.n
 st:e.t.natAbs<2^s e.n
 sb:e.b.natAbs<2^s e.n
structure RepE(H:Hp)(E:List Ent)(c:Nat->Rat)(s:Nat->Nat):Prop where
 nd:(E.map Ent.n).Nodup
 each:∀e∈E,EntP H c s e
 all:∀j,c j≠0->∃e∈E,e.n=j
theorem RepE.map{H H':Hp}{E:List Ent}{c:Nat->Rat}{s:Nat->Nat}(h:RepE H E c s)(k:∀a xs,H a=some (.tup xs)->H' a=some (.tup xs)):RepE H' E c s:=
 ⟨h.nd,λe he=>let x:=h.each e he;⟨x.lt,k _ _ x.at',x.pos,x.nz,x.val,x.st,x.sb⟩,h.all⟩
theorem wV{t b:Int}(hb:0<b)(h:t≠0):fv t b≠0:=by
 intro z;rw[<-fv_zero]at z;have:=fv_inj hb (by decide) z;omega
theorem RepE.out{H:Hp}{E:List Ent}{c:Nat->Rat}{s:Nat->Nat}(h:RepE H E c s){j:Nat}(hj:∀e∈E,e.n≠j):c j=0:=by
 by_cases z:c j=0
 ·exact z
 ·obtain⟨e,he,rfl⟩:=h.all j z;exact absurd rfl (hj e he)
theorem wQ:∀(m:Nat) {l:List Nat},l.Nodup->(∀x∈l,x<m)->l.length<=m
 | 0,l,_,k=>by
  cases l with
  | nil=>exact Nat.le_refl _
  | cons x r=>exact absurd (k x (List.mem_cons_self ..)) (Nat.not_lt_zero _)
 | m+1,l,h,k=>by
  have:=wQ m (h.erase m) λx hx=>by
   have y:=(List.Nodup.mem_erase_iff h).mp hx;have:=k x y.2;have:=y.1;omega
  rw[List.length_erase]at this;split at this<;>omega
theorem RepE.few{H:Hp}{E:List Ent}{c:Nat->Rat}{s:Nat->Nat}(h:RepE H E c s):E.length<=24:=by
 have:=wQ 24 h.nd λx hx=>by
  obtain⟨e,he,rfl⟩:=List.mem_map.mp hx;exact(h.each e he).lt
 rwa [List.length_map]at this
theorem qN{t b o u t' b':Int}{k m:Nat}(hb:0<b)(hu:0<u)(h1:t.natAbs<2^k)(h2:b.natAbs<2^k)(h3:o.natAbs<2^m)(h4:u.natAbs<2^m)(lb:b'.natAbs<=b.natAbs*u.natAbs)(eq:t'*(b*u)=(t*u+o*b)*b') :
  t'.natAbs<2^(k+m+1)/\b'.natAbs<2^(k+m+1):=by
 have hbu:(b*u).natAbs<2^(k+m):=jW h2 h4;constructor
 ·have e1:=congrArg Int.natAbs eq;rw[Int.natAbs_mul t',Int.natAbs_mul (t*u+o*b)]at e1;have h5:(t*u+o*b).natAbs<2^(k+m+1):=by
   refine yK (jW h1 h4) ?_;rw[Nat.add_comm k m];exact jW h3 h2
  have h6:0<(b*u).natAbs:=by have:=Int.mul_pos hb hu;omega
  have h7:t'.natAbs*(b*u).natAbs<=(t*u+o*b).natAbs*(b*u).natAbs:=by
   rw[e1];refine Nat.mul_le_mul_left _ ?_;rw[Int.natAbs_mul];exact lb
  exact Nat.lt_of_le_of_lt (Nat.le_of_mul_le_mul_right h7 h6) h5
 ·rw[<-Int.natAbs_mul]at lb;exact Nat.lt_of_le_of_lt lb (Nat.lt_of_lt_of_le hbu (Nat.pow_le_pow_right (by decide) (Nat.le_succ _)))
theorem ik_inj{ns ms:List Int}(h:LwD.ik ns=LwD.ik ms):ns=ms:=by
 have:=congrArg (List.map kV) h;rw[LwD.xM,LwD.xM]at this;exact(List.map_inj_right (f:=V.int) (λa b e=>by injection e)).mp this
section
variable{k:List Key}{v v0:V}{L R l:List (List Key×V)}
theorem val_out(h:∀p∈l,p.1≠k):valV l k=none:=by
 unfold valV;rw[List.find?_eq_none.mpr λp hp=>by simp [h p hp]]
 rfl
theorem val_mid(h:∀p∈L,p.1≠k):valV (L++(k,v)::R) k=some v:=by
 unfold valV;rw[List.find?_append,List.find?_eq_none.mpr λp hp=>by simp [h p hp]];simp
theorem put_out(h:∀p∈l,p.1≠k):putK l k v=l++[(k,v)]:=by
 unfold putK;rw[if_neg];intro z;obtain⟨p,hp,e⟩:=List.any_eq_true.mp z;exact h p hp (of_decide_eq_true e)
theorem map_out(h:∀p∈l,p.1≠k):l.map (λkv=>if kv.1=k then(kv.1,v)else kv)=l:=by
 conv=>rhs;rw[<-List.map_id l]
 exact List.map_congr_left λp hp=>by rw[if_neg (h p hp)];rfl
theorem put_mid(h1:∀p∈L,p.1≠k)(h2:∀p∈R,p.1≠k):putK (L++(k,v0)::R) k v=L++(k,v)::R:=by
 unfold putK;rw[if_pos (by simp),List.map_append,List.map_cons,map_out h1,map_out h2];simp
theorem drop_mid(h1:∀p∈L,p.1≠k)(h2:∀p∈R,p.1≠k):uP (L++(k,v0)::R) k=L++R:=by
 unfold uP;rw[List.filter_append,List.filter_cons,List.filter_eq_self.mpr (λp hp=>decide_eq_true (h1 p hp)),List.filter_eq_self.mpr (λp hp=>decide_eq_true (h2 p hp))];simp
end
theorem xK{E:List Ent}{n:Nat}(h:n∉E.map Ent.n):∀p∈E.map Ent.kv,p.1≠LwD.ik [(n:Int)]:=by
 intro p hp z;obtain⟨e,he,rfl⟩:=List.mem_map.mp hp;have:=ik_inj z;refine h (List.mem_map.mpr ⟨e,he, ?_⟩);have:(e.n:Int)=n:=by simpa using this
 omega
noncomputable def DictP(H:Hp)(d:Addr)(c:Nat->Rat)(s:Nat->Nat):Prop:=∃E,H d=some (.dT (E.map Ent.kv))/\RepE H E c s
noncomputable def bump(c:Nat->Rat)(n:Nat)(x:Rat):Nat->Rat:=λj=>c j+if j=n then x else 0
noncomputable def xB(s:Nat->Nat)(n m:Nat):Nat->Nat:=λj=>s j+if j=n then m else 0
noncomputable def spPut:Sp:=λvs H Q _=>∃(d b q:Addr) (n m:Nat) (o u:Int) (c:Nat->Rat) (s:Nat->Nat),vs=[.ref d,.ref b,.ref q]/\DictP H d c s/\H b=some (.tup [.int n])/\n<24/\At2 H q o u/\0<u/\o.natAbs<2^m/\u.natAbs<2^m/\m<=8000/\s n<=50000/\
 ∀(H':Hp),But d H H'->DictP H' d (bump c n (fv o u)) (xB s n (m+1))->Q .non H'
section
variable{P:Program}{w:World}{K:PySem.W.Frag}{mg:Str->Option Value}{base:Heap}{f fd:_}
theorem scPut:FnScope ["found","powers","number","some"] ["found","powers","number"] (jO sPut):=⟨rfl,rfl,rfl,by decide +kernel,rfl,by decide +kernel,by decide +kernel⟩
theorem ent_up{H H':Hp}{c:Nat->Rat}{s:Nat->Nat}{e:Ent}{n m:Nat}{x:Rat}(h:EntP H c s e)(ne:e.n≠n)(k:∀a xs,H a=some (.tup xs)->H' a=some (.tup xs)):EntP H' (bump c n x) (xB s n m) e:=by
 refine⟨h.lt,k _ _ h.at',h.pos,h.nz, ?_, ?_, ?_⟩
 ·rw[h.val];unfold bump;rw[if_neg ne,Rat.add_zero]
 ·unfold xB;rw[if_neg ne,Nat.add_zero];exact h.st
 ·unfold xB;rw[if_neg ne,Nat.add_zero];exact h.sb
theorem ok_put{fP:Addr}{fdP:FuncData}(F:Fun K "_law_put" "_law_put" sPut f fd)(DP:Df K mg "_law_plus" xH ["one","other"] fP fdP):FnOk P w K mg base CX0 2 f fd ["found","powers","number"] spPut:=by
 have GP:FnOk P w K mg base CX0 1 fP fdP ["one","other"] spPlus:=wO DP.F;refine F.ok scPut (λvs H Q E h=>?_) (λcdv A outer s H vs Q E hr h=>?_)
 ·obtain⟨d,b,q,n,m,o,u,c,sz,rfl,_⟩:=h
  rfl
 ·obtain⟨d,b,q,n,m,o,u,c,sz,rfl,⟨EE,hd,hD⟩,hb,hn,hq,pu,ho,hu',hm,hs,go⟩:=h;have hu:_+1<cLine:=Nat.lt_of_le_of_lt (Nat.add_le_add_left (by decide:1<=64) _) hr.units;refine⟨_,jB (jI (i:=3) scPut.nd rfl (Or.inl rfl) (jG GP hr rfl DP.m DP.F.kp DP.b .nil jL (jA (pe_dget2 hu (pv 0) (pv 1) (jV (jA jD (jA jD jC))) ⟨rfl,rfl,rfl,rfl⟩) (jA (pv 2) jC))))
   (jF (jX (jR uM (jT jU (pv 3) jD (λ_ _=>rfl)) jD (jS _)) (jF (ps_dput hu (pv 0) (pv 1) (pv 3) rfl))
    (jF (jX (qF (pc_din hu (pv 1) (pv 0))) (jF (xD (LwD.pe_dpopT hu (pv 0) (pv 1) ⟨rfl,rfl,rfl,rfl⟩))) jP)))), ?_⟩
  have hb':H b=some (.tup ((LwD.ik [(n:Int)]).map kV)):=by rw[LwD.xM];exact hb
  have few:=hD.few;have kz:(EE.map Ent.kv).length<sizeLine:=by rw[List.length_map];exact Nat.lt_of_le_of_lt few (by decide)
  refine⟨_,rfl,d,rfl,.inr ⟨_,.inl hd⟩,_,rfl,(by show 2<=sizeLine;decide),λz H1 n1 s1 e1=>⟨valV (EE.map Ent.kv) (LwD.ik [(n:Int)]),DGet.t (s1 _ _ hd) (s1 _ _ hb'),_,rfl, ?_⟩⟩;have fin:∀(L R:List Ent) (H2:Hp) (r:Addr) (t' b':Int),Same H H2->H1 r=none->At2 H2 r t' b'->0<b'->fv t' b'=c n+fv o u->t'.natAbs<2^(sz n+m+1)->b'.natAbs<2^(sz n+m+1)->n∉L.map Ent.n->n∉R.map Ent.n->((L++R).map Ent.n).Nodup->(∀e∈L++R,EntP H c sz e)->(∀j,c j≠0->j≠n->∃e∈L++R,e.n=j)->
    (t'≠0->DictP (upd H2 d (.dT (L.map Ent.kv++(LwD.ik [(n:Int)],V.ref r)::R.map Ent.kv))) d (bump c n (fv o u)) (xB sz n (m+1)))/\(t'=0->∀H3,(∀a xs,H a=some (.tup xs)->H3 a=some (.tup xs))->H3 d=some (.dT ((L++R).map Ent.kv))->DictP H3 d (bump c n (fv o u)) (xB sz n (m+1))):=by
   intro L R H2 r t' b' s12 n2 e2 pb ev st sb nL nR nd each all;have rd:r≠d:=λzz=>by rw[zz,s1 _ _ hd]at n2;cases n2
   have tu:∀(o:HO) a xs,H a=some (.tup xs)->upd H2 d o a=some (.tup xs):=λo a xs ea=>by
    rw[jQ (λy=>by rw[y,hd]at ea;cases ea)];exact s12 _ _ ea
   have ne:∀e∈L++R,e.n≠n:=λe he z=>(List.mem_append.mp he).elim (λy=>nL (List.mem_map.mpr ⟨e,y,z⟩)) (λy=>nR (List.mem_map.mpr ⟨e,y,z⟩));refine⟨λtz=>⟨L++⟨n,r,t',b'⟩::R, ?_, ?_,λe he=>?_,λj hj=>?_⟩,λtz H3 tu3 hd3=>⟨L++R,hd3,nd,λe he=>?_,λj hj=>?_⟩⟩
   ·rw[jK,List.map_append,List.map_cons]
    rfl
   ·rw[List.map_append,List.map_cons];rw[List.map_append,List.nodup_append]at nd;rw[List.nodup_append];refine⟨nd.1,List.nodup_cons.mpr ⟨nR,nd.2.1⟩,λa ha b hb=>?_⟩;rcases List.mem_cons.mp hb with rfl | hb
    ·rintro rfl;exact nL ha
    ·exact nd.2.2 a ha b hb
   ·rcases List.mem_append.mp he with he | he
    ·exact ent_up (each e (List.mem_append_left _ he)) (ne e (List.mem_append_left _ he)) (tu _)
    ·rcases List.mem_cons.mp he with rfl | he
     ·refine⟨hn,by show At2 _ r t' b';rw[At2,jQ rd];exact e2,pb,tz, ?_, ?_, ?_⟩
      ·show fv t' b'=bump c n (fv o u) n;unfold bump;rw[if_pos rfl];exact ev
      ·show t'.natAbs<2^xB sz n (m+1) n;unfold xB;rw[if_pos rfl];exact st
      ·show b'.natAbs<2^xB sz n (m+1) n;unfold xB;rw[if_pos rfl];exact sb
     ·exact ent_up (each e (List.mem_append_right _ he)) (ne e (List.mem_append_right _ he)) (tu _)
   ·by_cases jn:j=n
    ·exact⟨⟨n,r,t',b'⟩,by simp,jn.symm⟩
    ·unfold bump at hj;rw[if_neg jn,Rat.add_zero]at hj;obtain⟨e,he,ee⟩:=all j hj jn;refine⟨e, ?_,ee⟩;rcases List.mem_append.mp he with he | he
     ·exact List.mem_append_left _ he
     ·exact List.mem_append_right _ (List.mem_cons_of_mem _ he)
   ·exact ent_up (each e he) (ne e he) tu3
   ·by_cases jn:j=n
    ·subst jn;refine absurd ?_ hj;unfold bump;rw[if_pos rfl,<-ev,tz];exact nM pb (by decide) (by simp) |>.trans fv_zero
    ·unfold bump at hj;rw[if_neg jn,Rat.add_zero]at hj;exact all j hj jn
  by_cases hin:n∈EE.map Ent.n
  ·obtain⟨e,he,en⟩:=List.mem_map.mp hin;obtain⟨L,R,eE⟩:=List.append_of_mem he;have hE:=hD.each e he;have nd:=hD.nd;rw[eE,List.map_append,List.map_cons]at nd;have nL:n∉L.map Ent.n:=λy=>by
    rw[<-en]at y;exact(List.nodup_append.mp nd).2.2 _ y _ (List.mem_cons_self ..) rfl
   have nR:n∉R.map Ent.n:=λy=>by
    rw[<-en]at y;exact(List.nodup_cons.mp (List.nodup_append.mp nd).2.1).1 y
   have km:EE.map Ent.kv=L.map Ent.kv++(LwD.ik [(n:Int)],V.ref e.c)::R.map Ent.kv:=by
    rw[eE,List.map_append,List.map_cons,<-en]
    rfl
   have ev:valV (EE.map Ent.kv) (LwD.ik [(n:Int)])=some (.ref e.c):=by rw[km];exact val_mid (xK nL)
   rw[ev];have est:=hE.st;have esb:=hE.sb;rw[en]at est esb;refine⟨e.c,q,e.t,e.b,o,u,rfl,s1 _ _ hE.at',s1 _ _ hq,hE.pos,pu,jE est hs,jE esb hs,jE ho (by omega),jE hu' hm,λr t' b' H2 n2 s2 e2 pb lb eq=>?_⟩;have s12:Same H H2:=s1.trans s2;have hd2:H2 d=some (.dT (EE.map Ent.kv)):=s12 _ _ hd;have hb2:H2 b=some (.tup ((LwD.ik [(n:Int)]).map kV)):=s12 _ _ hb';have bd:∀o,But d H (upd H2 d o):=λo x y hx hn=>by
    rw[jQ hn];exact s12 _ _ hx
   have bits:=qN hE.pos pu est esb ho hu' lb eq;have fv1:fv t' b'=c n+fv o u:=by rw[vE hE.pos pu pb eq,hE.val,en]
   have ndL:((L++R).map Ent.n).Nodup:=by
    rw[List.map_append];rw[List.nodup_append]at nd ⊢;exact⟨nd.1,(List.nodup_cons.mp nd.2.1).2,λa ha b hb=>nd.2.2 a ha b (List.mem_cons_of_mem _ hb)⟩
   have sub:∀x∈L++R,x∈EE:=λx hx=>by
    rw[eE];rcases List.mem_append.mp hx with hx | hx
    ·exact List.mem_append_left _ hx
    ·exact List.mem_append_right _ (List.mem_cons_of_mem _ hx)
   have ff:=fin L R H2 r t' b' s12 n2 e2 pb fv1 bits.1 bits.2 nL nR ndL (λx hx=>hD.each x (sub x hx)) (λj hj jn=>by
    obtain⟨x,hx,ex⟩:=hD.all j hj;refine⟨x, ?_,ex⟩;rw[eE]at hx;rcases List.mem_append.mp hx with hx | hx
    ·exact List.mem_append_left _ hx
    ·rcases List.mem_cons.mp hx with rfl | hx
     ·exact absurd (ex.symm.trans en) jn
     ·exact List.mem_append_right _ hx)
   refine⟨_,rfl,r,_,_,_,rfl,rfl,SqT.of e2,rfl,rfl,_,rfl, ?_⟩;refine ite2 (λnz=>?_) (λz0=>?_)
   ·refine⟨_,rfl,_,rfl,_,rfl,d,_,rfl,DPut.t (k:=LwD.ik [(n:Int)]) hd2 hb2 kz, ?_⟩;have tz:t'≠0:=λy=>by rw[y]at nz;simp at nz
    refine go _ (bd _) ?_;have:=ff.1 tz;rw[km,put_mid (xK nL) (xK nR)];exact this
   ·have tz:t'=0:=by
     by_cases y:t'=0
     ·exact y
     ·exact absurd (by simp [y]) z0
    refine⟨_,rfl,_,rfl,d,_,rfl,DGet.t (k:=LwD.ik [(n:Int)]) hd2 hb2,_,rfl, ?_⟩;rw[ev];refine iteT ⟨_,rfl,d,rfl,.inr ⟨_,.inl hd2⟩,_,rfl,_,LwD.ik [(n:Int)],_,b,hd2,rfl,hb2,ev, ?_⟩;refine go _ (bd _) (ff.2 tz _ (λa xs ea=>?_) ?_)
    ·rw[jQ (λy=>by rw[y,hd]at ea;cases ea)];exact s12 _ _ ea
    ·rw[jK,km,drop_mid (xK nL) (xK nR),List.map_append]
  ·have ev:valV (EE.map Ent.kv) (LwD.ik [(n:Int)])=none:=val_out (xK hin);rw[ev];have c0:c n=0:=hD.out λe he z=>hin (List.mem_map.mpr ⟨e,he,z⟩);refine⟨z,q,0,1,o,u,rfl,e1,s1 _ _ hq,by decide,pu,by show 0<_;exact Nat.pow_pos (by decide),by show 1<_;exact Nat.one_lt_pow (by decide) (by decide),jE ho (by omega),jE hu' hm,λr t' b' H2 n2 s2 e2 pb lb eq=>?_⟩;have s12:Same H H2:=s1.trans s2;have hd2:H2 d=some (.dT (EE.map Ent.kv)):=s12 _ _ hd;have hb2:H2 b=some (.tup ((LwD.ik [(n:Int)]).map kV)):=s12 _ _ hb';have bd:∀o,But d H (upd H2 d o):=λo x y hx hn=>by
    rw[jQ hn];exact s12 _ _ hx
   have fv1:fv t' b'=c n+fv o u:=by rw[vE (by decide) pu pb eq,fv_zero,c0]
   have bits:t'.natAbs<2^(sz n+m+1)/\b'.natAbs<2^(sz n+m+1):=by
    have hb1:b'.natAbs<=u.natAbs:=by simpa using lb
    have eq1:t'*u=o*b':=by simpa using eq
    have e3:=congrArg Int.natAbs eq1;rw[Int.natAbs_mul,Int.natAbs_mul]at e3;have h6:0<u.natAbs:=by omega
    have h7:t'.natAbs<=o.natAbs:=Nat.le_of_mul_le_mul_right (by rw[e3];exact Nat.mul_le_mul_left _ hb1) h6;have up:(2:Nat)^m<=2^(sz n+m+1):=Nat.pow_le_pow_right (by decide) (by omega);exact⟨Nat.lt_of_le_of_lt h7 (Nat.lt_of_lt_of_le ho up),Nat.lt_of_le_of_lt hb1 (Nat.lt_of_lt_of_le hu' up)⟩
   have ff:=fin EE [] H2 r t' b' s12 n2 e2 pb fv1 bits.1 bits.2 hin (by simp) (by rw[List.append_nil];exact hD.nd) (λx hx=>hD.each x (by simpa using hx)) (λj hj _=>by rw[List.append_nil];exact hD.all j hj);refine⟨_,rfl,r,_,_,_,rfl,rfl,SqT.of e2,rfl,rfl,_,rfl, ?_⟩;refine ite2 (λnz=>?_) (λz0=>?_)
   ·refine⟨_,rfl,_,rfl,_,rfl,d,_,rfl,DPut.t (k:=LwD.ik [(n:Int)]) hd2 hb2 kz, ?_⟩;have tz:t'≠0:=λy=>by rw[y]at nz;simp at nz
    refine go _ (bd _) ?_;have:=ff.1 tz;rw[put_out (xK hin)];exact this
   ·have tz:t'=0:=by
     by_cases y:t'=0
     ·exact y
     ·exact absurd (by simp [y]) z0
    refine⟨_,rfl,_,rfl,d,_,rfl,DGet.t (k:=LwD.ik [(n:Int)]) hd2 hb2,_,rfl, ?_⟩;rw[ev];refine iteF ?_;refine go H2 (But.of s12) (ff.2 tz H2 (λa xs ea=>s12 _ _ ea) ?_);rw[List.append_nil];exact hd2
end
end Lw
namespace Lw
open PySem PySem.Spec PyProof.Rows L2 LwQ
theorem Tape.ne{cl:Addr}{H:Hp}{tp:Addr}{B:Int}(T:Tape cl H tp B){d:Addr}{o:HO}(e:H d=some o)(ho:∀xs,o≠.lst xs):d≠tp/\d≠cl:=by
 obtain⟨ns,spot,rest,left,h1,h2,_⟩:=T;refine⟨λz=>?_,λz=>?_⟩
 ·rw[z,h1]at e;cases e;exact ho _ rfl
 ·rw[z,h2]at e;cases e;exact ho _ rfl
theorem Tape.off{cl:Addr}{H:Hp}{tp:Addr}{B:Int}(T:Tape cl H tp B){d:Addr}(e:H d=none):d≠tp/\d≠cl:=by
 obtain⟨ns,spot,rest,left,h1,h2,_⟩:=T;refine⟨λz=>?_,λz=>?_⟩
 ·rw[z,h1]at e;cases e
 ·rw[z,h2]at e;cases e
theorem Tape.upd{cl:Addr}{H:Hp}{tp:Addr}{B B':Int}(T:Tape cl H tp B){l:Addr}(o:HO)(h1:l≠tp)(h2:l≠cl)(hB:B<=B'):Tape cl (upd H l o) tp B':=by
 obtain⟨ns,spot,rest,left,e1,e2,e3,e4,e5⟩:=T;exact⟨ns,spot,rest,left,by rw[jQ (Ne.symm h1)];exact e1,by rw[jQ (Ne.symm h2)];exact e2,e3,e4,by omega⟩
theorem but_put{p l:Addr}{H H':Hp}{o:HO}(b:But p H H')(n:H l=none):But p H (upd H' l o):=λc u h hc=>by
 rw[jQ (kY h n)];exact b c u h hc
theorem DictP.map{H H':Hp}{d:Addr}{c:Nat->Rat}{s:Nat->Nat}(h:DictP H d c s)(hd:∀kvs,H d=some (.dT kvs)->H' d=some (.dT kvs))(hc:∀a xs,H a=some (.tup xs)->H' a=some (.tup xs)):DictP H' d c s:=by
 obtain⟨E,e,r⟩:=h;exact⟨E,hd _ e,r.map hc⟩
theorem DictP.same{H H':Hp}{d:Addr}{c:Nat->Rat}{z:Nat->Nat}(h:DictP H d c z)(s:Same H H'):DictP H' d c z:=h.map (λ_ e=>s _ _ e) λ_ _ e=>s _ _ e
theorem DictP.but{cl:Addr}{H H':Hp}{tp:Addr}{B:Int}{d:Addr}{c:Nat->Rat}{z:Nat->Nat}(h:DictP H d c z)(T:Tape cl H tp B)(b:But tp H H'):DictP H' d c z:=
 h.map (λ_ e=>b _ _ e (T.ne e (λ_ z=>by cases z)).1) λ_ _ e=>b _ _ e (T.ne e (λ_ z=>by cases z)).1
noncomputable def Drawn(c:Nat->Rat)(m:Nat):Prop:=(∀j,m<=j->c j=0)/\∀j,∃t u:Int,0<u/\t.natAbs<2^14/\u.natAbs<2^7/\c j=fv t u
theorem drawn_nil:Drawn (λ_=>0) 0:=⟨λ_ _=>rfl,λ_=>⟨0,1,by decide,by decide,by decide,fv_zero.symm⟩⟩
theorem zH{H:Hp}(s:Nat->Nat):RepE H [] (λ_=>0) s:=⟨List.nodup_nil,(λ_ h=>nomatch h),λ_ h=>absurd rfl h⟩
theorem rep_new{H H':Hp}{E:List Ent}{c:Nat->Rat}{s:Nat->Nat}(h:RepE H E c s){n:Nat}{r:Addr}{t b:Int}(hn:n<24)(c0:∀e∈E,e.n≠n)(k:∀a xs,H a=some (.tup xs)->H' a=some (.tup xs))(at':At2 H' r t b)(pos:0<b)(nz:t≠0)(st:t.natAbs<2^s n)(sb:b.natAbs<2^s n) :
  RepE H' (E++[⟨n,r,t,b⟩]) (bump c n (fv t b)) s:=by
 have cz:c n=0:=h.out c0;refine⟨?_,λe he=>?_,λj hj=>?_⟩
 ·rw[List.map_append,List.nodup_append];refine⟨h.nd,by simp,λa ha b hb=>?_⟩;have hb:b=n:=by simpa using hb
  obtain⟨e,he,rfl⟩:=List.mem_map.mp ha;rw[hb];exact c0 e he
 ·rcases List.mem_append.mp he with he | he
  ·have x:=h.each e he;refine⟨x.lt,k _ _ x.at',x.pos,x.nz, ?_,x.st,x.sb⟩;rw[x.val];unfold bump;rw[if_neg (c0 e he),Rat.add_zero]
  ·rw[List.mem_singleton]at he;subst he;refine⟨hn,at',pos,nz, ?_,st,sb⟩;show fv t b=bump c n (fv t b) n;unfold bump;rw[if_pos rfl,cz,Rat.zero_add]
 ·by_cases jn:j=n
  ·exact⟨⟨n,r,t,b⟩,by simp,jn.symm⟩
  ·unfold bump at hj;rw[if_neg jn,Rat.add_zero]at hj;obtain⟨e,he,ee⟩:=h.all j hj;exact⟨e,List.mem_append_left _ he,ee⟩
noncomputable def spPoly:Sp:=λvs H Q _=>∃(tp:Addr) (most:Nat) (B:Int),vs=[.ref tp,.int most]/\most<=10/\∃cl,Tape cl H tp B/\B<2^30/\
 ∀(d:Addr) (c:Nat->Rat) (H':Hp),H d=none->But tp H H'->Tape cl H' tp (B+200)->DictP H' d c (λ_=>14)->Drawn c (most+1)->Q (.ref d) H'
section
variable{P:Program}{w:World}{K:PySem.W.Frag}{mg:Str->Option Value}{base:Heap}{f fd:_}
theorem scPoly:FnScope ["tape","most","found","power","number"] ["tape","most"] (jO nA):=⟨rfl,rfl,rfl,by decide +kernel,rfl,by decide +kernel,by decide +kernel⟩
theorem ok_poly{fD fL fN:Addr}{fdD fdL fdN:FuncData}(F:Fun K "_law_poly" "_law_poly" nA f fd)(T:Txt mg)(DD:Df K mg "_law_draw" yL ["tape","many"] fD fdD)(DL:Df K mg "_law_low" sLow ["top","bottom"] fL fdL)(DN:Df K mg "_law_number" xC ["tape"] fN fdN):FnOk P w K mg base CX0 3 f fd ["tape","most"] spPoly:=by
 have GD:FnOk P w K mg base CX0 1 fD fdD ["tape","many"] spDraw:=uT DD.F T;have GN:FnOk P w K mg base CX0 2 fN fdN ["tape"] (zF 6 (2^38)):=uF DN.F T DD DL;refine F.ok scPoly (λvs H Q E h=>?_) (λcdv A outer s H vs Q E hr h=>?_)
 ·obtain⟨tp,most,B,rfl,_⟩:=h
  rfl
 ·obtain⟨tp,most,B,rfl,m10,cl,hT,hB,go⟩:=h;have hr1:Room 1 _:=hr.mono (by decide);have hr2:Room 2 _:=hr.mono (by decide);have hu:_+1<cLine:=Nat.lt_of_le_of_lt (Nat.add_le_add_left (by decide:1<=64) _) hr.units;refine⟨_,jB (jI (i:=2) scPoly.nd rfl (Or.inl rfl) (xX))
   (jB (kW PassesOwn.never rfl (qD (by rfl) T.rng (jA (jG GD hr1 rfl DD.m DD.F.kp DD.b .nil jL (jA (pv 0) (jA (jJ kM (pv 1) jD) jC))) jC)) (jH (i:=3) scPoly.nd rfl (Or.inl rfl))
    (jB (jI (i:=4) scPoly.nd rfl (Or.inl rfl) (jG GN hr2 rfl DN.m DN.F.kp DN.b .nil jL (jA (pv 0) jC)))
     (jF (jX (PW.pt (qV (jR wM (jG GD hr1 rfl DD.m DD.F.kp DD.b .nil jL (jA (pv 0) (jA jD jC))) jD (jS _)) (qT (jR uM (jT jU (pv 4) jD (λ_ _=>rfl)) jD (jS _)))))
      (jF (ps_dput hu (pv 2) (jV (jA (pv 3) jC)) (pv 4) rfl)) jP))))
   (jF (jN (pv 2)))), ?_⟩
  intro d nd;have T0:Tape cl (upd H d (.dT [])) tp B:=hT.upd _ (hT.off nd).1 (hT.off nd).2 (Int.le_refl _);refine⟨_,rfl,_,rfl,_,_,rfl,rfl,tp,_,B,rfl,cl,T0,by omega,by omega,by omega,λn H1 c0 c1 T1 b1=>⟨n,rfl,by omega,by omega, ?_⟩⟩;have B1:But tp H H1:=(but_put (But.refl tp H) nd).trans b1;have D1:DictP H1 d (λ_=>0) (λ_=>14):=⟨[],b1 _ _ jK (hT.off nd).1,zH _⟩;have cn:n.toNat<=most+1:=by omega
  refine qE (λi σ H2=>(∃u v,σ=[some (.ref tp),some (.int most),some (.ref d),u,v])/\But tp H H2/\Tape cl H2 tp (B+1+7*i)/\∃c,DictP H2 d c (λ_=>14)/\Drawn c i)
   ⟨⟨_,_,rfl⟩,B1,T1.mono (Same.refl _) (by omega),_,D1,drawn_nil⟩ ?_ ?_
  ·rintro i σ H2 hi ⟨⟨u,v,rfl⟩,B2,T2,c,D2,r2⟩;have i11:i<=10:=by omega
   have p38:(2:Int)^30+300<2^38:=by decide
   refine⟨_,rfl,tp,_,rfl,cl,T2,by omega,λr t b H3 fr e3 rne T3 b3 nw=>?_⟩;have D3:=D2.but T2 b3;refine⟨_,rfl,tp,4,_,rfl,cl,T3,by omega,by decide,by decide,λg H4 g0 g1 T4 b4=>?_⟩;have B4:But tp H H4:=(B2.trans b3).trans b4;have D4:=D3.but T3 b4;have e4:At2 H4 r t b:=b4 _ _ e3 rne;have nxt:(∃c,DictP H4 d c (λ_=>14)/\Drawn c (i+1)):=⟨c,D4,λj hj=>r2.1 j (by omega),r2.2⟩;refine⟨_,_,rfl,rfl,_,rfl, ?_⟩;refine ite2 (λ_=>?_) (λ_=>iteN rfl ⟨⟨_,_,rfl⟩,B4,T4.mono (Same.refl _) (by omega),nxt⟩);refine⟨_,rfl,r,_,_,_,rfl,rfl,SqT.of e4,rfl,rfl,_,rfl, ?_⟩;refine ite2 (λnz=>?_) (λ_=>⟨⟨_,_,rfl⟩,B4,T4.mono (Same.refl _) (by omega),nxt⟩);have tz:t≠0:=λy=>by rw[y]at nz;simp at nz
   obtain⟨E,ed,rE⟩:=D4;have few:=rE.few;have kz:(E.map Ent.kv).length<sizeLine:=by rw[List.length_map];exact Nat.lt_of_le_of_lt few (by decide)
   have ne:∀e∈E,e.n≠i:=λe he z=>by
    have x:=rE.each e he;have:=r2.1 e.n (by omega);rw[<-x.val]at this;exact wV x.pos x.nz this
   refine⟨_,rfl,_,rfl,_,rfl,(by show 1<=sizeLine;decide),λz H5 n5 s5 e5=>?_⟩;have ei:(0:Int)+(i:Int)=(i:Int):=by omega
   rw[ei]at e5;have hb5:H5 z=some (.tup ((LwD.ik [(i:Int)]).map kV)):=by rw[LwD.xM];exact e5
   have hd5:H5 d=some (.dT (E.map Ent.kv)):=s5 _ _ ed;have dn:=T4.ne ed (λ_ z=>by cases z);have ti:i∉E.map Ent.n:=λy=>by
    obtain⟨e,he,ee⟩:=List.mem_map.mp y;exact ne e he ee
   refine⟨d,_,rfl,DPut.t (k:=LwD.ik [(i:Int)]) hd5 hb5 kz,⟨_,_,rfl⟩,λx y hx hn=>?_, ?_,bump c i (fv t b),⟨E++[⟨i,r,t,b⟩], ?_, ?_⟩, ?_, ?_⟩
   ·rw[jQ (λz=>by rw[z,nd]at hx;cases hx)];exact s5 _ _ (B4 _ _ hx hn)
   ·exact(T4.mono s5 (Int.le_refl _)).upd _ dn.1 dn.2 (by omega)
   ·rw[jK,put_out (xK ti),List.map_append]
    rfl
   ·have tu:∀a xs,H4 a=some (.tup xs)->upd H5 d (.dT (putK (E.map Ent.kv) (LwD.ik [(i:Int)]) (V.ref r))) a=some (.tup xs):=λa xs ea=>by
     rw[jQ (λy=>by rw[y,ed]at ea;cases ea)];exact s5 _ _ ea
    exact rep_new rE (by omega) ne tu (tu _ _ e4) fr.pos tz fr.st (jE fr.sb (by decide))
   ·intro j hj;unfold bump;rw[if_neg (by omega),Rat.add_zero];exact r2.1 j (by omega)
   ·intro j;unfold bump;by_cases jn:j=i
    ·rw[if_pos jn,r2.1 j (by omega),Rat.zero_add];exact⟨t,b,fr.pos,fr.st,fr.sb,rfl⟩
    ·rw[if_neg jn,Rat.add_zero];exact r2.2 j
  ·rintro σ H2 ⟨⟨u,v,rfl⟩,B2,T2,c,D2,r2⟩;refine⟨_,rfl,go d c H2 nd B2 (T2.mono (Same.refl _) (by omega)) D2 ⟨λj hj=>r2.1 j (by omega),r2.2⟩⟩
end
end Lw
namespace Lw
open PySem PySem.Spec PyProof.Rows L2 LwQ
theorem low_cross{n d:Int}(hd:0<d):lowT n d*d=n*lowB n d:=by
 rw[vH hd,vX hd];obtain⟨a,ha⟩:=Int.gcd_dvd_left (a:=n) (b:=d);obtain⟨b,hb⟩:=Int.gcd_dvd_right (a:=n) (b:=d);have g1:=LwM.qQ n d hd;generalize (Int.gcd n d:Int)=g at ha hb g1;subst ha hb;rw[Int.mul_ediv_cancel_left _ (by omega),Int.mul_ediv_cancel_left _ (by omega)]
 grind
theorem wU{n d:Int}(hd:0<d):0<lowB n d:=by
 have g1:=LwM.qQ n d hd;rw[vX hd];exact Int.ediv_pos_of_pos_of_dvd hd (by omega) (Int.gcd_dvd_right ..)
theorem low_gcd{n d:Int}(hd:0<d):Int.gcd (lowT n d) (lowB n d)=1:=by
 have g1:=LwM.qQ n d hd;rw[vH hd,vX hd];exact Int.gcd_ediv_gcd_ediv_gcd (by omega)
theorem lowT_le{n d:Int}(hd:0<d):(lowT n d).natAbs<=n.natAbs:=by
 rw[vH hd];exact LwM.wY _ _ (LwM.qQ n d hd)
theorem lowB_le{n d:Int}(hd:0<d):(lowB n d).natAbs<=d.natAbs:=by
 rw[vX hd];exact LwM.wY _ _ (LwM.qQ n d hd)
theorem fv_low{n d:Int}(hd:0<d):fv (lowT n d) (lowB n d)=fv n d:=nM (wU hd) hd (low_cross hd)
theorem perm_lift{α β:Type}{f:α->β}{zs l:List β}(p:zs.Perm l):∀E:List α,l=E.map f->∃E':List α,E'.Perm E/\zs=E'.map f:=by
 induction p with
 | nil=>
  intro E h;have:E=[]:=by simpa using h.symm
  exact⟨[],by rw[this],rfl⟩
 | @cons x l1 l2 _ ih=>
  intro E h
  match E,h with
  | e::E2,h=>
   rw[List.map_cons]at h;injection h with h1 h2
   obtain⟨E',p',rfl⟩:=ih E2 h2;exact⟨e::E',p'.cons e,by rw[List.map_cons,h1]⟩
 | @swap x y l=>
  intro E h
  match E,h with
  | e1::e2::E2,h=>
   rw[List.map_cons,List.map_cons]at h;injection h with h1 h2
   injection h2 with h2 h3
   exact⟨e2::e1::E2,List.Perm.swap ..,by rw[List.map_cons,List.map_cons,h1,h2,h3]⟩
 | @trans l1 l2 l3 _ _ ih1 ih2=>
  intro E h;obtain⟨E2,p2,e2⟩:=ih2 E h;obtain⟨E1,p1,e1⟩:=ih1 E2 e2;exact⟨E1,p1.trans p2,e1⟩
theorem kF{H H':Hp}{l:Addr}{o:HO}(s:Same H H')(n:H l=none):Same H (upd H' l o):=λc u h=>by
 rw[jQ (kY h n)];exact s c u h
section
variable{X:Cx}
noncomputable def rTupZ(K:PySem.W.Frag):List V->Hp->VK->Prop:=λxs H Q=>∃p ys,xs=[.ref p]/\SqL K H p ys/\∀(l:Addr) (o:Obj),H l=none->o.dict=none->Q (.ref l) (upd H l (.frz o (.tup ys)))
theorem call_tupleZ:CallR X (.type "tuple") (rTupZ X.K):=by
 intro pins s σ H xs us Q I r h;obtain⟨p,ys,rfl,hq,q⟩:=h;obtain⟨u,rfl,rx⟩:=vQ r;cases rx;obtain⟨its,r',pl,hz⟩:=I.list hq;have hlen:=r'.length;refine call_tuple_list pl.isList (λh' kp=>?_) (by simp only[List.size_toArray]<;>omega);have I1:Inv X pins σ H { s with heap:=h' } :=I.kept (t':=s.toks) kp;have I2:Inv X pins σ (upd H h'.objs.size (.frz { cls:=.type "tuple",data:=.seq its.toArray } (.tup ys))) { s with heap:=h'.push { cls:=.type "tuple",data:=.seq its.toArray } } :=
  I1.laid (t':=s.toks) (λb o e=>Heap.get?_push_of_some _ e) (Nat.le_refl _) (show ObjOk X.prog X.w _ _ _ (.frz _ (.tup ys))from⟨Heap.get?_push_size _ rfl,hz,its,r',IsTup.new _ _⟩)
 exact⟨.ref h'.objs.size,_,I2,rfl,q _ _ (I1.hok.fresh (Nat.le_refl _)) rfl⟩
end
noncomputable def sup(c:Nat->Rat):List Nat:=(List.range 24).filter λn=>decide (c n≠0)
theorem sup_pw(c:Nat->Rat):(sup c).Pairwise (· < ·):=List.Pairwise.filter _ List.pairwise_lt_range
theorem inc_eq:∀{l m:List Nat},l.Pairwise (· < ·)->m.Pairwise (· < ·)->(∀x,x∈l↔x∈m)->l=m
 | [],[],_,_,_=>rfl
 | [],b::m,_,_,h=>absurd ((h b).mpr (List.mem_cons_self ..)) (List.not_mem_nil)
 | a::l,[],_,_,h=>absurd ((h a).mp (List.mem_cons_self ..)) (List.not_mem_nil)
 | a::l,b::m,p,q,h=>by
  have p1:=List.pairwise_cons.mp p;have q1:=List.pairwise_cons.mp q;have e:a=b:=by
   have h1:=List.mem_cons.mp ((h a).mp (List.mem_cons_self ..));have h2:=List.mem_cons.mp ((h b).mpr (List.mem_cons_self ..));rcases h1 with h1 | h1
   ·exact h1
   ·rcases h2 with h2 | h2
    ·exact h2.symm
    ·have:=q1.1 a h1;have:=p1.1 b h2;omega
  subst e;rw[inc_eq p1.2 q1.2 λx=>⟨λhx=>?_,λhx=>?_⟩]
  ·rcases List.mem_cons.mp ((h x).mp (List.mem_cons_of_mem _ hx))with z | z
   ·have:=p1.1 x hx;omega
   ·exact z
  ·rcases List.mem_cons.mp ((h x).mpr (List.mem_cons_of_mem _ hx))with z | z
   ·have:=q1.1 x hx;omega
   ·exact z
noncomputable def TermP(H:Hp)(c:Nat->Rat)(x:V)(n:Nat):Prop:=∃r b q:Addr,x=.ref r/\H r=some (.tup [.ref b,.ref q])/\H b=some (.tup [.int n])/\At2 H q (c n).num (c n).den
theorem TermP.map{H H':Hp}{c:Nat->Rat}{x:V}{n:Nat}(h:TermP H c x n)(k:∀a xs,H a=some (.tup xs)->H' a=some (.tup xs)):TermP H' c x n:=by
 obtain⟨r,b,q,e1,e2,e3,e4⟩:=h;exact⟨r,b,q,e1,k _ _ e2,k _ _ e3,k _ _ e4⟩
noncomputable def TermsP(H:Hp)(c:Nat->Rat)(xs:List V)(l:List Nat):Prop:=Paired (TermP H c) xs l
theorem TermsP.map{H H':Hp}{c:Nat->Rat}{xs:List V}{l:List Nat}(h:TermsP H c xs l)(k:∀a xs,H a=some (.tup xs)->H' a=some (.tup xs)):TermsP H' c xs l:=Paired.mono (λ_ _ y=>TermP.map y k) h
structure SumC(H:Hp)(p:Addr)(c:Nat->Rat):Prop where
 ex:∃(q:Addr) (o:Obj) (xs:List V),H p=some (.tup [.int 1,.ref q])/\H q=some (.frz o (.tup xs))/\o.dict=none/\TermsP H c xs (sup c)
theorem SumC.same{H H':Hp}{p:Addr}{c:Nat->Rat}(h:SumC H p c)(s:Same H H'):SumC H' p c:=by
 obtain⟨q,o,xs,e1,e2,e3,e4⟩:=h.ex;exact⟨q,o,xs,s _ _ e1,s _ _ e2,e3,e4.map λ_ _ e=>s _ _ e⟩
noncomputable def FrzP(H:Hp)(d:Addr)(c:Nat->Rat)(s:Nat->Nat):Prop:=∃E o,H d=some (.frz o (.dT (E.map Ent.kv)))/\RepE H E c s
theorem FrzP.same{H H':Hp}{d:Addr}{c:Nat->Rat}{z:Nat->Nat}(h:FrzP H d c z)(s:Same H H'):FrzP H' d c z:=by
 obtain⟨E,o,e,r⟩:=h;exact⟨E,o,s _ _ e,r.map λ_ _ q=>s _ _ q⟩
theorem FrzP.but{H H':Hp}{d x:Addr}{c:Nat->Rat}{z:Nat->Nat}(h:FrzP H d c z)(b:But x H H')(n:∀a u,H a=some u->(∀xs,u≠.lst xs)->(∀kvs,u≠.dT kvs)->a≠x):FrzP H' d c z:=by
 obtain⟨E,o,e,r⟩:=h;exact⟨E,o,b _ _ e (n _ _ e (λ_ z=>by cases z) (λ_ z=>by cases z)),r.map λ_ _ q=>b _ _ q (n _ _ q (λ_ z=>by cases z) (λ_ z=>by cases z))⟩
theorem val_in{E:List Ent}(nd:(E.map Ent.n).Nodup){e:Ent}(he:e∈E):valV (E.map Ent.kv) (LwD.ik [(e.n:Int)])=some (.ref e.c):=by
 obtain⟨L,R,rfl⟩:=List.append_of_mem he;rw[List.map_append,List.map_cons]at nd ⊢;refine val_mid (xK λy=>?_);exact(List.nodup_append.mp nd).2.2 _ y _ (List.mem_cons_self ..) rfl
theorem zL{H:Hp}{d b:Addr}{o:Obj}{E:List Ent}{c:Nat->Rat}{s:Nat->Nat}(h:H d=some (.frz o (.dT (E.map Ent.kv))))(r:RepE H E c s){e:Ent}(he:e∈E)(hb:H b=some (.tup [.int e.n])):DGet H d (.ref b) (some (.ref e.c)):=
 .inr ⟨_,LwD.ik [(e.n:Int)],b,.inr ⟨o,h⟩,rfl,by rw[LwD.xM];exact hb,(val_in r.nd he).symm⟩
theorem RepE.sup{H:Hp}{E E':List Ent}{c:Nat->Rat}{s:Nat->Nat}(r:RepE H E c s)(p:E'.Perm E)(w:E'.Pairwise λa b=>a.n<b.n):E'.map Ent.n=sup c:=by
 refine inc_eq (List.pairwise_map.mpr w) (sup_pw c) λx=>⟨λhx=>?_,λhx=>?_⟩
 ·obtain⟨e,he,rfl⟩:=List.mem_map.mp hx;have y:=r.each e (p.mem_iff.mp he);refine List.mem_filter.mpr ⟨List.mem_range.mpr y.lt,decide_eq_true ?_⟩;rw[<-y.val];exact wV y.pos y.nz
 ·obtain⟨h1,h2⟩:=List.mem_filter.mp hx;obtain⟨e,he,ee⟩:=r.all x (of_decide_eq_true h2);exact List.mem_map.mpr ⟨e,p.mem_iff.mpr he,ee⟩
noncomputable def spLSum:Sp:=λvs H Q _=>∃(d:Addr) (c:Nat->Rat) (s:Nat->Nat),vs=[.int 1,.ref d]/\FrzP H d c s/\(∀n,s n<=8000)/\∀(p:Addr) (H':Hp),H p=none->Same H H'->SumC H' p c->Q (.ref p) H'
section
variable{P:Program}{w:World}{K:PySem.W.Frag}{mg:Str->Option Value}{base:Heap}{f fd:_}
theorem scLSum:FnScope ["many","one","terms","powers","number"] ["many","one"] (jO gR):=⟨rfl,rfl,rfl,by decide +kernel,rfl,by decide +kernel,by decide +kernel⟩
theorem ok_lsum{fL:Addr}{fdL:FuncData}(F:Fun K "_law_sum" "_law_sum" gR f fd)(T:Txt mg)(DL:Df K mg "_law_low" sLow ["top","bottom"] fL fdL):FnOk P w K mg base CX0 2 f fd ["many","one"] spLSum:=by
 have GL:FnOk P w K mg base CX0 1 fL fdL ["top","bottom"] spLow:=uG DL.F T;refine F.ok scLSum (λvs H Q E h=>?_) (λcdv A outer s H vs Q E hr h=>?_)
 ·obtain⟨d,c,sz,rfl,_⟩:=h
  rfl
 ·obtain⟨d,c,sz,rfl,⟨EE,o,hd,hD⟩,hs,go⟩:=h;have hu:_+1<cLine:=Nat.lt_of_le_of_lt (Nat.add_le_add_left (by decide:1<=64) _) hr.units;refine⟨_,jB (jI (i:=2) scLSum.nd rfl (Or.inl rfl) (kR jC)) (jB (kW PassesOwn.never rfl (vC (kA (LwD.call_sortS rfl) (by rfl) T.sorted boot_sorted (jA (pv 1) jC))) (jH (i:=3) scLSum.nd rfl (Or.inl rfl)) (jF (jX (jR uM (jT jU (xO hu (pv 1) (pv 3) (λ_ _=>rfl)) jD (λ_ _=>rfl)) jD (jS _)) (jB (jI (i:=4) scLSum.nd rfl (Or.inl rfl) (jG GL hr rfl DL.m DL.F.kp DL.b .nil jL (jA (jT jU (xO hu (pv 1) (pv 3) (λ_ _=>rfl)) jD (λ_ _=>rfl)) (jA (jT jU (xO hu (pv 1) (pv 3) (λ_ _=>rfl)) jD (λ_ _=>rfl)) jC)))) (jF (xD (pe_bm PySem.F.plainAttrs_list PySem.F.slot_list_append PySem.F.type_list_append xF (pv 2) (jA (jV (jA (pv 3) (jA (pv 4) jC))) jC))))) jP))) (jF (jN (jV (jA (pv 0) (jA (vL call_tupleZ (by rfl) T.tup boot_tuple (jA (pv 2) jC)) jC)))))), ?_⟩;refine⟨(by show 0<=sizeLine;decide),λl H1 n1 s1 e1=>?_⟩;refine⟨_,rfl,d,_,rfl,.inr ⟨o,s1 _ _ hd⟩,by rw[List.length_map];exact Nat.lt_of_le_of_lt hD.few (by decide),λp hp=>?_,λys zs pz ky pw sl H2 n2 s2 e2=>⟨sl,rfl,⟨ys,SqL.of e2⟩, ?_⟩⟩
  ·obtain⟨e,he,rfl⟩:=List.mem_map.mp hp;exact⟨[(e.n:Int)],rfl,by simp⟩
  obtain⟨E',pE,rfl⟩:=perm_lift pz EE rfl;have inc:E'.Pairwise λa b=>a.n<b.n:=by
   refine(List.pairwise_map.mp pw).imp fun {a b} h=>?_;have h:LwD.lexI (LwD.xL (LwD.ik [(a.n:Int)])) (LwD.xL (LwD.ik [(b.n:Int)]))=true:=h;rw[LwD.mC,LwD.mC]at h;unfold LwD.lexI at h;split at h
   ·simp [LwD.lexI]at h
   ·have:=of_decide_eq_true h;omega
  have es:=hD.sup pE inc;have s12:Same H H2:=s1.trans s2;have ls:sl≠l:=λz=>by rw[z,e1]at n2;cases n2
  have yl:ys.length=E'.length:=by rw[ky.1,List.length_map]
  have l24:E'.length<=24:=by rw[pE.length_eq];exact hD.few
  refine wW (K:=K) (a:=sl) (xs:=ys) (λi σ H3=>(∃u v,σ=[some (.int 1),some (.ref d),some (.ref l),u,v])/\Same H H3/\H3 sl=some (.lst ys)/\(∀a xs,H2 a=some (.tup xs)->H3 a=some (.tup xs))/\∃xs,H3 l=some (.lst xs)/\TermsP H3 c xs ((E'.take i).map Ent.n))
   ⟨⟨_,_,rfl⟩,s12,e2,λ_ _ e=>e,[],s2 _ _ e1,.nil⟩ (λi σ H3 _ h=>SqL.of h.2.2.1) ?_ ?_
  ·rintro i y σ H3 hyi ⟨⟨u,v,rfl⟩,s3,es3,kt,xs,el,hx⟩;have hiy:i<ys.length:=(List.getElem?_eq_some_iff.mp hyi).1;have hie:i<E'.length:=by omega
   obtain⟨e,he⟩:∃e,E'[i]? = some e:=⟨E'[i],by simp [hie]⟩;obtain⟨b,ns,rfl,hb1,hk⟩:=ky.2 i y e.kv hyi (by rw[List.getElem?_map,he];rfl);have ens:[(e.n:Int)]=ns:=ik_inj hk;subst ens;have eE:e∈EE:=pE.mem_iff.mp (List.mem_of_getElem? he);have D3:=hD.map (H':=H3) λ_ _ q=>s3 _ _ q;have hE:=D3.each e eE;have hb3:H3 b=some (.tup [.int e.n]):=kt _ _ (s2 _ _ hb1);have g3:=zL (s3 _ _ hd) D3 eE hb3;have c3:=SqT.of (K:=K) hE.at';have xl:xs.length=i:=by
    have:=Paired.length hx;rw[List.length_map,List.length_take]at this;omega
   refine⟨_,rfl,_,rfl,d,_,rfl,g3,e.c,_,_,_,rfl,rfl,c3,rfl,rfl,_,rfl, ?_⟩;refine iteP ?_ ?_
   ·rw[Bool.not_eq_true',decide_eq_false];intro z;injection z with z
    exact hE.nz z
   ·refine⟨_,rfl,_,rfl,d,_,rfl,g3,e.c,_,_,_,rfl,rfl,c3,rfl,_,rfl,_,rfl,d,_,rfl,g3,e.c,_,_,_,rfl,rfl,c3,rfl,e.t,e.b,rfl, ?_,.inl ?_,λr H4 n4 s4 e4=>?_⟩
    ·have:=hE.pos;omega
    ·exact jE hE.sb (hs _)
    refine⟨_,rfl,.inl ⟨rfl,_,SqL.of (s4 _ _ el)⟩,_,rfl,_,rfl,(by show 2<=sizeLine;decide),λq H5 n5 s5 e5=>?_⟩;have s45:=s4.trans s5;have el5:=s45 _ _ el;refine⟨l,_,_,rfl,rfl,el5,Nat.lt_of_le_of_lt (show xs.length<=24 by omega) (by decide), ?_⟩;have ku:∀(o:HO) a xs,H5 a=some (.tup xs)->upd H5 l o a=some (.tup xs):=λo a xs e=>by
     rw[jQ (λz=>by rw[z,el5]at e;cases e)];exact e
    refine⟨⟨_,_,rfl⟩,kF (s3.trans s45) n1, ?_,λa xs e=>ku _ _ _ (s45 _ _ (kt _ _ e)),_,jK, ?_⟩
    ·rw[jQ ls];exact s45 _ _ es3
    ·have tk:(E'.take (i+1)).map Ent.n=(E'.take i).map Ent.n++[e.n]:=by
      obtain⟨h1,h2⟩:=List.getElem?_eq_some_iff.mp he;rw[List.take_succ_eq_append_getElem h1,h2,List.map_append]
      rfl
     rw[tk];refine Paired.snoc (hx.map λa xs e=>ku _ _ _ (s45 _ _ e)) ⟨q,b,r,rfl,ku _ _ _ e5,ku _ _ _ (s45 _ _ hb3), ?_⟩;have nm:=hW (wU (n:=e.t) hE.pos) (low_gcd hE.pos);rw[fv_low hE.pos,hE.val]at nm;unfold At2;rw[nm.1,nm.2];exact ku _ _ _ (s5 _ _ e4)
  ·rintro σ H3 ⟨⟨u,v,rfl⟩,s3,es3,kt,xs,el,hx⟩;refine⟨_,rfl,_,rfl,l,_,rfl,SqL.of el,λq oq nq dq=>⟨(by show 2<=sizeLine;decide),λp H5 n5 s5 e5=>?_⟩⟩;have s4:Same H3 (upd H3 q (.frz oq (.tup xs))):=kH _ nq;rw[yl,List.take_length,es]at hx;exact go p H5 ((s3.trans s4).free n5) (s3.trans (s4.trans s5)) ⟨q,oq,xs,e5,s5 _ _ jK,dq,hx.map λa xs e=>s5 _ _ (s4 _ _ e)⟩
end
end Lw
namespace Lw
open PySem PySem.Spec PyProof.Rows L2 LwQ
theorem comp_keysN{d:Addr}{o:Obj}{kvs:List (List Key×V)}{xs:List V}{n:Nat}{g:TG}{te:TE}{Q:VK}{p:Addr}{H':Hp}(Pv:Nat->List V->Hp->Prop)(hz:xs.length<sizeLine)(h0:Pv 0 [] H')
  (hl:∀i ys H2,Pv i ys H2->H2 d=some (.frz o (.dT kvs))/\H2 p=some (.lst ys))
  (hs:∀i m ys x H2,xs[i]? = some x->m=xs.length-i->ys.length=i->Pv i ys H2->g x (List.replicate n none) H2 fun σ4 H4=>te σ4 H4 λy H5=>H5 p=some (.lst ys)/\∃m',m'<m/\CompW xs Pv (i+1) m' (ys++[y]) (upd H5 p (.lst (ys++[y]))))
  (hd:∀ys H2,ys.length=xs.length->Pv xs.length ys H2->Q (.ref p) H2):CompGo n (LwD.Itk d o kvs xs) g te Q p H':=by
 refine⟨CompW xs Pv,⟨_,rfl,Nat.zero_le _,rfl,h0⟩, ?_⟩;rintro i m ys H2 ⟨hm,hi,hy,hp⟩;obtain⟨q,e⟩:=hl i ys H2 hp;refine⟨e,by omega, ?_⟩;by_cases hlt:i<xs.length
 ·refine .inr ⟨⟨q,hlt⟩, ?_⟩;rintro x H3 ⟨rfl,y⟩;exact hs i m ys x _ y hm hy hp
 ·obtain rfl:i=xs.length:=by omega
  exact .inl ⟨⟨q,rfl⟩,hd ys H2 hy hp⟩
noncomputable def IsDeg(c:Nat->Rat)(n:Nat):Prop:=(∀j,c j≠0->j<=n)/\(n=0∨c n≠0)
theorem IsDeg.uniq{c:Nat->Rat}{n m:Nat}(h:IsDeg c n)(k:IsDeg c m):n=m:=by
 have h1:n<=m:=by
  rcases h.2 with z | z
  ·omega
  ·exact k.1 n z
 have h2:m<=n:=by
  rcases k.2 with z | z
  ·omega
  ·exact h.1 m z
 omega
theorem yA{H:Hp}{E:List Ent}{ks:List V}(hk:LwD.Keyed H ks (E.map Ent.kv)){j:Nat}{x:V}(hx:ks[j]? = some x):∃e b,E[j]? = some e/\x=.ref b/\H b=some (.tup [.int e.n]):=by
 have hj:j<ks.length:=(List.getElem?_eq_some_iff.mp hx).1;have lk:ks.length=E.length:=by rw[hk.1,List.length_map]
 obtain⟨e,he⟩:∃e,E[j]? = some e:=⟨E[j],by simp [<-lk,hj]⟩;obtain⟨b,ns',rfl,hb,hns⟩:=hk.2 j x e.kv hx (by rw[List.getElem?_map,he];rfl);have ens:[(e.n:Int)]=ns':=ik_inj hns;subst ens;exact⟨e,b,he,rfl,hb⟩
noncomputable def spDeg:Sp:=λvs H Q _=>∃(d:Addr) (c:Nat->Rat) (s:Nat->Nat),vs=[.ref d]/\FrzP H d c s/\∀(n:Nat) (H':Hp),Same H H'->IsDeg c n->Q (.int n) H'
section
variable{P:Program}{w:World}{K:PySem.W.Frag}{mg:Str->Option Value}{base:Heap}{f fd:_}
theorem scDeg:FnScope ["one"] ["one"] (jO sDeg):=⟨rfl,rfl,rfl,by decide +kernel,rfl,by decide +kernel,by decide +kernel⟩
theorem ok_deg(F:Fun K "_law_deg" "_law_deg" sDeg f fd)(T:Txt mg):FnOk P w K mg base CX0 1 f fd ["one"] spDeg:=by
 refine F.ok scDeg (λvs H Q E h=>?_) (λcdv A outer s H vs Q E hr h=>?_)
 ·obtain⟨d,c,sz,rfl,_⟩:=h
  rfl
 ·obtain⟨d,c,sz,rfl,⟨EE,o,hd,hD⟩,go⟩:=h;refine⟨_,jF (jN (kA (LwMx.call_max1 rfl) (by rfl) T.max (show bootBuiltins "max" = some (.builtin "max") by decide +kernel) (jA (jJ qH (kR (jA jD jC))
   (wL (N:=["powers"]) rfl rfl (by decide +kernel) (by decide +kernel) (by decide +kernel) (LwD.zI (pv 0)) (λC fp s2 H2=>jH (i:=0) (show List.Nodup (["powers"]:List Str) by decide +kernel) rfl (Or.inl rfl))
    (λC fp s2 H2=>jT (show IxR (qZ _ ["powers"] _ C fp s2 H2) (rIxT K)from jU) (pv 0) jD (λ_ _=>rfl)))) jC))), ?_⟩
  refine⟨(by show 1<=sizeLine;decide),λz H1 n1 s1 e1=>?_⟩;refine⟨_,rfl,d,o,_,rfl,s1 _ _ hd,λp hp=>?_,λks hk=>λl H2 n2 s2 e2=>?_⟩
  ·obtain⟨e,he,rfl⟩:=List.mem_map.mp hp;exact⟨_,rfl⟩
  have lk:ks.length=EE.length:=by rw[hk.1,List.length_map]
  refine comp_keysN (d:=d) (o:=o) (xs:=ks) (λi ys H3=>Same H1 H3/\H3 l=some (.lst ys)/\ys=(EE.take i).map λe=>V.int e.n) (by rw[lk];exact Nat.lt_of_le_of_lt hD.few (by decide)) ⟨s2,e2,rfl⟩ (λi ys H3 h=>⟨h.1 _ _ (s1 _ _ hd),h.2.1⟩) ?_ ?_
  ·rintro j mm ys x H3 hx hmm hy ⟨s3,e3,hys⟩;obtain⟨e,b,he,rfl,hb⟩:=yA hk hx;refine⟨_,rfl,b,_,_,_,rfl,rfl,SqT.of (s3 _ _ hb),rfl, ?_⟩;refine kZ hx hmm hy e3 ⟨kF s3 n2,jK, ?_⟩;rw[hys,List.take_succ,he,List.map_append]
   rfl
  ·rintro ys H3 hy ⟨s3,e3,hys⟩;rw[lk,List.take_length]at hys;have hl:[V.int 0]++ys=((0:Int)::EE.map λe=>(e.n:Int)).map V.int:=by
    rw[hys,List.map_cons,List.map_map]
    rfl
   refine⟨z,l,_,_,rfl,rfl,s3 _ _ e1,e3, ?_,λq H4 n4 s4 e4=>?_⟩
   ·rw[hys,List.length_map];have:=hD.few;show 1+EE.length<=sizeLine;exact Nat.le_trans (show 1+EE.length<=25 by omega) (by decide)
   rw[hl]at e4;refine⟨q,_,rfl,e4,by simp,λm hm hmx=>?_⟩;have hs:Same H H4:=(s1.trans s3).trans s4;have m0:0<=m:=hmx 0 (List.mem_cons_self ..);obtain⟨k,rfl⟩:=Int.eq_ofNat_of_zero_le m0;refine go k H4 hs ⟨λj hj=>?_, ?_⟩
   ·obtain⟨e,he,ee⟩:=hD.all j hj;have:=hmx e.n (List.mem_cons_of_mem _ (List.mem_map.mpr ⟨e,he,rfl⟩));omega
   ·rcases List.mem_cons.mp hm with y | y
    ·left;omega
    ·right
     obtain⟨e,he,ee⟩:=List.mem_map.mp y;have x:=hD.each e he;have:e.n=k:=by omega
     rw[<-this,<-x.val];exact wV x.pos x.nz
end
end Lw
namespace Lw
open PySem PySem.Spec PyProof.Rows L2 LwQ
noncomputable def RdP(H:Hp)(d:Addr)(c:Nat->Rat)(s:Nat->Nat):Prop:=∃E,Rd H d (.dT (E.map Ent.kv))/\RepE H E c s
theorem DictP.rd{H:Hp}{d:Addr}{c:Nat->Rat}{s:Nat->Nat}(h:DictP H d c s):RdP H d c s:=let ⟨E,e,r⟩:=h;⟨E,.inl e,r⟩
theorem FrzP.rd{H:Hp}{d:Addr}{c:Nat->Rat}{s:Nat->Nat}(h:FrzP H d c s):RdP H d c s:=let ⟨E,o,e,r⟩:=h;⟨E,.inr ⟨o,e⟩,r⟩
theorem RepE.mono{H:Hp}{E:List Ent}{c:Nat->Rat}{s s':Nat->Nat}(h:RepE H E c s)(k:∀j,s j<=s' j):RepE H E c s':=
 ⟨h.nd,λe he=>let x:=h.each e he;⟨x.lt,x.at',x.pos,x.nz,x.val,jE x.st (k _),jE x.sb (k _)⟩,h.all⟩
theorem DictP.mono{H:Hp}{d:Addr}{c:Nat->Rat}{s s':Nat->Nat}(h:DictP H d c s)(k:∀j,s j<=s' j):DictP H d c s':=let ⟨E,e,r⟩:=h;⟨E,e,r.mono k⟩
theorem FrzP.mono{H:Hp}{d:Addr}{c:Nat->Rat}{s s':Nat->Nat}(h:FrzP H d c s)(k:∀j,s j<=s' j):FrzP H d c s':=let ⟨E,o,e,r⟩:=h;⟨E,o,e,r.mono k⟩
noncomputable def ptR(E:List Ent)(c:Nat->Rat)(i:Nat):Nat->Rat:=λj=>if j∈(E.take i).map Ent.n then c j else 0
noncomputable def ptN(E:List Ent)(s:Nat->Nat)(i:Nat):Nat->Nat:=λj=>if j∈(E.take i).map Ent.n then s j else 0
theorem vW{E:List Ent}{i:Nat}{e:Ent}(he:E[i]? = some e)(j:Nat):j∈(E.take (i+1)).map Ent.n↔j∈(E.take i).map Ent.n∨j=e.n:=by
 obtain⟨h1,e1⟩:=List.getElem?_eq_some_iff.mp he;rw[List.take_succ_eq_append_getElem h1,e1,List.map_append,List.mem_append];simp
theorem yN{E:List Ent}{i:Nat}{e:Ent}(nd:(E.map Ent.n).Nodup)(he:E[i]? = some e):e.n∉(E.take i).map Ent.n:=by
 obtain⟨h1,e1⟩:=List.getElem?_eq_some_iff.mp he;have:E=E.take i++e::E.drop (i+1):=by rw[<-e1,List.getElem_cons_drop,List.take_append_drop]
 rw[this,List.map_append,List.map_cons]at nd;exact λy=>(List.nodup_append.mp nd).2.2 _ y _ (List.mem_cons_self ..) rfl
theorem gX{E:List Ent}{a c:Nat->Rat}{i:Nat}{e:Ent}{x:Rat}(nd:(E.map Ent.n).Nodup)(he:E[i]? = some e)(hx:x=c e.n):bump (λj=>a j+ptR E c i j) e.n x=λj=>a j+ptR E c (i+1) j:=by
 funext j
 unfold bump ptR;dsimp only;by_cases h:j=e.n
 ·subst h;rw[if_neg (yN nd he),if_pos rfl,if_pos ((vW he _).mpr (.inr rfl)),hx]
  grind
 ·rw[if_neg h,Rat.add_zero];by_cases y:j∈(E.take i).map Ent.n
  ·rw[if_pos y,if_pos ((vW he _).mpr (.inl y))]
  ·rw[if_neg y,if_neg λz=>((vW he _).mp z).elim y h]
theorem ptN_step{E:List Ent}{a s:Nat->Nat}{i:Nat}{e:Ent}(nd:(E.map Ent.n).Nodup)(he:E[i]? = some e):xB (λj=>a j+ptN E s i j) e.n (s e.n)=λj=>a j+ptN E s (i+1) j:=by
 funext j
 unfold xB ptN;dsimp only;by_cases h:j=e.n
 ·subst h;rw[if_neg (yN nd he),if_pos rfl,if_pos ((vW he _).mpr (.inr rfl))];omega
 ·rw[if_neg h,Nat.add_zero];by_cases y:j∈(E.take i).map Ent.n
  ·rw[if_pos y,if_pos ((vW he _).mpr (.inl y))]
  ·rw[if_neg y,if_neg λz=>((vW he _).mp z).elim y h]
theorem ptR_all{H:Hp}{E:List Ent}{c:Nat->Rat}{s:Nat->Nat}(h:RepE H E c s):ptR E c E.length=c:=by
 funext j
 unfold ptR;rw[List.take_length];by_cases y:j∈E.map Ent.n
 ·rw[if_pos y]
 ·rw[if_neg y];exact(h.out λe he z=>y (List.mem_map.mpr ⟨e,he,z⟩)).symm
theorem ptN_le{E:List Ent}{s:Nat->Nat}{i j:Nat} :ptN E s i j<=s j:=by
 unfold ptN;split
 ·exact Nat.le_refl _
 ·exact Nat.zero_le _
noncomputable def spLAdd:Sp:=λvs H Q _=>∃(a b:Addr) (c1 c2:Nat->Rat) (s1 s2:Nat->Nat),vs=[.ref a,.ref b]/\RdP H a c1 s1/\FrzP H b c2 s2/\(∀n,s1 n<=50000)/\(∀n,s2 n<=8000)/\
 ∀(d:Addr) (H':Hp),H d=none->Same H H'->DictP H' d (λj=>c1 j+c2 j) (λj=>s1 j+(s2 j+1))->Q (.ref d) H'
section
variable{P:Program}{w:World}{K:PySem.W.Frag}{mg:Str->Option Value}{base:Heap}{f fd:_}
theorem scLAdd:FnScope ["one","other","found","powers"] ["one","other"] (jO wH):=⟨rfl,rfl,rfl,by decide +kernel,rfl,by decide +kernel,by decide +kernel⟩
theorem ok_ladd{fP fS:Addr}{fdP fdS:FuncData}(F:Fun K "_law_added" "_law_added" wH f fd)(T:Txt mg)(DP:Df K mg "_law_put" sPut ["found","powers","number"] fP fdP)(DS:Df K mg "_law_plus" xH ["one","other"] fS fdS):FnOk P w K mg base CX0 3 f fd ["one","other"] spLAdd:=by
 have GP:FnOk P w K mg base CX0 2 fP fdP ["found","powers","number"] spPut:=ok_put DP.F DS;refine F.ok scLAdd (λvs H Q E h=>?_) (λcdv A outer s H vs Q E hr h=>?_)
 ·obtain⟨a,b,c1,c2,s1,s2,rfl,_⟩:=h
  rfl
 ·obtain⟨a,b,c1,c2,z1,z2,rfl,⟨E1,ha,R1⟩,⟨E2,o,hb,R2⟩,q1,q2,go⟩:=h;have hu:_+1<cLine:=Nat.lt_of_le_of_lt (Nat.add_le_add_left (by decide:1<=64) _) hr.units;refine⟨_,jB (jI (i:=2) scLAdd.nd rfl (Or.inl rfl) (vL LwD.call_dictD (by rfl) T.dct boot_dict (jA (pv 0) jC)))
   (jB (kW PassesOwn.never rfl (LwD.zI (pv 1)) (jH (i:=3) scLAdd.nd rfl (Or.inl rfl))
    (jF (xD (jG GP hr rfl DP.m DP.F.kp DP.b .nil jL (jA (pv 2) (jA (pv 3) (jA (xO hu (pv 1) (pv 3) (λ_ _=>rfl)) jC)))))))
   (jF (jN (pv 2)))), ?_⟩
  refine⟨_,rfl,a,_,rfl,ha,λp hp=>?_,λd H1 n1 s1 e1=>?_⟩
  ·obtain⟨e,he,rfl⟩:=List.mem_map.mp hp;exact⟨e.n,(R1.each e he).lt,rfl⟩
  refine⟨_,rfl,b,o,_,rfl,s1 _ _ hb,λp hp=>?_,λks hk=>?_⟩
  ·obtain⟨e,he,rfl⟩:=List.mem_map.mp hp;exact⟨_,rfl⟩
  have lk:ks.length=E2.length:=by rw[hk.1,List.length_map]
  have bH:∀{H3},But d H1 H3->Same H H3:=fun {H3} bt x y hx=>bt _ _ (s1 _ _ hx) λz=>by rw[z,n1]at hx;cases hx
  refine LwD.yZ (xs:=ks) (λi σ H3=>(∃u,σ=[some (.ref a),some (.ref b),some (.ref d),u])/\But d H1 H3/\DictP H3 d (λj=>c1 j+ptR E2 c2 i j) (λj=>z1 j+ptN E2 (λn=>z2 n+1) i j))
   ⟨⟨_,rfl⟩,But.refl _ _, ?_⟩ (λi σ H3 h=>bH h.2.1 _ _ hb) ?_ ?_
  ·refine⟨E1,e1, ?_⟩;have e0:(λj=>c1 j+ptR E2 c2 0 j)=c1:=by funext j;unfold ptR;simp [Rat.add_zero]
   have e2:(λj=>z1 j+ptN E2 (λn=>z2 n+1) 0 j)=z1:=by funext j;unfold ptN;simp
   rw[e0,e2];exact R1.map λ_ _ q=>s1 _ _ q
  ·rintro i x σ H3 hx ⟨⟨u,rfl⟩,b3,D3⟩;obtain⟨e,kb,he,rfl,hkb⟩:=yA hk hx;have eE:=List.mem_of_getElem? he;have s3:=bH b3;have R3:=R2.map λa xs q=>s3 a _ q;have x:=R3.each e eE;have ne:∀y ys,H1 y=some (.tup ys)->y≠d:=λy ys q z=>by rw[z,e1]at q;cases q
   have hkb3:H3 kb=some (.tup [.int e.n]):=b3 _ _ hkb (ne _ _ hkb);refine⟨_,rfl,_,rfl,_,rfl,_,rfl,b,_,rfl,zL (s3 _ _ hb) R3 eE hkb3,d,kb,e.c,e.n,z2 e.n,e.t,e.b,_,_,rfl,D3,hkb3,x.lt,x.at',x.pos,x.st,x.sb,q2 _, ?_,λH4 b4 D4=>?_⟩
   ·have h0:ptN E2 (λn=>z2 n+1) i e.n=0:=by unfold ptN;rw[if_neg (yN R2.nd he)]
    show z1 e.n+ptN E2 (λn=>z2 n+1) i e.n<=50000;rw[h0];exact q1 _
   ·rw[gX R2.nd he x.val]at D4;have:=ptN_step (a:=z1) (s:=λn=>z2 n+1) R2.nd he;rw[this]at D4;exact⟨⟨_,rfl⟩,b3.trans b4,D4⟩
  ·rintro σ H3 ⟨⟨u,rfl⟩,b3,D3⟩;rw[lk,ptR_all R2]at D3;exact⟨_,rfl,go d H3 n1 (bH b3) (D3.mono λj=>Nat.add_le_add_left ptN_le _)⟩
end
end Lw
namespace Lw
open PySem PySem.Spec PyProof.Rows L2 LwQ
theorem comp_zip{K:PySem.W.Frag}{a b:Addr}{ts us:List V}{n:Nat}{g:TG}{te:TE}{Q:VK}{p:Addr}{H':Hp}(Pv:Nat->List V->Hp->Prop)(hle:us.length<=ts.length)(hz:us.length<sizeLine)(h0:Pv 0 [] H')
  (hl:∀i ys H2,Pv i ys H2->SqT K H2 a ts/\SqT K H2 b us/\H2 p=some (.lst ys))
  (hs:∀i m ys x y c H2,ts[i]? = some x->us[i]? = some y->m=us.length-i->ys.length=i->Pv i ys H2->H2 c=none->g (.ref c) (List.replicate n none) (upd H2 c (.tup [x,y])) fun σ4 H4=>te σ4 H4 λy H5=>H5 p=some (.lst ys)/\∃m',m'<m/\CompW us Pv (i+1) m' (ys++[y]) (upd H5 p (.lst (ys++[y]))))
  (hd:∀ys H2,ys.length=us.length->Pv us.length ys H2->Q (.ref p) H2):CompGo n (Itz K a b) g te Q p H':=by
 refine⟨CompW us Pv,⟨_,rfl,Nat.zero_le _,rfl,h0⟩, ?_⟩;rintro i m ys H2 ⟨hm,hi,hy,hp⟩;obtain⟨q1,q2,e⟩:=hl i ys H2 hp;refine⟨e,by omega, ?_⟩;by_cases hlt:i<us.length
 ·have h2:i<ts.length:=by omega
  refine .inr ⟨⟨ts,us,ts[i],us[i],q1,q2,by simp [h2],by simp [hlt]⟩, ?_⟩;rintro _ _ ⟨c,x,y,hc,rfl,rfl,h1,h2⟩;exact hs i m ys x y c H2 (h1 _ q1) (h2 _ q2) hm hy hp hc
 ·obtain rfl:i=us.length:=by omega
  exact .inl ⟨⟨ts,us,q1,q2,.inr (Nat.le_refl _)⟩,hd ys H2 hy hp⟩
noncomputable def sh(n:Nat)(x:Rat)(f:Nat->Rat):Nat->Rat:=λj=>if n<=j then x*f (j-n)else 0
noncomputable def shN(n:Nat)(f:Nat->Nat):Nat->Nat:=λj=>if n<=j then f (j-n)else 0
noncomputable def sumF(F:Nat->Rat):List Nat->Rat
 | []=>0
 | n::r=>F n+sumF F r
theorem yO(F:Nat->Rat):∀(l m:List Nat),sumF F (l++m)=sumF F l+sumF F m
 | [],m=>by show sumF F m=0+sumF F m;rw[Rat.zero_add]
 | n::l,m=>by
  show F n+sumF F (l++m)=F n+sumF F l+sumF F m;rw[yO F l m,Rat.add_assoc]
theorem sumF_perm{F:Nat->Rat}{l m:List Nat}(p:l.Perm m):sumF F l=sumF F m:=by
 induction p with
 | nil=>rfl
 | cons e _ ih=>show _+sumF F _=_+sumF F _;rw[ih]
 | swap a b l=>
  show F b+(F a+sumF F l)=F a+(F b+sumF F l)
  grind
 | trans _ _ ih1 ih2=>rw[ih1,ih2]
theorem zR{F:Nat->Rat} :∀(m:Nat) {l:List Nat},l.Nodup->(∀x∈l,x<m)->(∀i,i<m->i∉l->F i=0)->sumF F l=sumF F (List.range m)
 | 0,l,_,k,_=>by
  cases l with
  | nil=>rfl
  | cons x r=>exact absurd (k x (List.mem_cons_self ..)) (Nat.not_lt_zero _)
 | m+1,l,h,k,z=>by
  have ih:=zR (F:=F) m (h.erase m) (λx hx=>by
   have y:=(List.Nodup.mem_erase_iff h).mp hx;have:=k x y.2;have:=y.1;omega) (λi hi hn=>z i (by omega) λy=>hn ((List.Nodup.mem_erase_iff h).mpr ⟨by omega,y⟩))
  rw[List.range_succ,yO,<-ih];show _=sumF F (l.erase m)+(F m+0);rw[Rat.add_zero];by_cases y:m∈l
  ·rw[sumF_perm (List.perm_cons_erase y)];show F m+sumF F (l.erase m)=_;rw[Rat.add_comm]
  ·rw[List.erase_of_not_mem y,z m (by omega) y,Rat.add_zero]
noncomputable def conv(c1 c2:Nat->Rat):Nat->Rat:=λj=>sumF (λn=>sh n (c1 n) c2 j) (List.range 24)
theorem conv_of{H:Hp}{E:List Ent}{c1 c2:Nat->Rat}{s:Nat->Nat}(h:RepE H E c1 s):(λj=>sumF (λn=>sh n (c1 n) c2 j) (E.map Ent.n))=conv c1 c2:=by
 funext j
 refine zR 24 h.nd (λx hx=>?_) λi hi hn=>?_
 ·obtain⟨e,he,rfl⟩:=List.mem_map.mp hx;exact(h.each e he).lt
 ·have:c1 i=0:=h.out λe he z=>hn (List.mem_map.mpr ⟨e,he,z⟩);show sh i (c1 i) c2 j=0;unfold sh;rw[this,Rat.zero_mul];split<;>rfl
theorem sh_step{E:List Ent}{a c:Nat->Rat}{i n:Nat}{g:Ent}{x y:Rat}(nd:(E.map Ent.n).Nodup)(he:E[i]? = some g)(hy:y=x*c g.n):bump (λj=>a j+sh n x (ptR E c i) j) (n+g.n) y=λj=>a j+sh n x (ptR E c (i+1)) j:=by
 have:=λ(j:Nat)=>congrFun (gX (E:=E) (a:=λ_=>0) (c:=c) (x:=c g.n) nd he rfl) j
 funext j
 unfold bump sh;dsimp only;by_cases h:n<=j
 ·rw[if_pos h,if_pos h];have t:=this (j-n);unfold bump at t;dsimp only at t;rw[Rat.zero_add,Rat.zero_add]at t;rw[<-t];by_cases q:j=n+g.n
  ·rw[if_pos q,if_pos (by omega),hy]
   grind
  ·rw[if_neg q,if_neg (by omega),Rat.add_zero,Rat.add_zero]
 ·rw[if_neg h,if_neg h,if_neg (by omega),Rat.add_zero]
theorem shN_step{E:List Ent}{a:Nat->Nat}{M i n:Nat}{g:Ent}(nd:(E.map Ent.n).Nodup)(he:E[i]? = some g):xB (λj=>a j+shN n (ptN E (λ_=>M) i) j) (n+g.n) M=λj=>a j+shN n (ptN E (λ_=>M) (i+1)) j:=by
 have:=λ(j:Nat)=>congrFun (ptN_step (E:=E) (a:=λ_=>0) (s:=λ_=>M) nd he) j
 funext j
 unfold xB shN;dsimp only;by_cases h:n<=j
 ·rw[if_pos h,if_pos h];have t:=this (j-n);unfold xB at t;dsimp only at t;rw[Nat.zero_add,Nat.zero_add]at t;rw[<-t];by_cases q:j=n+g.n
  ·rw[if_pos q,if_pos (by omega)];omega
  ·rw[if_neg q,if_neg (by omega)];omega
 ·rw[if_neg h,if_neg h,if_neg (by omega)]
noncomputable def cntS(l L2:List Nat)(j:Nat):Nat:=(l.filter λn=>decide (n<=j/\j-n∈L2)).length
theorem cntS_snoc(l L2:List Nat)(n j:Nat):cntS (l++[n]) L2 j=cntS l L2 j+if n<=j/\j-n∈L2 then 1 else 0:=by
 unfold cntS;rw[List.filter_append,List.length_append]
 congr 1
 by_cases h:n<=j/\j-n∈L2
 ·rw[if_pos h,List.filter_cons,if_pos (decide_eq_true h)];rfl
 ·rw[if_neg h,List.filter_cons,if_neg (by simpa using h)];rfl
theorem cntS_le1(l L2:List Nat)(j:Nat):cntS l L2 j<=l.length:=List.length_filter_le ..
theorem cntS_le2:∀(l:List Nat) (L2:List Nat) (j:Nat),l.Nodup->cntS l L2 j<=L2.length:=by
 intro l L2 j nd;have h:∀(m:List Nat),m.Nodup->(∀n∈m,n<=j/\j-n∈L2)->m.length<=L2.length:=λm ndm hm=>by
  have h1:(m.map λn=>j-n).Nodup:=List.pairwise_map.mpr (ndm.imp_of_mem fun {a b} ha hb h z=>h (by
   have:=(hm a ha).1;have:=(hm b hb).1;omega))
  have h2:∀(a b:List Nat),a.Nodup->(∀x∈a,x∈b)->a.length<=b.length:=by
   intro a;induction a with
   | nil=>intro b _ _;exact Nat.zero_le _
   | cons x r ih=>
    intro b nda hab;have hx:=hab x (List.mem_cons_self ..);have:=ih (b.erase x) (List.nodup_cons.mp nda).2 λy hy=>by
     have:y≠x:=λz=>(List.nodup_cons.mp nda).1 (z▸hy);exact(List.mem_erase_of_ne this).mpr (hab y (List.mem_cons_of_mem _ hy))
    rw[List.length_erase_of_mem hx]at this;have:0<b.length:=List.length_pos_of_mem hx;rw[List.length_cons];omega
  have:=h2 _ L2 h1 λx hx=>by
   obtain⟨n,hn,rfl⟩:=List.mem_map.mp hx;exact(hm n hn).2
  rwa [List.length_map]at this
 exact h _ (nd.filter _) λn hn=>of_decide_eq_true (List.mem_filter.mp hn).2
theorem shN_cnt{E:List Ent}{M n j:Nat} :shN n (ptN E (λ_=>M) E.length) j<=(if n<=j/\j-n∈E.map Ent.n then 1 else 0)*M:=by
 unfold shN ptN;by_cases h:n<=j
 ·rw[if_pos h,List.take_length];by_cases k:j-n∈E.map Ent.n
  ·rw[if_pos k,if_pos ⟨h,k⟩,Nat.one_mul];exact Nat.le_refl _
  ·rw[if_neg k];exact Nat.zero_le _
 ·rw[if_neg h];exact Nat.zero_le _
noncomputable def spProd:Sp:=λvs H Q _=>∃(a b:Addr) (c1 c2:Nat->Rat) (m1 m2:Nat),vs=[.ref a,.ref b]/\FrzP H a c1 (λ_=>m1)/\FrzP H b c2 (λ_=>m2)/\m1+m2<=8000/\(∀i j,c1 i≠0->c2 j≠0->i+j<24)/\∃N,((∀i,N<=i->c1 i=0)∨(∀i,N<=i->c2 i=0))/\N*(m1+m2+1)<=50000/\
 ∀(d:Addr) (H':Hp),H d=none->Same H H'->DictP H' d (conv c1 c2) (λ_=>N*(m1+m2+1))->Q (.ref d) H'
section
variable{P:Program}{w:World}{K:PySem.W.Frag}{mg:Str->Option Value}{base:Heap}{f fd:_}
theorem scProd:FnScope ["one","other","found","powers","more","both"] ["one","other"] (jO yQ):=⟨rfl,rfl,rfl,by decide +kernel,rfl,by decide +kernel,by decide +kernel⟩
theorem ok_prod{fP fS fM:Addr}{fdP fdS fdM:FuncData}(F:Fun K "_law_product" "_law_product" yQ f fd)(T:Txt mg)(DP:Df K mg "_law_put" sPut ["found","powers","number"] fP fdP)(DS:Df K mg "_law_plus" xH ["one","other"] fS fdS)(DM:Df K mg "_law_mul" yT ["one","other"] fM fdM):FnOk P w K mg base CX0 3 f fd ["one","other"] spProd:=by
 have GP:FnOk P w K mg base CX0 2 fP fdP ["found","powers","number"] spPut:=ok_put DP.F DS;have GM:FnOk P w K mg base CX0 1 fM fdM ["one","other"] spLMul:=wP DM.F;refine F.ok scProd (λvs H Q E h=>?_) (λcdv A outer s H vs Q E hr h=>?_)
 ·obtain⟨a,b,c1,c2,m1,m2,rfl,_⟩:=h
  rfl
 ·obtain⟨a,b,c1,c2,m1,m2,rfl,⟨E1,o1,ha,R1⟩,⟨E2,o2,hb,R2⟩,hm,h24,N,hN,hNm,go⟩:=h;have hr1:Room 1 _:=hr.mono (by decide);have hu:_+1<cLine:=Nat.lt_of_le_of_lt (Nat.add_le_add_left (by decide:1<=64) _) hr.units;refine⟨_,jB (jI (i:=2) scProd.nd rfl (Or.inl rfl) (xX))
   (jB (kW PassesOwn.never rfl (LwD.zI (pv 0)) (jH (i:=3) scProd.nd rfl (Or.inl rfl))
    (jF (kW PassesOwn.never rfl (LwD.zI (pv 1)) (jH (i:=4) scProd.nd rfl (Or.inl rfl))
     (jB (jI (i:=5) scProd.nd rfl (Or.inl rfl) (vL zQ (by rfl) T.tup boot_tuple (jA
      (wL (N:=["a","b"]) rfl rfl (by decide +kernel) (by decide +kernel) (by decide +kernel) (pi_zipT (by rfl) T.zip (jA (pv 3) (jA (pv 4) jC)))
       (λC fp s2 H2=>show PG (qZ _ ["a","b"] _ C fp s2 H2) _ (gTup K 2 (vP (kN 0) (vP (kN 1) gNil)))from kU (X:=qZ _ ["a","b"] _ C fp s2 H2) rfl (jM (jH (i:=0) (show List.Nodup (["a","b"]:List Str) by decide +kernel) rfl (Or.inl rfl) (Or.inl rfl)) (jM (jH (i:=1) (show List.Nodup (["a","b"]:List Str) by decide +kernel) rfl (Or.inl rfl) (Or.inl rfl)) kG)))
       (λC fp s2 H2=>jJ kM (pv 0) (pv 1))) jC)))
     (jF (xD (jG GP hr rfl DP.m DP.F.kp DP.b .nil jL (jA (pv 2) (jA (pv 5) (jA
      (jG GM hr1 rfl DM.m DM.F.kp DM.b .nil jL (jA (xO hu (pv 0) (pv 3) (λ_ _=>rfl)) (jA (xO hu (pv 1) (pv 4) (λ_ _=>rfl)) jC))) jC)))))))))
   ) (jF (jN (pv 2)))), ?_⟩
  intro d nd;have s1:Same H (upd H d (.dT [])):=kH _ nd;generalize hH1:upd H d (.dT [])=H1 at s1;have e1:H1 d=some (.dT []):=hH1▸jK;have bH:∀{H3},But d H1 H3->Same H H3:=fun {H3} bt x y hx=>bt _ _ (s1 _ _ hx) λz=>by rw[z,nd]at hx;cases hx
  have ne:∀y ys,H1 y=some (.tup ys)->y≠d:=λy ys q z=>by rw[z,e1]at q;cases q
  refine⟨_,rfl,a,o1,_,rfl,s1 _ _ ha,λp hp=>?_,λks hk=>?_⟩
  ·obtain⟨e,he,rfl⟩:=List.mem_map.mp hp;exact⟨_,rfl⟩
  have lk:ks.length=E1.length:=by rw[hk.1,List.length_map]
  have few:∀{E:List Ent} {c:Nat->Rat} {s:Nat->Nat},RepE H E c s->(∀i,N<=i->c i=0)->E.length<=N:=fun {E c s} R hN=>by
   have:=wQ N R.nd λx hx=>by
    obtain⟨e,he,rfl⟩:=List.mem_map.mp hx;have y:=R.each e he;by_cases z:e.n<N
    ·exact z
    ·have:=hN e.n (by omega);rw[<-y.val]at this;exact absurd this (wV y.pos y.nz)
   rwa [List.length_map]at this
  have lN:∀i j,cntS ((E1.take i).map Ent.n) (E2.map Ent.n) j<=N:=λi j=>by
   rcases hN with hN | hN
   ·refine Nat.le_trans (cntS_le1 ..) ?_;rw[List.length_map,List.length_take];exact Nat.le_trans (Nat.min_le_right ..) (few R1 hN)
   ·refine Nat.le_trans (cntS_le2 _ _ _ ?_) ?_
    ·rw[List.map_take];exact R1.nd.sublist (List.take_sublist ..)
    ·rw[List.length_map];exact few R2 hN
  refine LwD.yZ (xs:=ks) (λi σ H3=>(∃u v x,σ=[some (.ref a),some (.ref b),some (.ref d),u,v,x])/\But d H1 H3/\DictP H3 d (λj=>sumF (λn=>sh n (c1 n) c2 j) ((E1.take i).map Ent.n)) (λj=>cntS ((E1.take i).map Ent.n) (E2.map Ent.n) j*(m1+m2+1)))
   ⟨⟨_,_,_,rfl⟩,But.refl _ _,[],e1,zH _⟩ (λi σ H3 h=>bH h.2.1 _ _ ha) ?_ ?_
  ·rintro i x σ H3 hx ⟨⟨u,v,xx,rfl⟩,b3,D3⟩;obtain⟨e,kb,he,rfl,hkb⟩:=yA hk hx;have eE:=List.mem_of_getElem? he;have hi:i<ks.length:=(List.getElem?_eq_some_iff.mp hx).1;refine⟨_,rfl,b,o2,_,rfl,bH b3 _ _ hb,λp hp=>?_,λls hl=>?_⟩
   ·obtain⟨g,hg,rfl⟩:=List.mem_map.mp hp;exact⟨_,rfl⟩
   have ll:ls.length=E2.length:=by rw[hl.1,List.length_map]
   refine LwD.yZ (xs:=ls) (λk σ H4=>(∃v x,σ=[some (.ref a),some (.ref b),some (.ref d),some (.ref kb),v,x])/\But d H3 H4/\
     DictP H4 d (λj=>sumF (λn=>sh n (c1 n) c2 j) ((E1.take i).map Ent.n)+sh e.n (c1 e.n) (ptR E2 c2 k) j) (λj=>cntS ((E1.take i).map Ent.n) (E2.map Ent.n) j*(m1+m2+1)+shN e.n (ptN E2 (λ_=>m1+m2+1) k) j))
    ⟨⟨_,_,rfl⟩,But.refl _ _, ?_⟩ (λk σ H4 h=>bH (b3.trans h.2.1) _ _ hb) ?_ ?_
   ·have z1:(λj=>sumF (λn=>sh n (c1 n) c2 j) ((E1.take i).map Ent.n)+sh e.n (c1 e.n) (ptR E2 c2 0) j)=λj=>sumF (λn=>sh n (c1 n) c2 j) ((E1.take i).map Ent.n):=by
     funext j
     unfold sh ptR;simp [Rat.mul_zero,Rat.add_zero]
    rw[z1];exact D3.mono λj=>Nat.le_add_right _ _
   ·rintro k y σ H4 hy ⟨⟨v,xx,rfl⟩,b4,D4⟩;obtain⟨g,mb,hg,rfl,hmb⟩:=yA hl hy;have gE:=List.mem_of_getElem? hg;have b14:=b3.trans b4;have s4:=bH b14;have ne3:∀y ys,H3 y=some (.tup ys)->y≠d:=λy ys q z=>by
     obtain⟨EE,q',_⟩:=D3;rw[z,q']at q;cases q
    have hkb4:H4 kb=some (.tup [.int e.n]):=b14 _ _ hkb (ne _ _ hkb);have hmb4:H4 mb=some (.tup [.int g.n]):=b4 _ _ hmb (ne3 _ _ hmb);refine⟨_,rfl,_,rfl,kb,mb,rfl,⟨_,SqT.of hkb4⟩,⟨_,SqT.of hmb4⟩,λl H5 n5 s5 e5=>?_⟩;refine comp_zip (K:=K) (a:=kb) (b:=mb) (ts:=[.int e.n]) (us:=[.int g.n]) (λi ys H6=>Same H4 H6/\H6 l=some (.lst ys)/\(i=0->ys=[])/\(i=1->ys=[.int ((e.n:Int)+g.n)])) (Nat.le_refl _) (by show 1<sizeLine;decide) ⟨s5,e5,λ_=>rfl,λz=>by omega⟩
     (λi ys H6 h=>⟨SqT.of (h.1 _ _ hkb4),SqT.of (h.1 _ _ hmb4),h.2.1⟩) ?_ ?_
    ·rintro i' m ys x y c H6 hx hy hm' hl' ⟨s6,e6,y0,_⟩ hc;have i0:i'=0:=by
      have:=(List.getElem?_eq_some_iff.mp hx).1;simp at this;exact this
     subst i0;cases hx;cases hy;have s7:Same H6 (upd H6 c (.tup [.int e.n,.int g.n])):=kH _ hc;refine⟨c,_,rfl,SqT.of jK,rfl,_,_,rfl,_,_,rfl,rfl,_,rfl,_,rfl,_,_,rfl,rfl, ?_⟩;refine kZ rfl hm' hl' (s7 _ _ e6) ⟨kF (s6.trans s7) n5,jK,λz=>by omega,λ_=>by rw[y0 rfl];rfl⟩
    ·rintro ys H6 _ ⟨s6,e6,_,y1⟩;rw[y1 rfl]at e6;refine⟨l,_,rfl,.inl ⟨SqL.of e6,λt nt=>?_⟩⟩;have s7:Same H6 (upd H6 t (.tup [.int ((e.n:Int)+g.n)])):=kH _ nt;have e7:(upd H6 t (.tup [.int ((e.n:Int)+g.n)])) t=some (.tup [.int ((e.n:Int)+g.n)]):=jK;generalize upd H6 t (.tup [.int ((e.n:Int)+g.n)])=H7 at s7 e7;have s47:Same H4 H7:=s6.trans s7;have s7':Same H H7:=s4.trans s47;have Ra:=R1.map λa xs q=>s7' a _ q;have Rb:=R2.map λa xs q=>s7' a _ q;have xa:=Ra.each e eE;have xb:=Rb.each g gE;have D7:=D4.same s47;have big:∀{z:Int} {m:Nat},z.natAbs<2^m->m<=8000->z.natAbs<2^50000:=λh k=>jE h (by omega);refine⟨_,rfl,_,rfl,_,rfl,_,rfl,a,_,rfl,zL (s7' _ _ ha) Ra eE (s47 _ _ hkb4),_,rfl,_,rfl,b,_,rfl,zL (s7' _ _ hb) Rb gE (s47 _ _ hmb4),e.c,g.c,e.t,e.b,g.t,g.b,rfl,xa.at',xb.at',big xa.st (by omega),big xa.sb (by omega),big xb.st (by omega),big xb.sb (by omega),λr H8 n8 s8 e8=>?_⟩;have ng:e.n+g.n<24:=h24 _ _ (by rw[<-xa.val];exact wV xa.pos xa.nz) (by rw[<-xb.val];exact wV xb.pos xb.nz);have D8:=D7.same s8;refine⟨d,t,r,e.n+g.n,m1+m2,e.t*g.t,e.b*g.b,_,_,rfl,D8,s8 _ _ e7,ng,e8,Int.mul_pos xa.pos xb.pos,jW xa.st xb.st,jW xa.sb xb.sb,hm, ?_,λH9 b9 D9=>?_⟩
     ·have h1:shN e.n (ptN E2 (λ_=>m1+m2+1) k) (e.n+g.n)=0:=by
       unfold shN;rw[if_pos (Nat.le_add_right ..),Nat.add_sub_cancel_left];unfold ptN;rw[if_neg (yN R2.nd hg)]
      show cntS ((E1.take i).map Ent.n) (E2.map Ent.n) (e.n+g.n)*(m1+m2+1)+shN e.n (ptN E2 (λ_=>m1+m2+1) k) (e.n+g.n)<=50000;rw[h1,Nat.add_zero];exact Nat.le_trans (Nat.mul_le_mul_right _ (lN i _)) hNm
     ·rw[sh_step R2.nd hg (by rw[uI xa.pos xb.pos,xa.val,xb.val]),shN_step R2.nd hg]at D9;refine⟨⟨_,_,rfl⟩,(b4.trans (But.of (s47.trans s8))).trans b9,D9⟩
   ·rintro σ H4 ⟨⟨v,xx,rfl⟩,b4,D4⟩;refine⟨⟨_,_,_,rfl⟩,b3.trans b4, ?_⟩;rw[ll,ptR_all R2]at D4;have tk:(E1.take (i+1)).map Ent.n=(E1.take i).map Ent.n++[e.n]:=by
     obtain⟨h1,h2⟩:=List.getElem?_eq_some_iff.mp he;rw[List.take_succ_eq_append_getElem h1,h2,List.map_append]
     rfl
    have z2:(λj=>sumF (λn=>sh n (c1 n) c2 j) ((E1.take (i+1)).map Ent.n))=λj=>sumF (λn=>sh n (c1 n) c2 j) ((E1.take i).map Ent.n)+sh e.n (c1 e.n) c2 j:=by
     funext j
     rw[tk,yO];show _+(_+0)=_;rw[Rat.add_zero]
    rw[z2];exact D4.mono λj=>by
     rw[tk,cntS_snoc,Nat.add_mul];exact Nat.add_le_add_left shN_cnt _
  ·rintro σ H3 ⟨⟨u,v,xx,rfl⟩,b3,D3⟩;rw[lk,List.take_length,conv_of R1]at D3;exact⟨_,rfl,go d H3 nd (bH b3) (D3.mono λj=>Nat.mul_le_mul_right _ (by have:=lN E1.length j;rwa [List.take_length]at this))⟩
end
end Lw
namespace Lw
open PySem PySem.Spec PyProof.Rows L2 LwQ
theorem comp_tup{K:PySem.W.Frag}{a:Addr}{xs:List V}{n:Nat}{g:TG}{te:TE}{Q:VK}{p:Addr}{H':Hp}(Pv:Nat->List V->Hp->Prop)(hz:xs.length<sizeLine)(h0:Pv 0 [] H')
  (hl:∀i ys H2,Pv i ys H2->SqT K H2 a xs/\H2 p=some (.lst ys))
  (hs:∀i m ys x H2,xs[i]? = some x->m=xs.length-i->ys.length=i->Pv i ys H2->g x (List.replicate n none) H2 fun σ4 H4=>te σ4 H4 λy H5=>H5 p=some (.lst ys)/\∃m',m'<m/\CompW xs Pv (i+1) m' (ys++[y]) (upd H5 p (.lst (ys++[y]))))
  (hd:∀ys H2,ys.length=xs.length->Pv xs.length ys H2->Q (.ref p) H2):CompGo n (Itt K a) g te Q p H':=by
 refine⟨CompW xs Pv,⟨_,rfl,Nat.zero_le _,rfl,h0⟩, ?_⟩;rintro i m ys H2 ⟨hm,hi,hy,hp⟩;obtain⟨q,e⟩:=hl i ys H2 hp;refine⟨e,by omega, ?_⟩;by_cases hlt:i<xs.length
 ·refine .inr ⟨⟨xs,xs[i],q,by simp [hlt]⟩, ?_⟩;rintro x H3 ⟨rfl,y⟩;exact hs i m ys x _ (y xs q) hm hy hp
 ·obtain rfl:i=xs.length:=by omega
  exact .inl ⟨⟨xs,q,Nat.le_refl _⟩,hd ys H2 hy hp⟩
noncomputable def upTo(n:Nat):List V:=(List.range n).map λ(i:Nat)=>V.int (0+(i:Int))
theorem zW(n:Nat):(upTo n).length=n:=by simp [upTo]
theorem upTo_get{n i:Nat}{x:V}(h:(upTo n)[i]? = some x):x=.int (0+(i:Int))/\i<n:=by
 unfold upTo at h;rw[List.getElem?_map]at h;cases e:(List.range n)[i]? with
 | none=>rw[e]at h;cases h
 | some j=>
  rw[e]at h;obtain⟨h1,h2⟩:=List.getElem?_eq_some_iff.mp e;rw[List.getElem_range]at h2;subst h2;rw[List.length_range]at h1;exact⟨(Option.some.inj h).symm,h1⟩
theorem comp_rangeF{n:Nat}{σ0:L2.St}{g:TG}{te:TE}{Q:VK}{p:Addr}{H':Hp}(Pv:Nat->List V->Hp->Prop)(hz:n<sizeLine)(h0:Pv 0 [] H')(hl:∀i ys H2,Pv i ys H2->H2 p=some (.lst ys))
  (hs:∀i m ys x H2,(upTo n)[i]? = some x->m=(upTo n).length-i->ys.length=i->Pv i ys H2->g (.int (0+(i:Int))) σ0 H2 fun σ4 H4=>Keep σ0 σ4/\te σ4 H4 λy H5=>H5 p=some (.lst ys)/\∃m',m'<m/\CompW (upTo n) Pv (i+1) m' (ys++[y]) (upd H5 p (.lst (ys++[y]))))
  (hd:∀ys H2,ys.length=n->Pv n ys H2->Q (.ref p) H2):CompGoF σ0 (Itr 0 n) g te Q p H':=by
 refine comp_by (xs:=upTo n) Pv (by rw[zW];exact hz) h0 (λi ys H2 _ hi=>?_) (λys H2 _=>by rw[zW];exact Nat.le_refl n) hl (λi m ys x H2 hx hm hy hp=>?_) (λys H2 hy hp=>?_)
 ·rw[zW]at hi;refine⟨hi, ?_⟩;rintro x H3 ⟨rfl,rfl⟩;exact⟨rfl,by unfold upTo;rw[List.getElem?_map,List.getElem?_range hi];rfl⟩
 ·obtain⟨e,_⟩:=upTo_get hx;subst e;exact hs i m ys _ H2 hx hm hy hp
 ·rw[zW]at hy hp;exact hd ys H2 hy hp
theorem jY{α β:Type}{R:α->β->Prop} :∀{l:List α} {m:List β},Paired R l m->∀{i:Nat} {x:α},l[i]? = some x->∃y,m[i]? = some y/\R x y
 | _,_,.nil,i,x,h=>by simp at h
 | _,_,.cons (b:=b) h t,i,x,e=>by
  cases i with
  | zero=>cases e;exact⟨b,rfl,h⟩
  | succ i=>exact jY t e
theorem sup_mem{c:Nat->Rat}{n:Nat} :n∈sup c↔n<24/\c n≠0:=by
 unfold sup;rw[List.mem_filter,List.mem_range,decide_eq_true_iff]
noncomputable def F24(c:Nat->Rat):Prop:=∀j,24<=j->c j=0
theorem sup_few(c:Nat->Rat):(sup c).length<=24:=Nat.le_trans (List.length_filter_le ..) (by rw[List.length_range];exact Nat.le_refl _)
noncomputable def spDegree:Sp:=λvs H Q _=>∃(p:Addr) (c:Nat->Rat),vs=[.ref p]/\SumC H p c/\F24 c/\∀(n:Nat) (H':Hp),Same H H'->IsDeg c n->Q (.int n) H'
section
variable{P:Program}{w:World}{K:PySem.W.Frag}{mg:Str->Option Value}{base:Heap}{f fd:_}
theorem scDegree:FnScope ["one"] ["one"] (jO zG):=⟨rfl,rfl,rfl,by decide +kernel,rfl,by decide +kernel,by decide +kernel⟩
theorem ok_degree(F:Fun K "degree" "degree" zG f fd)(T:Txt mg):FnOk P w K mg base CX0 1 f fd ["one"] spDegree:=by
 refine F.ok scDegree (λvs H Q E h=>?_) (λcdv A outer s H vs Q E hr h=>?_)
 ·obtain⟨p,c,rfl,_⟩:=h
  rfl
 ·obtain⟨p,c,rfl,⟨q,o,xs,hp,hq,_,hT⟩,f24,go⟩:=h;refine⟨_,jF (jN (LwMx.pe_maxD rfl (by rfl) T.max (jA (wL (N:=["powers","fraction"]) rfl rfl (by decide +kernel) (by decide +kernel) (by decide +kernel) (pi_tup (jT jU (pv 0) jD (λ_ _=>rfl)))
   (λC fp s2 H2=>show PG (qZ _ ["powers","fraction"] _ C fp s2 H2) _ (gTup K 2 (vP (kN 0) (vP (kN 1) gNil)))from kU (X:=qZ _ ["powers","fraction"] _ C fp s2 H2) rfl (jM (jH (i:=0) (show List.Nodup (["powers","fraction"]:List Str) by decide +kernel) rfl (Or.inl rfl) (Or.inl rfl)) (jM (jH (i:=1) (show List.Nodup (["powers","fraction"]:List Str) by decide +kernel) rfl (Or.inl rfl) (Or.inl rfl)) kG)))
   (λC fp s2 H2=>kA (show CallR (qZ _ ["powers","fraction"] _ C fp s2 H2) (.builtin "sum") (rSumT K)from call_sumT rfl) (by rfl) T.sum boot_sum (jA (pv 0) jC))) jC) (pk_cons jD pk_nil))), ?_⟩
  have sq:∀{H2},Same H H2->SqT K H2 q xs:=λs=>.inl (.inr ⟨o,s _ _ hq⟩);refine⟨_,rfl,p,_,_,_,rfl,rfl,SqT.of hp,rfl,q,rfl,⟨xs,sq (Same.refl _)⟩,λl H1 n1 s1 e1=>?_⟩;have lx:=Paired.length hT;have few:=sup_few c;refine comp_tup (K:=K) (a:=q) (xs:=xs) (λi ys H2=>Same H H2/\H2 l=some (.lst ys)/\ys=((sup c).take i).map λ(n:Nat)=>V.int n) (Nat.lt_of_le_of_lt (show xs.length<=24 by omega) (by decide)) ⟨s1,e1,rfl⟩ (λi ys H2 h=>⟨sq h.1,h.2.1⟩) ?_ ?_
  ·rintro i m ys x H2 hx hm hy ⟨s2,e2,hys⟩;obtain⟨n,hn,r,b,c',rfl,t1,t2,t3⟩:=jY hT hx;have n24:=(sup_mem.mp (List.mem_of_getElem? hn)).1;refine⟨r,_,rfl,SqT.of (s2 _ _ t1),rfl,_,_,rfl,_,_,rfl,rfl, ?_⟩;refine⟨_,rfl,b,[(n:Int)],rfl,SqT.of (s2 _ _ t2),λz hz=>?_,by simp, ?_⟩
   ·rw[List.mem_singleton.mp hz];omega
   ·refine kZ hx hm hy e2 ⟨kF s2 n1,jK, ?_⟩;rw[hys,List.take_succ,hn,List.map_append];simp
  ·rintro ys H2 hl ⟨s2,e2,hys⟩;rw[lx,List.take_length]at hys;have hm:ys=((sup c).map λ(n:Nat)=>(n:Int)).map V.int:=by rw[hys,List.map_map];rfl
   refine⟨0,rfl,l,(sup c).map λ(n:Nat)=>(n:Int),rfl,by rw[<-hm];exact e2,λz=>?_,λm h1 h2=>?_⟩
   ·refine go 0 H2 s2 ⟨λj hj=>?_,.inl rfl⟩;have:sup c=[]:=by simpa using z
    by_cases j24:j<24
    ·have:=sup_mem.mpr ⟨j24,hj⟩
     simp_all
    ·exact absurd (f24 j (by omega)) hj
   ·obtain⟨n,hn,rfl⟩:=List.mem_map.mp h1;refine go n H2 s2 ⟨λj hj=>?_,.inr (sup_mem.mp hn).2⟩;by_cases j24:j<24
    ·have:=h2 j (List.mem_map.mpr ⟨j,sup_mem.mpr ⟨j24,hj⟩,rfl⟩);omega
    ·exact absurd (f24 j (by omega)) hj
end
end Lw
namespace Lw
open PySem PySem.Spec PyProof.Rows L2 LwQ
noncomputable def Ngt(K:PySem.W.Frag)(mg:Str->Option Value):Prop:=∃a,mg "NOUGHT" = some (.ref a)/\∀H,SqT K H a [.int 0,.int 1]
noncomputable def NumAt(K:PySem.W.Frag)(H:Hp)(x:V)(r:Rat):Prop:=∃a,x=.ref a/\SqT K H a [.int r.num,.int r.den]/\(r≠0->At2 H a r.num r.den)
noncomputable def NumsAt(K:PySem.W.Frag)(H:Hp)(xs:List V)(rs:List Rat):Prop:=Paired (NumAt K H) xs rs
theorem NumAt.same{K:PySem.W.Frag}{H H':Hp}{x:V}{r:Rat}(h:NumAt K H x r)(s:Same H H'):NumAt K H' x r:=let ⟨a,e,q,z⟩:=h;⟨a,e,qU s q,λn=>s _ _ (z n)⟩
theorem NumAt.upd{K:PySem.W.Frag}{H:Hp}{x:V}{r:Rat}{l:Addr}{ys:List V}{o:HO}(h:NumAt K H x r)(e:H l=some (.lst ys)):NumAt K (upd H l o) x r:=by
 obtain⟨a,rfl,q,z2⟩:=h;refine⟨a,rfl, ?_,λn=>by
  have y:=z2 n;unfold At2 at y ⊢;rw[jQ (λz=>by rw[z,e]at y;cases y)];exact y⟩
 rcases q with(q | ⟨u,q⟩) | q
 ·exact .inl (.inl (by rw[jQ (λz=>by rw[z,e]at q;cases q)];exact q))
 ·exact .inl (.inr ⟨u,by rw[jQ (λz=>by rw[z,e]at q;cases q)];exact q⟩)
 ·exact .inr q
theorem mV{H:Hp}{c:Nat->Rat}{s:Nat->Nat}(hs:∀n,(c n).num.natAbs<2^s n/\(c n).den<2^s n):∀{xs:List V} {l:List Nat},TermsP H c xs l->(∀n∈l,n<24/\c n≠0)->∃E:List Ent,E.map Ent.n=l/\LwD.PairsIn H xs (E.map Ent.kv)/\∀e∈E,EntP H c s e/\e.t=(c e.n).num/\e.b=((c e.n).den:Int)
 | _,_,.nil,_=>⟨[],rfl,.nil,λ_ h=>nomatch h⟩
 | _,_,.cons (b:=n) h t,k=>by
  obtain⟨E,e1,e2,e3⟩:=mV hs t λm hm=>k m (List.mem_cons_of_mem _ hm);obtain⟨r,b,q,rfl,h1,h2,h3⟩:=h;have kn:=k n (List.mem_cons_self ..);have nl:=jZ (c n);refine⟨⟨n,q,(c n).num,(c n).den⟩::E,by rw[List.map_cons,e1],.cons ⟨r,b,rfl,.inl h1,by rw[show(Ent.kv ⟨n,q,(c n).num,(c n).den⟩).1=LwD.ik [(n:Int)]from rfl,LwD.xM];exact h2⟩ e2,λe he=>?_⟩;rcases List.mem_cons.mp he with rfl | he
  ·refine⟨⟨kn.1,h3,nl.1,λz=>kn.2 ?_,kE _,(hs n).1, ?_⟩,rfl,rfl⟩
   ·have:=kE (c n);rw[<-this,show(c n).num=0 from z];exact nM nl.1 (by decide) (by simp) |>.trans fv_zero
   ·have:=(hs n).2;show((c n).den:Int).natAbs<_;rw[Int.natAbs_natCast];exact this
  ·exact e3 e he
theorem terms_rep{H:Hp}{c:Nat->Rat}{s:Nat->Nat}{xs:List V}(hs:∀n,(c n).num.natAbs<2^s n/\(c n).den<2^s n)(h:TermsP H c xs (sup c))(f:F24 c):∃E:List Ent,LwD.PairsIn H xs (E.map Ent.kv)/\RepE H E c s/\∀e∈E,e.t=(c e.n).num/\e.b=((c e.n).den:Int):=by
 obtain⟨E,e1,e2,e3⟩:=mV hs h λn hn=>sup_mem.mp hn;refine⟨E,e2,⟨by rw[e1];exact(sup_pw c).imp λh=>Nat.ne_of_lt h,λe he=>(e3 e he).1,λj hj=>?_⟩,λe he=>(e3 e he).2⟩;have:j∈E.map Ent.n:=by
  rw[e1];refine sup_mem.mpr ⟨?_,hj⟩;by_cases z:j<24
  ·exact z
  ·exact absurd (f j (by omega)) hj
 obtain⟨e,he,ee⟩:=List.mem_map.mp this;exact⟨e,he,ee⟩
theorem kv_nodup{E:List Ent}(h:(E.map Ent.n).Nodup):((E.map Ent.kv).map (·.1)).Nodup:=by
 rw[List.map_map];refine List.pairwise_map.mpr ((List.pairwise_map.mp h).imp fun {a b} k z=>k ?_);have:[(a.n:Int)]=[(b.n:Int)]:=ik_inj z;have:(a.n:Int)=b.n:=by simpa using this
 omega
noncomputable def selfS(c:Nat->Rat):Nat->Nat:=λn=>(c n).num.natAbs+(c n).den
theorem selfS_ok(c:Nat->Rat):∀n,(c n).num.natAbs<2^selfS c n/\(c n).den<2^selfS c n:=λn=>by
 have h:=Nat.lt_two_pow_self (n:=selfS c n);unfold selfS at h ⊢;constructor<;>omega
noncomputable def mY(K:PySem.W.Frag):Sp:=λvs H Q _=>∃(p:Addr) (c:Nat->Rat),vs=[.ref p]/\SumC H p c/\F24 c/\
 ∀(l:Addr) (n:Nat) (xs:List V) (H':Hp),H l=none->Same H H'->IsDeg c n->H' l=some (.lst xs)->NumsAt K H' xs ((List.range (n+1)).map c)->Q (.ref l) H'
section
variable{P:Program}{w:World}{K:PySem.W.Frag}{mg:Str->Option Value}{base:Heap}{f fd:_}
theorem scNumbers:FnScope ["one","table"] ["one"] (jO yR):=⟨rfl,rfl,rfl,by decide +kernel,rfl,by decide +kernel,by decide +kernel⟩
theorem ok_numbers{fD:Addr}{fdD:FuncData}(F:Fun K "all_powers" "all_powers" yR f fd)(T:Txt mg)(Nn:Ngt K mg)(DD:Df K mg "degree" zG ["one"] fD fdD):FnOk P w K mg base CX0 2 f fd ["one"] (mY K):=by
 have GD:FnOk P w K mg base CX0 1 fD fdD ["one"] spDegree:=ok_degree DD.F T;obtain⟨na,hN,hNq⟩:=Nn;refine F.ok scNumbers (λvs H Q E h=>?_) (λcdv A outer s H vs Q E hr h=>?_)
 ·obtain⟨p,c,rfl,_⟩:=h
  rfl
 ·obtain⟨p,c,rfl,hS,f24,go⟩:=h;have hu:_+1<cLine:=Nat.lt_of_le_of_lt (Nat.add_le_add_left (by decide:1<=64) _) hr.units;have hu2:_+2<cLine:=Nat.lt_of_le_of_lt (Nat.add_le_add_left (by decide:2<=64) _) hr.units;refine⟨_,jB (jI (i:=1) scNumbers.nd rfl (Or.inr rfl) (vL (LwD.call_dictT rfl hu2) (by rfl) T.dct boot_dict (jA (jT jU (pv 0) jD (λ_ _=>rfl)) jC)))
   (jF (jN (vG (own:=1) (idx:=[1]) (N:=["power","table"]) rfl rfl rfl (by decide +kernel) (by decide +kernel) (λ_ _ h=>h) (vS rfl) rfl (wN rfl ⟨rfl,rfl,rfl,rfl⟩)
    (qD (by rfl) T.rng (jA (jJ kM (jG GD hr rfl DD.m DD.F.kp DD.b .nil jL (jA (pv 0) jC)) jD) jC))
    (λC fp s2 H2=>jH (i:=0) (show List.Nodup (["power","table"]:List Str) by decide +kernel) rfl (Or.inl rfl))
    (λC fp s2 H2=>pe_dget2 hu (pv 1) (jV (jA (pv 0) jC)) (pe_glob (v:=.ref na) (by rfl) hN rfl) ⟨rfl,rfl,rfl,rfl⟩)))), ?_⟩
  obtain⟨q,o,xs,hp,hq,hd,hT⟩:=hS.ex;obtain⟨E,pr,R,nums⟩:=terms_rep (selfS_ok c) hT f24;refine⟨_,rfl,p,_,_,_,rfl,rfl,SqT.of hp,rfl,q,o,xs,E.map Ent.kv,rfl,hq,hd,pr,kv_nodup R.nd,λt H1 n1 s1 e1=>?_⟩;refine⟨_,rfl,p,c,rfl,hS.same s1,f24,λn H2 s2 dg=>⟨_,_,rfl,rfl,_,rfl, ?_, ?_,λl H3 n3 s3 e3=>?_⟩⟩
  ·omega
  ·have:n<24:=by
    rcases dg.2 with z | z
    ·omega
    ·by_cases y:n<24
     ·exact y
     ·exact absurd (f24 n (by omega)) z
   omega
  have n24:n<24:=by
   rcases dg.2 with z | z
   ·omega
   ·by_cases y:n<24
    ·exact y
    ·exact absurd (f24 n (by omega)) z
  rw[show((n:Int)+1).toNat=n+1 by omega];refine comp_rangeF (λi ys H4=>Same H2 H4/\H4 l=some (.lst ys)/\NumsAt K H4 ys ((List.range i).map c)) (Nat.lt_of_le_of_lt (show n+1<=24 by omega) (by decide)) ⟨s3,e3,.nil⟩ (λi ys H4 h=>h.2.1) ?_ ?_
  ·rintro i m ys x H4 hx hm hy ⟨s4,e4,hN4⟩;refine⟨nJ,_,rfl,t,rfl,.inr ⟨_,.inl (s4 _ _ (s2 _ _ e1))⟩,_,rfl,(by show 1<=sizeLine;decide),λz H5 n5 s5 e5=>?_⟩;have ei:(0:Int)+(i:Int)=(i:Int):=by omega
   rw[ei]at e5;have s45:=s4.trans s5;have hb5:H5 z=some (.tup ((LwD.ik [(i:Int)]).map kV)):=by rw[LwD.xM];exact e5
   refine⟨valV (E.map Ent.kv) (LwD.ik [(i:Int)]),DGet.t (s45 _ _ (s2 _ _ e1)) hb5, ?_⟩;have fin:NumAt K H5 ((valV (E.map Ent.kv) (LwD.ik [(i:Int)])).getD (.ref na)) (c i):=by
    by_cases ci:c i=0
    ·have:i∉E.map Ent.n:=λy=>by
      obtain⟨e,he,ee⟩:=List.mem_map.mp y;have x:=R.each e he;rw[<-ee,<-x.val]at ci;exact wV x.pos x.nz ci
     rw[val_out (xK this),ci];exact⟨na,rfl,hNq H5,λz=>absurd rfl z⟩
    ·obtain⟨e,he,ee⟩:=R.all i ci;have x:=R.each e he;rw[<-ee,val_in R.nd he];have nm:=nums e he;have at5:At2 H5 e.c (c e.n).num (c e.n).den:=by
      rw[<-nm.1,<-nm.2];exact s45 _ _ (s2 _ _ (s1 _ _ x.at'))
     exact⟨e.c,rfl,SqT.of at5,λ_=>at5⟩
   refine kZ hx hm hy (s5 _ _ e4) ⟨kF (s4.trans s5) n3,jK, ?_⟩;rw[List.range_succ,List.map_append];exact Paired.snoc (Paired.mono (λ_ _ y=>(NumAt.same y s5).upd (s5 _ _ e4)) hN4) (fin.upd (s5 _ _ e4))
  ·rintro ys H4 hy ⟨s4,e4,hN4⟩;exact go l n ys H4 ((s1.trans s2).free n3) ((s1.trans s2).trans s4) dg e4 hN4
end
end Lw
namespace Lw
open PySem PySem.Spec PyProof.Rows L2 LwQ
theorem cross{x:Rat}{t b:Int}(hb:0<b)(h:x=fv t b):x.num*b=t*x.den:=by
 have n:=jZ x;exact fv_inj n.1 hb (by rw[kE,h])
noncomputable def Bd(R:Nat)(x:Rat):Prop:=x.num.natAbs<=R*x.den
theorem uQ{x:Rat}{t b:Int}{R:Nat}(hb:0<b)(h:x=fv t b)(k:t.natAbs<=R*b.natAbs):Bd R x:=by
 have e:=congrArg Int.natAbs (cross hb h);rw[Int.natAbs_mul,Int.natAbs_mul,Int.natAbs_natCast]at e;have hb':0<b.natAbs:=by omega
 refine Nat.le_of_mul_le_mul_right ?_ hb';rw[e]
 calc t.natAbs*x.den<=R*b.natAbs*x.den:=Nat.mul_le_mul_right _ k
  _=R*x.den*b.natAbs:=by rw[Nat.mul_assoc,Nat.mul_comm b.natAbs,<-Nat.mul_assoc]
theorem Bd.mono{R S:Nat}{x:Rat}(h:Bd R x)(k:R<=S):Bd S x:=Nat.le_trans h (Nat.mul_le_mul_right _ k)
theorem zO(R:Nat):Bd R 0:=Nat.zero_le _
theorem Bd.add{R S:Nat}{x y:Rat}(h:Bd R x)(k:Bd S y):Bd (R+S) (x+y):=by
 have n:=jZ x;have m:=jZ y;refine uQ (t:=x.num*y.den+y.num*x.den) (b:=x.den*y.den) (Int.mul_pos n.1 m.1) (by rw[fv_add n.1 m.1,kE,kE]) ?_;refine Nat.le_trans (Int.natAbs_add_le _ _) ?_;rw[Int.natAbs_mul,Int.natAbs_mul,Int.natAbs_mul,Int.natAbs_natCast,Int.natAbs_natCast,Nat.add_mul];refine Nat.add_le_add ?_ ?_
 ·rw[<-Nat.mul_assoc];exact Nat.mul_le_mul_right _ h
 ·rw[Nat.mul_comm x.den,<-Nat.mul_assoc];exact Nat.mul_le_mul_right _ k
theorem Bd.mul{R S:Nat}{x y:Rat}(h:Bd R x)(k:Bd S y):Bd (R*S) (x*y):=by
 have n:=jZ x;have m:=jZ y;refine uQ (t:=x.num*y.num) (b:=x.den*y.den) (Int.mul_pos n.1 m.1) (by rw[uI n.1 m.1,kE,kE]) ?_;rw[Int.natAbs_mul,Int.natAbs_mul,Int.natAbs_natCast,Int.natAbs_natCast]
 calc x.num.natAbs*y.num.natAbs<=(R*x.den)*(S*y.den):=Nat.mul_le_mul h k
  _=R*S*(x.den*y.den):=by grind
theorem Bd.neg{R:Nat}{x:Rat}(h:Bd R x):Bd R (-x):=by
 have n:=jZ x;refine uQ (t:=-x.num) (b:=x.den) n.1 ?_ (by rw[Int.natAbs_neg,Int.natAbs_natCast];exact h);have e:=kE x;unfold fv at e ⊢;rw[Rat.intCast_neg]
 grind
theorem zE{H:Hp}{r:Addr}{N D:Int}{z:Rat}(h:At2 H r (lowT N D) (lowB N D))(hD:0<D)(e:fv N D=z):At2 H r z.num z.den:=by
 have nm:=hW (wU (n:=N) hD) (low_gcd hD);rw[fv_low hD,e]at nm;unfold At2;rw[nm.1,nm.2];exact h
end Lw
namespace LwB
noncomputable def ev:List Rat->Rat->Rat
 | [],_=>0
 | a::r,x=>a+x*ev r x
noncomputable def iq(ns:List Int):List Rat:=ns.map λ(z:Int)=>(z:Rat)
theorem ev_app(x:Rat):∀(l m:List Rat),ev (l++m) x=ev l x+x^l.length*ev m x
 | [],m=>by simp [ev];grind
 | a::l,m=>by
  have ih:=ev_app x l m;simp only[List.cons_append,ev,ih,List.length_cons,Rat.pow_succ]
  grind
theorem ev_zip(b s x:Rat):∀(l m:List Rat),l.length=m.length->ev (List.zipWith (λp q=>b*p+s*q) l m) x=b*ev l x+s*ev m x
 | [],[],_=>by simp [ev];grind
 | p::l,q::m,h=>by
  have ih:=ev_zip b s x l m (by simpa using h);simp only[List.zipWith_cons_cons,ev,ih]
  grind
noncomputable def mvZ(b s:Int)(row:List Int):List Int:=List.zipWith (λp q=>b*p+s*q) (row++[0]) (0::row)
theorem mvZ_len(b s:Int)(row:List Int):(mvZ b s row).length=row.length+1:=by simp [mvZ]
theorem iq_zip(b s:Int):∀(l m:List Int),iq (List.zipWith (λp q=>b*p+s*q) l m)=List.zipWith (λp q=>(b:Rat)*p+s*q) (iq l) (iq m)
 | [],_=>by simp [iq]
 | _::_,[]=>by simp [iq]
 | p::l,q::m=>by
  have ih:=iq_zip b s l m;simp only[iq,List.zipWith_cons_cons,List.map_cons]at ih ⊢;rw[ih,Rat.intCast_add,Rat.intCast_mul,Rat.intCast_mul]
theorem ev_mvZ(b s:Int)(row:List Int)(x:Rat):ev (iq (mvZ b s row)) x=((b:Rat)+s*x)*ev (iq row) x:=by
 unfold mvZ;rw[iq_zip,ev_zip _ _ _ _ _ (by simp [iq])];have e1:iq (row++[0])=iq row++[0]:=by simp [iq]
 have e2:iq (0::row)=0::iq row:=by simp [iq]
 rw[e1,e2,ev_app];simp only[ev]
 grind
noncomputable def bumpI(row:List Int)(y:Int):List Int:=row.set 0 (row.getD 0 0+y)
theorem bumpI_len(row:List Int)(y:Int):(bumpI row y).length=row.length:=by simp [bumpI]
theorem ev_bumpI{row:List Int}(h:row≠[])(y:Int)(x:Rat):ev (iq (bumpI row y)) x=ev (iq row) x+y:=by
 cases row with
 | nil=>exact absurd rfl h
 | cons a r=>
  show ev (iq ((a+y)::r)) x=_;simp only[iq,List.map_cons,ev,Rat.intCast_add]
  grind
noncomputable def mvS(b s u:Int)(st:List Int×Int)(t:Int):List Int×Int:=(bumpI (mvZ b s st.1) (t*(st.2*u)),st.2*u)
noncomputable def mvF(b s u:Int)(a:Int)(l:List Int):List Int×Int:=l.foldl (mvS b s u) ([a],1)
theorem mvF_snoc(b s u a t:Int)(l:List Int):mvF b s u a (l++[t])=mvS b s u (mvF b s u a l) t:=by
 unfold mvF;rw[List.foldl_append]
 rfl
theorem mvF_snd(b s u a:Int):∀(n:Nat) (l:List Int),l.length=n->(mvF b s u a l).2=u^n
 | 0,l,h=>by
  have:l=[]:=List.length_eq_zero_iff.mp h;subst this;simp [mvF]
 | n+1,l,h=>by
  have ne:l≠[]:=by intro z;subst z;cases h
  rw[<-List.dropLast_concat_getLast ne,mvF_snoc];have:=mvF_snd b s u a n l.dropLast (by simp [h]);show(mvF b s u a l.dropLast).2*u=_;rw[this,Int.pow_succ]
theorem mvF_len(b s u a:Int):∀(n:Nat) (l:List Int),l.length=n->(mvF b s u a l).1.length=n+1
 | 0,l,h=>by
  have:l=[]:=List.length_eq_zero_iff.mp h;subst this;simp [mvF]
 | n+1,l,h=>by
  have ne:l≠[]:=by intro z;subst z;cases h
  rw[<-List.dropLast_concat_getLast ne,mvF_snoc];have:=mvF_len b s u a n l.dropLast (by simp [h]);show(bumpI (mvZ b s (mvF b s u a l.dropLast).1) _).length=_;rw[bumpI_len,mvZ_len,this]
noncomputable def hor(y:Rat)(a:Rat)(l:List Rat):Rat:=l.foldl (λh t=>y*h+t) a
theorem hor_rev(y:Rat)(a:Rat)(l:List Rat):hor y a l.reverse=ev (l++[a]) y:=by
 unfold hor;rw[List.foldl_reverse];induction l with
 | nil=>simp [ev];grind
 | cons p r ih=>
  simp only[List.foldr_cons,List.cons_append,ev,ih]
  grind
theorem mvF_ev{b s u:Int}(hu:(u:Rat)≠0)(a:Int)(x:Rat):∀(n:Nat) (l:List Int),l.length=n->ev (iq (mvF b s u a l).1) x=(u:Rat)^n*hor (((b:Rat)+s*x)/u) a (iq l)
 | 0,l,h=>by
  have:l=[]:=List.length_eq_zero_iff.mp h;subst this;simp [mvF,iq,ev,hor]
  grind
 | n+1,l,h=>by
  have ne:l≠[]:=by intro z;subst z;cases h
  have ld:l.dropLast.length=n:=by simp [h]
  have ih:=mvF_ev (b:=b) (s:=s) hu a x n l.dropLast ld;have sn:=mvF_snd b s u a n l.dropLast ld;have ll:=mvF_len b s u a n l.dropLast ld;rw[<-List.dropLast_concat_getLast ne,mvF_snoc];generalize l.getLast ne=t;show ev (iq (bumpI (mvZ b s (mvF b s u a l.dropLast).1) (t*((mvF b s u a l.dropLast).2*u)))) x=_;rw[ev_bumpI (by intro z;have:=mvZ_len b s (mvF b s u a l.dropLast).1;rw[z]at this;simp at this),ev_mvZ,ih,sn];have e:iq (l.dropLast++[t])=iq l.dropLast++[(t:Rat)]:=by simp [iq]
  rw[e];unfold hor;rw[List.foldl_append];simp only[List.foldl_cons,List.foldl_nil];generalize (iq l.dropLast).foldl (λh t=>((b:Rat)+s*x)/u*h+t) (a:Rat)=h0;rw[Rat.intCast_mul,Rat.intCast_mul,Rat.intCast_pow,Rat.pow_succ];have:((b:Rat)+s*x)/u*u=b+s*x:=by grind
  grind
noncomputable def ch:Nat->Nat->Int
 | _,0=>1
 | 0,_+1=>0
 | n+1,k+1=>ch n k+ch n (k+1)
theorem ch_out:∀(n k:Nat),n<k->ch n k=0
 | 0,k+1,_=>rfl
 | n+1,k+1,h=>by
  show ch n k+ch n (k+1)=0;rw[ch_out n k (by omega),ch_out n (k+1) (by omega)]
  rfl
theorem uA(n:Nat):ch n 0=1:=by cases n<;>rfl
theorem gI:∀(n k:Nat),ch n (k+1)*((k:Int)+1)=ch n k*((n:Int)-k)
 | 0,0=>by simp [ch]
 | 0,k+1=>by simp [ch]
 | n+1,0=>by
  have:=gI n 0;show(ch n 0+ch n 1)*_=1*_;rw[uA]at this ⊢;simp at this ⊢;omega
 | n+1,k+1=>by
  have h1:=gI n k;have h2:=gI n (k+1);show(ch n (k+1)+ch n (k+1+1))*_=(ch n k+ch n (k+1))*_
  push_cast at h1 h2 ⊢
  grind
noncomputable def ffv(n:Nat):Nat->Int
 | 0=>1
 | k+1=>ffv n k*((n:Int)-k)
noncomputable def fct:Nat->Int
 | 0=>1
 | k+1=>fct k*((k:Int)+1)
theorem fct_pos:∀k,0<fct k
 | 0=>by decide
 | k+1=>Int.mul_pos (fct_pos k) (by omega)
theorem ffv_ch(n:Nat):∀k,ffv n k=ch n k*fct k
 | 0=>by rw[uA];rfl
 | k+1=>by
  have:=gI n k;show ffv n k*_=ch n (k+1)*(fct k*_);rw[ffv_ch n k]
  grind
theorem ffv_fct(n:Nat):∀k,k<=n->ffv n k*fct (n-k)=fct n
 | 0,_=>by simp [ffv]
 | k+1,h=>by
  have ih:=ffv_fct n k (by omega);obtain⟨d,hd⟩:∃d,n-k=d+1:=⟨n-k-1,by omega⟩;have:n-(k+1)=d:=by omega
  rw[hd]at ih;rw[this,<-ih];show ffv n k*((n:Int)-k)*fct d=ffv n k*(fct d*((d:Int)+1));rw[show(n:Int)-k=(d:Int)+1 by omega]
  grind
theorem ch_fct{n k:Nat}(h:k<=n):ch n k*fct k*fct (n-k)=fct n:=by rw[<-ffv_ch];exact ffv_fct n k h
noncomputable def dvs(x:Int):Nat->Int
 | 0=>x
 | k+1=>dvs x k/((k:Int)+1)
noncomputable def pp:Nat->Nat->Int
 | _,0=>1
 | j,d+1=>((j:Int)+1)*pp (j+1) d
theorem pp_fct:∀(d j:Nat),fct j*pp j d=fct (j+d)
 | 0,j=>by simp [pp]
 | d+1,j=>by
  have ih:=pp_fct d (j+1);show fct j*(((j:Int)+1)*pp (j+1) d)=_;rw[<-Int.mul_assoc,show j+(d+1)=j+1+d by omega,<-ih]
  rfl
theorem dvs_pp(y:Int)(k:Nat):∀j,j<=k->dvs (y*fct k) j=y*pp j (k-j)
 | 0,_=>by
  have:=pp_fct k 0;rw[Nat.zero_add]at this;show y*fct k=_;rw[<-this,Nat.sub_zero];simp [fct]
 | j+1,h=>by
  show dvs (y*fct k) j/_=_;rw[dvs_pp y k j (by omega)];obtain⟨d,hd⟩:∃d,k-j=d+1:=⟨k-j-1,by omega⟩;rw[hd,show k-(j+1)=d by omega];show y*(((j:Int)+1)*pp (j+1) d)/_=_;rw[<-Int.mul_assoc,Int.mul_comm y,Int.mul_assoc];exact Int.mul_ediv_cancel_left _ (by omega)
theorem dvs_all(y:Int)(k:Nat):dvs (y*fct k) k=y:=by
 rw[dvs_pp y k k (Nat.le_refl _),Nat.sub_self];simp [pp]
noncomputable def bb(r:Nat->Int):Nat->Int
 | 0=>r 0
 | j+1=>bb r j+bb (λi=>r (i+1)) j
noncomputable def lc(t s:Rat):Nat->(Nat->Rat)->Rat
 | 0,u=>u 0
 | n+1,u=>s*lc t s n u+t*lc t s n λi=>u (i+1)
theorem lc_add(t s:Rat):∀(n:Nat) (u v:Nat->Rat),lc t s n (λi=>u i+v i)=lc t s n u+lc t s n v
 | 0,u,v=>rfl
 | n+1,u,v=>by
  show s*lc t s n (λi=>u i+v i)+t*lc t s n (λi=>u (i+1)+v (i+1))=_;rw[lc_add t s n u v,lc_add t s n (λi=>u (i+1)) λi=>v (i+1)];show _=s*lc t s n u+t*lc t s n (λi=>u (i+1))+(s*lc t s n v+t*lc t s n (λi=>v (i+1)))
  grind
theorem lc_bb{t s:Rat}(h:s+t=1):∀(n:Nat) (r:Nat->Int),lc t s n (λi=>(bb r i:Rat))=lc t 1 n (λi=>(r i:Rat))
 | 0,r=>rfl
 | n+1,r=>by
  have e:(λi=>(bb r (i+1):Rat))=λi=>(bb r i:Rat)+(bb (λj=>r (j+1)) i:Rat):=by
   funext i
   show((bb r i+bb (λj=>r (j+1)) i:Int):Rat)=_;rw[Rat.intCast_add]
  show s*lc t s n (λi=>(bb r i:Rat))+t*lc t s n (λi=>(bb r (i+1):Rat))=1*lc t 1 n (λi=>(r i:Rat))+t*lc t 1 n (λi=>(r (i+1):Rat));rw[e,lc_add,lc_bb h n r,lc_bb h n λj=>r (j+1)]
  grind
noncomputable def sm(f:Nat->Rat):Nat->Rat
 | 0=>0
 | k+1=>sm f k+f k
theorem sm_congr{f g:Nat->Rat} :∀(n:Nat),(∀k,k<n->f k=g k)->sm f n=sm g n
 | 0,_=>rfl
 | n+1,h=>by
  show sm f n+f n=sm g n+g n;rw[sm_congr n λk hk=>h k (by omega),h n (by omega)]
theorem sm_lin(a b:Rat)(f g:Nat->Rat):∀n,sm (λk=>a*f k+b*g k) n=a*sm f n+b*sm g n
 | 0=>by simp [sm];grind
 | n+1=>by
  show sm (λk=>a*f k+b*g k) n+(a*f n+b*g n)=a*(sm f n+f n)+b*(sm g n+g n);rw[sm_lin a b f g n]
  grind
theorem zZ(f:Nat->Rat):∀n,sm f (n+1)=f 0+sm (λk=>f (k+1)) n
 | 0=>by simp [sm];grind
 | n+1=>by
  show sm f (n+1)+f (n+1)=f 0+(sm (λk=>f (k+1)) n+f (n+1));rw[zZ f n]
  grind
noncomputable def wt(t s:Rat):Nat->Nat->Rat
 | 0,0=>1
 | 0,_+1=>0
 | n+1,0=>s*wt t s n 0
 | n+1,k+1=>s*wt t s n (k+1)+t*wt t s n k
theorem wt_out(t s:Rat):∀(n k:Nat),n<k->wt t s n k=0
 | 0,k+1,_=>rfl
 | n+1,k+1,h=>by
  show s*wt t s n (k+1)+t*wt t s n k=0;rw[wt_out t s n k (by omega),wt_out t s n (k+1) (by omega)]
  grind
theorem mT(t s:Rat):∀(n k:Nat),k<=n->wt t s n k=(ch n k:Rat)*(t^k*s^(n-k))
 | 0,0,_=>by simp [wt,ch]
 | n+1,0,_=>by
  show s*wt t s n 0=_;rw[mT t s n 0 (by omega),uA,uA,Nat.sub_zero,Nat.sub_zero,Rat.pow_succ]
  grind
 | n+1,k+1,h=>by
  show s*wt t s n (k+1)+t*wt t s n k=((ch n k+ch n (k+1):Int):Rat)*_;rw[mT t s n k (by omega),Rat.intCast_add,show n+1-(k+1)=n-k by omega,Rat.pow_succ];by_cases e:k+1<=n
  ·obtain⟨d,hd⟩:∃d,n-k=d+1:=⟨n-k-1,by omega⟩;rw[mT t s n (k+1) e,show n-(k+1)=d by omega,hd,Rat.pow_succ,Rat.pow_succ]
   grind
  ·rw[wt_out t s n (k+1) (by omega),ch_out n (k+1) (by omega)];have:((0:Int):Rat)=0:=rfl;rw[this]
   grind
theorem lc_sm(t s:Rat):∀(n:Nat) (u:Nat->Rat),lc t s n u=sm (λk=>u k*wt t s n k) (n+1)
 | 0,u=>by simp [lc,sm,wt];grind
 | n+1,u=>by
  show s*lc t s n u+t*lc t s n (λi=>u (i+1))=_;rw[lc_sm t s n u,lc_sm t s n λi=>u (i+1),zZ _ (n+1)];have e:sm (λk=>u (k+1)*wt t s (n+1) (k+1)) (n+1)=s*sm (λk=>u (k+1)*wt t s n (k+1)) (n+1)+t*sm (λk=>u (k+1)*wt t s n k) (n+1):=by
   rw[<-sm_lin];refine sm_congr _ λk _=>?_;show u (k+1)*(s*wt t s n (k+1)+t*wt t s n k)=_
   grind
  rw[e];have e2:=zZ (λk=>u k*wt t s n k) (n+1);have e3:sm (λk=>u k*wt t s n k) (n+1+1)=sm (λk=>u k*wt t s n k) (n+1):=by
   show sm _ (n+1)+u (n+1)*wt t s n (n+1)=_;rw[wt_out t s n (n+1) (by omega)]
   grind
  rw[e3]at e2;rw[e2];show _=u 0*(s*wt t s n 0)+_
  grind
theorem ev_sm(x:Rat):∀(l:List Rat),ev l x=sm (λk=>l.getD k 0*x^k) l.length
 | []=>rfl
 | a::r=>by
  rw[List.length_cons,zZ];show a+x*ev r x=a*x^0+sm (λk=>r.getD k 0*x^(k+1)) r.length;rw[ev_sm x r];have:=sm_lin x 0 (λk=>r.getD k 0*x^k) (λ_=>0) r.length;have e:sm (λk=>x*(r.getD k 0*x^k)+0*0) r.length=sm (λk=>r.getD k 0*x^(k+1)) r.length:=sm_congr _ λk _=>by rw[Rat.pow_succ];grind
  rw[<-e,this]
  grind
theorem one_pow:∀n:Nat,(1:Rat)^n=1
 | 0=>rfl
 | n+1=>by rw[Rat.pow_succ,one_pow n,Rat.one_mul]
theorem spread_sum{n:Nat}(a:Nat->Int)(t:Rat) :
  sm (λk=>(bb (λj=>a j*fct j*fct (n-j)) k:Rat)*((ch n k:Rat)*(t^k*(1-t)^(n-k)))) (n+1)=(fct n:Rat)*sm (λk=>(a k:Rat)*t^k) (n+1):=by
 have h:=lc_bb (t:=t) (s:=1-t) (by grind) n λj=>a j*fct j*fct (n-j);rw[lc_sm,lc_sm]at h;have e1:sm (λk=>(bb (λj=>a j*fct j*fct (n-j)) k:Rat)*wt t (1-t) n k) (n+1)=sm (λk=>(bb (λj=>a j*fct j*fct (n-j)) k:Rat)*((ch n k:Rat)*(t^k*(1-t)^(n-k)))) (n+1):=sm_congr _ λk hk=>by rw[mT _ _ _ _ (by omega)]
 rw[<-e1,h];have:=sm_lin (fct n:Rat) 0 (λk=>(a k:Rat)*t^k) (λ_=>0) (n+1);have e2:sm (λk=>(fct n:Rat)*((a k:Rat)*t^k)+0*0) (n+1)=sm (λk=>((a k*fct k*fct (n-k):Int):Rat)*wt t 1 n k) (n+1):=sm_congr _ λk hk=>by
  rw[mT _ _ _ _ (by omega),one_pow,<-ch_fct (show k<=n by omega)];simp only[Rat.intCast_mul]
  grind
 rw[<-e2,this]
 grind
noncomputable def sprF(r:Nat->Int)(T j:Nat):Int:=bb (λi=>r (i+(j-min T j))) (min T j)
theorem sprF_zero(r:Nat->Int)(j:Nat):sprF r 0 j=r j:=by
 unfold sprF;rw[Nat.zero_min,Nat.sub_zero];show r (0+j)=r j;rw[Nat.zero_add]
theorem sprF_low(r:Nat->Int){T j:Nat}(h:j<=T):sprF r (T+1) j=sprF r T j:=by
 unfold sprF;rw[Nat.min_eq_right h,Nat.min_eq_right (by omega)]
theorem sprF_up(r:Nat->Int){T j:Nat}(h:T<=j):sprF r (T+1) (j+1)=sprF r T (j+1)+sprF r T j:=by
 unfold sprF;rw[Nat.min_eq_left (show T+1<=j+1 by omega),Nat.min_eq_left (show T<=j+1 by omega),Nat.min_eq_left h,show j+1-(T+1)=j-T by omega,show j+1-T=j-T+1 by omega];show bb _ T+bb (λi=>r (i+1+(j-T))) T=_;rw[show(λi=>r (i+(j-T+1)))=λi=>r (i+1+(j-T))from funext λi=>by rw[show i+(j-T+1)=i+1+(j-T) by omega]];omega
theorem sprF_all(r:Nat->Int){T j:Nat}(h:j<=T):sprF r T j=bb r j:=by
 unfold sprF;rw[Nat.min_eq_right h,Nat.sub_self]
 rfl
end LwB
namespace Lw
open PySem PySem.Spec PyProof.Rows L2 LwQ
noncomputable def NumQ(K:PySem.W.Frag)(H:Hp)(x:V)(r:Rat):Prop:=∃a,x=.ref a/\SqT K H a [.int r.num,.int r.den]
noncomputable def NumsQ(K:PySem.W.Frag)(H:Hp)(xs:List V)(rs:List Rat):Prop:=Paired (NumQ K H) xs rs
theorem NumsAt.q{K:PySem.W.Frag}{H:Hp}{xs:List V}{rs:List Rat}(h:NumsAt K H xs rs):NumsQ K H xs rs:=Paired.mono (λ_ _ ⟨a,e,q,_⟩=>⟨a,e,q⟩) h
noncomputable def lvS(b:Int)(r:Rat):Int:=b*lowT (r.den:Int) b
noncomputable def lvD(rs:List Rat):Int:=rs.foldl lvS 1
noncomputable def lvT(rs:List Rat):List Int:=rs.map λr=>r.num*(lvD rs/(r.den:Int))
theorem lvS_pos{b:Int}(hb:0<b)(r:Rat):0<lvS b r:=by
 unfold lvS;rw[vH hb];have g:=LwM.qQ (r.den:Int) b hb;have d:=r.den_pos;have:0<(r.den:Int)/(Int.gcd (r.den:Int) b:Int):=by
  have h1:(Int.gcd (r.den:Int) b:Int)∣(r.den:Int):=Int.gcd_dvd_left ..;obtain⟨k,hk⟩:=h1;generalize (Int.gcd (r.den:Int) b:Int)=G at *;rw[hk,Int.mul_ediv_cancel_left _ (by omega)];by_cases z:0<k
  ·exact z
  ·have:G*k<=0:=Int.mul_nonpos_of_nonneg_of_nonpos (by omega) (by omega);omega
 exact Int.mul_pos hb this
theorem lvS_dvd{b:Int}(hb:0<b)(r:Rat):b∣lvS b r/\(r.den:Int)∣lvS b r:=by
 unfold lvS;refine⟨Int.dvd_mul_right .., ?_⟩;rw[vH hb];have g:=LwM.qQ (r.den:Int) b hb;obtain⟨k,hk⟩:(Int.gcd (r.den:Int) b:Int)∣(r.den:Int):=Int.gcd_dvd_left ..;obtain⟨m,hm⟩:(Int.gcd (r.den:Int) b:Int)∣b:=Int.gcd_dvd_right ..;generalize (Int.gcd (r.den:Int) b:Int)=G at *;refine⟨m, ?_⟩;have:(r.den:Int)/G=k:=by rw[hk,Int.mul_ediv_cancel_left _ (by omega)]
 rw[this,hk]
 conv=>lhs;rw[hm]
 grind
theorem lvF:∀(rs:List Rat) (b:Int),0<b->0<rs.foldl lvS b/\b∣rs.foldl lvS b/\∀r∈rs,(r.den:Int)∣rs.foldl lvS b
 | [],b,h=>⟨h,Int.dvd_refl _,λ_ z=>nomatch z⟩
 | r::rs,b,h=>by
  obtain⟨h1,h2,h3⟩:=lvF rs (lvS b r) (lvS_pos h r);have d:=lvS_dvd h r;refine⟨h1,Int.dvd_trans d.1 h2,λq hq=>?_⟩;rcases List.mem_cons.mp hq with rfl | hq
  ·exact Int.dvd_trans d.2 h2
  ·exact h3 q hq
theorem wT(rs:List Rat):0<lvD rs:=(lvF rs 1 (by decide)).1
theorem lvD_dvd{rs:List Rat}{r:Rat}(h:r∈rs):(r.den:Int)∣lvD rs:=(lvF rs 1 (by decide)).2.2 r h
theorem lvF_le{e:Nat} :∀(rs:List Rat) (b:Int) (n:Nat),0<b->b.natAbs<=2^n->(∀r∈rs,r.den<=2^e)->(rs.foldl lvS b).natAbs<=2^(n+e*rs.length)
 | [],b,n,_,h,_=>by simpa using h
 | r::rs,b,n,hb,h,k=>by
  have h1:(lvS b r).natAbs<=2^(n+e):=by
   unfold lvS;rw[Int.natAbs_mul,Nat.pow_add];have:=lowT_le (n:=(r.den:Int)) hb;rw[Int.natAbs_natCast]at this;exact Nat.mul_le_mul h (Nat.le_trans this (k r (List.mem_cons_self ..)))
  have:=lvF_le rs (lvS b r) (n+e) (lvS_pos hb r) h1 λq hq=>k q (List.mem_cons_of_mem _ hq);rw[List.length_cons,Nat.mul_succ,show n+(e*rs.length+e)=n+e+e*rs.length by omega];exact this
theorem lvD_le{e:Nat}{rs:List Rat}(h:∀r∈rs,r.den<=2^e):(lvD rs).natAbs<=2^(e*rs.length):=by
 have:=lvF_le rs 1 0 (by decide) (by decide) h
 rwa [Nat.zero_add]at this
theorem lvS_of{b D:Int}(hb:0<b){r:Rat}(h:b∣D)(k:(r.den:Int)∣D):lvS b r∣D:=by
 unfold lvS;rw[vH hb];have g:=LwM.qQ (r.den:Int) b hb;have lg:=low_gcd (n:=(r.den:Int)) hb;rw[vH hb,vX hb]at lg;obtain⟨y,hy⟩:(Int.gcd (r.den:Int) b:Int)∣(r.den:Int):=Int.gcd_dvd_left ..;obtain⟨m,hm⟩:(Int.gcd (r.den:Int) b:Int)∣b:=Int.gcd_dvd_right ..;generalize (Int.gcd (r.den:Int) b:Int)=G at *;have e1:(r.den:Int)/G=y:=by rw[hy,Int.mul_ediv_cancel_left _ (by omega)]
 have e2:b/G=m:=by rw[hm,Int.mul_ediv_cancel_left _ (by omega)]
 rw[e1,e2]at lg;rw[e1];obtain⟨x,hx⟩:=h;obtain⟨z,hz⟩:=k;have:y∣m*x:=⟨z,by
  have:G*(m*x)=G*(y*z):=by rw[<-Int.mul_assoc,<-hm,<-hx,hz,hy,Int.mul_assoc]
  exact Int.eq_of_mul_eq_mul_left (by omega) this⟩
 have:y∣x:=gF (by rw[Int.gcd_comm];exact lg) this;obtain⟨q,hq⟩:=this;exact⟨q,by rw[hx,hq,Int.mul_assoc]⟩
theorem lvF_of{D:Int} :∀(rs:List Rat) (b:Int),0<b->b∣D->(∀r∈rs,(r.den:Int)∣D)->rs.foldl lvS b∣D
 | [],_,_,h,_=>h
 | r::rs,b,h0,h,k=>lvF_of rs (lvS b r) (lvS_pos h0 r) (lvS_of h0 h (k r (List.mem_cons_self ..))) λq hq=>k q (List.mem_cons_of_mem _ hq)
theorem lvD_of{D:Int}{rs:List Rat}(k:∀r∈rs,(r.den:Int)∣D):lvD rs∣D:=lvF_of rs 1 (by decide) ⟨D,by omega⟩ k
theorem gG{a D:Int}(h:a∣D)(h0:0<D):a.natAbs<=D.natAbs:=Nat.le_of_dvd (by omega) (Int.natAbs_dvd_natAbs.mpr h)
theorem lvD_snoc(rs:List Rat)(r:Rat):lvD (rs++[r])=lvS (lvD rs) r:=by
 unfold lvD;rw[List.foldl_append]
 rfl
theorem lv_val{rs:List Rat}{r:Rat}(h:r∈rs):((r.num*(lvD rs/(r.den:Int)):Int):Rat)=r*(lvD rs:Rat):=by
 obtain⟨k,hk⟩:=lvD_dvd h;have d:=r.den_pos;rw[hk,Int.mul_ediv_cancel_left _ (by omega),Rat.intCast_mul,Rat.intCast_mul];have h1:=kE r;unfold fv at h1;have h2:((r.den:Int):Rat)≠0:=cne (by omega);generalize ((r.den:Int):Rat)=D at *;generalize (r.num:Rat)=N at *;rw[<-h1]
 grind
theorem lvT_val(rs:List Rat):LwB.iq (lvT rs)=rs.map λr=>r*(lvD rs:Rat):=by
 unfold lvT LwB.iq;rw[List.map_map];exact List.map_congr_left λr hr=>lv_val hr
theorem yD(rs:List Rat):(lvT rs).length=rs.length:=by simp [lvT]
theorem lvT_bd{rs:List Rat}{m e:Nat}(h:(lvD rs).natAbs<=2^e)(k:∀r∈rs,r.num.natAbs<2^m):∀z∈lvT rs,z.natAbs<2^(m+e):=by
 intro z hz;unfold lvT at hz;obtain⟨r,hr,rfl⟩:=List.mem_map.mp hz;have d:=r.den_pos;have h1:(lvD rs/(r.den:Int)).natAbs<=2^e:=Nat.le_trans (LwM.wY _ _ (by omega)) h;rw[Int.natAbs_mul,Nat.pow_add];exact Nat.mul_lt_mul_of_lt_of_le (k r hr) h1 (Nat.two_pow_pos _)
noncomputable def spLevel(K:PySem.W.Frag):Sp:=λvs H Q _=>∃(l:Addr) (xs:List V) (rs:List Rat),vs=[.ref l]/\SqL K H l xs/\(∀H',Same H H'->SqL K H' l xs)/\NumsQ K H xs rs/\rs.length<=24/\(∃D:Int,0<D/\D.natAbs<=2^2400/\∀r∈rs,(r.den:Int)∣D)/\(∀r∈rs,r.num.natAbs<2^600)/\
 ∀(p q:Addr) (H':Hp),H p=none->H q=none->Same H H'->H' p=some (.tup [.ref q,.int (lvD rs)])->H' q=some (.lst ((lvT rs).map V.int))->Q (.ref p) H'
theorem fr_one{t:Int}{n:Nat}(h:t.natAbs<2^n)(hn:0<n):FrOk n t 1:=⟨by decide,by simp,h,by
 show 1<2^n;exact Nat.one_lt_two_pow (by omega)⟩
section
variable{P:Program}{w:World}{K:PySem.W.Frag}{mg:Str->Option Value}{base:Heap}{f fd:_}
theorem scLevel:FnScope ["some","bottom","top","under"] ["some"] (jO gQ):=⟨rfl,rfl,rfl,by decide +kernel,rfl,by decide +kernel,by decide +kernel⟩
theorem ok_level{fD fM fG:Addr}{fdD fdM fdG:FuncData}(F:Fun K "level" "level" gQ f fd)(T:Txt mg)(DD:Df K mg "divided" sDiv ["one","other"] fD fdD)(DM:Df K mg "multiplied" sMul ["one","other"] fM fdM)(DG:Df K mg "greatest_divisor" sGcd ["one","other"] fG fdG):FnOk P w K mg base CX0 4 f fd ["some"] (spLevel K):=by
 have GD:FnOk P w K mg base CX0 3 fD fdD ["one","other"] (spDivN K):=ok_divN DD.F T DM DG;refine F.ok scLevel (λvs H Q E h=>?_) (λcdv A outer s H vs Q E hr h=>?_)
 ·obtain⟨l,xs,rs,rfl,_⟩:=h
  rfl
 ·obtain⟨l,xs,rs,rfl,hl,hlk,hX,l24,⟨D0,d0,dB,dd⟩,bn,go⟩:=h;refine⟨_,jB (jI (i:=1) scLevel.nd rfl (Or.inr rfl) jD)
   (jB (kW PassesOwn.never rfl (vC (pv 0)) (kU rfl (jM (jH (i:=2) scLevel.nd rfl (Or.inl rfl)) (jM (jH (i:=3) scLevel.nd rfl (Or.inl rfl)) kG)))
    (jF (jI (i:=1) scLevel.nd rfl (Or.inr rfl) (jJ kB (pv 1) (jT jU (jG GD hr rfl DD.m DD.F.kp DD.b .nil jL (jA (jV (jA (pv 3) (jA jD jC))) (jA (jV (jA (pv 1) (jA jD jC))) jC))) jD (λ_ _=>rfl))))))
   (jF (jN (jV (jA (vG (own:=2) (idx:=[1]) (N:=["top","under","bottom"]) rfl rfl rfl (by decide +kernel) (by decide +kernel) (λ_ _ h=>h) (vS rfl) rfl (wN rfl ⟨rfl,rfl,rfl,rfl⟩)
    (vC (pv 0))
    (λC fp s2 H2=>show PG (kC _ ["top","under","bottom"] _ _ C fp s2 H2) _ (gTup K 2 (vP (kN 0) (vP (kN 1) gNil)))from kU (X:=kC _ ["top","under","bottom"] _ _ C fp s2 H2) rfl (jM (jH (i:=0) (show List.Nodup (["top","under","bottom"]:List Str) by decide +kernel) rfl (Or.inl rfl) (Or.inr rfl)) (jM (jH (i:=1) (show List.Nodup (["top","under","bottom"]:List Str) by decide +kernel) rfl (Or.inl rfl) (Or.inr rfl)) kG)))
    (λC fp s2 H2=>jJ kB (pv 0) (jJ qO (pv 2) (pv 1)))) (jA (pv 1) jC)))))), ?_⟩
  have lx:xs.length=rs.length:=Paired.length hX;have bdD:∀(ys:List Rat),(∀r∈ys,r∈rs)->ys.length<=24->(lvD ys).natAbs<=2^2400:=λys hy h24=>by
   exact Nat.le_trans (gG (lvD_of λr hr=>dd r (hy r hr)) d0) dB
  refine⟨_,rfl,l,rfl,⟨xs,hl⟩,wW (K:=K) (a:=l) (xs:=xs) (λi σ H1=>Same H H1/\∃v2 v3,σ=[some (.ref l),some (.int (lvD (rs.take i))),v2,v3]) ⟨Same.refl H,_,_,rfl⟩ (λi σ H1 _ h=>hlk _ h.1) ?_ ?_⟩
  ·rintro i x σ H1 hx ⟨s1,v2,v3,rfl⟩;obtain⟨r,hr',a,rfl,sq⟩:=jY hX hx;have hir:i<rs.length:=(List.getElem?_eq_some_iff.mp hr').1;have rm:r∈rs:=List.mem_of_getElem? hr';have tk:rs.take (i+1)=rs.take i++[r]:=by
    rw[List.take_succ,hr']
    rfl
   have bi:=bdD (rs.take i) (λq hq=>List.mem_of_mem_take hq) (by rw[List.length_take];omega);have pi:=wT (rs.take i);have brm:=bn r rm;have dp:=r.den_pos;have bi':(lvD (rs.take i)).natAbs<2^2401:=Nat.lt_of_le_of_lt bi (Nat.pow_lt_pow_right (by decide) (by decide));have bd':((r.den:Int)).natAbs<2^2401:=Nat.lt_of_le_of_lt (Nat.le_trans (gG (dd r rm) d0) dB) (Nat.pow_lt_pow_right (by decide) (by decide));refine⟨a,_,rfl,qU s1 sq,rfl,_,_,rfl,_,_,rfl,rfl, ?_⟩;refine⟨_,rfl,_,rfl,(by show 2<=sizeLine;decide),λz H2 n2 s2 e2=>⟨_,rfl,(by show 2<=sizeLine;decide),λy H3 n3 s3 e3=>?_⟩⟩;refine⟨z,y,(r.den:Int),1,lvD (rs.take i),1,rfl,SqT.of (s3 _ _ e2),SqT.of e3,fr_one (jE bd' (by decide)) (by decide),fr_one (jE bi' (by decide)) (by decide),by omega,λq H4 n4 s4 e4=>?_⟩;rw[Int.mul_one,Int.one_mul]at e4;have lt:=lowT_le (n:=(r.den:Int)) pi;refine⟨q,_,_,_,rfl,rfl,SqT.of e4,rfl,_,_,rfl,rfl,⟨jE bi' (by decide),Nat.lt_of_le_of_lt lt (jE bd' (by decide))⟩, ?_⟩;refine⟨((s1.trans s2).trans s3).trans s4,some (.int r.num),some (.int r.den), ?_⟩;rw[tk,lvD_snoc]
   rfl
  ·rintro σ H1 ⟨s1,v2,v3,rfl⟩;rw[lx,List.take_length];have bD:=bdD rs (λ_ h=>h) l24;have pD:=wT rs;have bD':(lvD rs).natAbs<2^2401:=Nat.lt_of_le_of_lt bD (Nat.pow_lt_pow_right (by decide) (by decide));refine⟨_,rfl,l,rfl,⟨xs,hlk _ s1⟩,λq H2 n2 s2 e2=>?_⟩;refine vU (K:=K) (a:=l) (xs:=xs) (λi ys H4=>Same H1 H4/\H4 q=some (.lst ys)/\ys=((lvT rs).take i).map V.int) (by rw[lx];exact Nat.lt_of_le_of_lt l24 (by decide)) ⟨s2,e2,rfl⟩ (λi ys H4 h=>⟨hlk _ (s1.trans h.1),h.2.1⟩) ?_ ?_
   ·rintro i m ys x H4 hx hm hy ⟨s4,e4,rfl⟩;obtain⟨r,hr',a,rfl,sq⟩:=jY hX hx;have rm:r∈rs:=List.mem_of_getElem? hr';have brm:=bn r rm;have dp:=r.den_pos;have bd':((r.den:Int)).natAbs<2^2401:=Nat.lt_of_le_of_lt (Nat.le_trans (gG (dd r rm) d0) dB) (Nat.pow_lt_pow_right (by decide) (by decide));refine⟨a,_,rfl,qU (s1.trans s4) sq,rfl,_,_,rfl,_,_,rfl,rfl,keep2, ?_⟩;have bq:(lvD rs/(r.den:Int)).natAbs<2^2401:=qR bD' (by omega);refine⟨_,rfl,_,rfl,_,rfl,_,_,rfl,rfl,⟨by omega,jE bd' (by decide)⟩,_,_,rfl,rfl,⟨jE brm (by decide),jE bq (by decide)⟩, ?_⟩;refine kZ hx hm hy e4 ⟨kF s4 n2,jK, ?_⟩;have:(lvT rs)[i]? = some (r.num*(lvD rs/(r.den:Int))):=by
     unfold lvT;rw[List.getElem?_map,hr']
     rfl
    rw[List.take_succ,this,List.map_append]
    rfl
   ·rintro ys H4 hy ⟨s4,e4,rfl⟩;refine⟨_,rfl,(by show 2<=sizeLine;decide),λp H5 n5 s5 e5=>?_⟩;rw[lx,<-yD rs,List.take_length]at e4;exact go p q H5 ((s1.trans s4).free n5) (s1.free n2) ((s1.trans s4).trans s5) e5 (s5 _ _ e4)
end
end Lw
namespace Lw
open PySem PySem.Spec PyProof.Rows L2 LwQ
theorem get_list{X:Cx} :PGet X (rIxL X.K):=by
 intro pins s σ H x y v u Q I rx ry h;obtain⟨p,xs,i,z,rfl,rfl,hq,he,q⟩:=h;cases rx;obtain⟨t,rfl⟩:=ry;obtain⟨its,r,pl,hz⟩:=I.list hq;obtain⟨j,h1,h2,h3,h4,h5⟩:=atI_get he;obtain⟨w,ew,rw'⟩:=r.get h2;have hl:=r.length;have hn:=mB;have fin:EP X pins σ Q w s:=⟨z,H,I,rw',q⟩;by_cases h0:0<=i
 ·have hj:i.toNat=j:=by
   rw[seqIndex_of h0 h5]at h1;exact Option.some.inj h1
  exact wpAny_getItem_list pl.isList h0 (by omega) (by rw[hj];simpa using ew) fin
 ·have hj:(i+(its.toArray.size:Int)).toNat=j:=by
   rw[seqIndex_neg (by omega) h4]at h1;rw[List.size_toArray,<-hl];exact Option.some.inj h1
  exact wpAny_getItem_list_neg pl.isList (by omega) (by rw[List.size_toArray]<;>omega) (by omega) (by rw[hj];simpa using ew) fin
theorem two_idx{X:Cx}{scope:Scope}{own j0 j1:Nat}{N:List Str}{x0 x1:Str}(h0:N[own]? = some x0)(h1:N[own+1]? = some x1)(a:X.N[j0]? = some x0/\X.env.kindOf x0=some .cell/\(relabel scope X.env).names.lookup x0=some .cell/\X.env.scope.names.lookup x0=some .cell)
  (b:X.N[j1]? = some x1/\X.env.kindOf x1=some .cell/\(relabel scope X.env).names.lookup x1=some .cell/\X.env.scope.names.lookup x1=some .cell) :
  ∀(k j:Nat) (x:Str),[j0,j1][k]? = some j->N[own+k]? = some x->X.N[j]? = some x/\X.env.kindOf x=some .cell/\(relabel scope X.env).names.lookup x=some .cell/\X.env.scope.names.lookup x=some .cell:=by
 intro k j x e1 e2
 match k,e1,e2 with
 | 0,e1,e2=>
  cases e1;rw[Nat.add_zero,h0]at e2;cases e2;exact a
 | 1,e1,e2=>
  cases e1;rw[h1]at e2;cases e2;exact b
 | k+2,e1,_=>cases e1
theorem at_last{xs:List V}{N:Nat}{x:V}(l:xs.length=N+1)(h:xs[N]? = some x):atI xs (-1)=some x:=by
 unfold atI ixN;rw[l,if_neg (by decide),if_pos (by omega)];show xs[(-1+((N+1:Nat):Int)).toNat]? = some x;rw[show(-1+((N+1:Nat):Int)).toNat=N by omega];exact h
theorem zV{n i:Nat}{z:Int}(e:z=i)(h:i<n):ixN n z=some i:=by
 subst e;unfold ixN;rw[if_pos (by omega),if_pos (by omega)];simp
theorem zD{xs:List V}{i:Nat}{z:Int}{x:V}(e:z=i)(h:xs[i]? = some x):atI xs z=some x:=by
 subst e;exact xR h
theorem cut_last(ns:List Int)(h:ns≠[]):cutV (ns.map V.int) none (some (-1))=ns.dropLast.map V.int:=by
 unfold cutV;have l0:0<ns.length:=List.length_pos_iff.mpr h;have e:HT.sIx (ns.map V.int).length (ns.map V.int).length (some (-1))=ns.length-1:=by
  unfold HT.sIx;dsimp only;rw[if_pos (by decide),List.length_map];omega
 rw[e,HT.sIx_none,List.drop_zero,Nat.sub_zero,List.dropLast_eq_take,List.map_take]
theorem fct_le:∀n:Nat,n<=24->(LwB.fct n).natAbs<=2^(5*n)
 | 0,_=>by decide
 | n+1,h=>by
  show(LwB.fct n*((n:Int)+1)).natAbs<=_;rw[Int.natAbs_mul,Nat.mul_succ,Nat.pow_add];exact Nat.mul_le_mul (fct_le n (by omega)) (by omega)
theorem zA{n:Nat}(h:n<=24):(LwB.fct n).natAbs<2^121:=Nat.lt_of_le_of_lt (fct_le n h) (Nat.pow_lt_pow_right (by decide) (by omega))
noncomputable def spFact:Sp:=λvs H Q _=>∃n:Nat,vs=[.int n]/\n<=24/\Q (.int (LwB.fct n)) H
section
variable{P:Program}{w:World}{K:PySem.W.Frag}{mg:Str->Option Value}{base:Heap}{f fd:_}
theorem scFact:FnScope ["many","product","factor"] ["many"] (jO nC):=⟨rfl,rfl,rfl,by decide +kernel,rfl,by decide +kernel,by decide +kernel⟩
theorem ok_fact(F:Fun K "factorial" "factorial" nC f fd)(T:Txt mg):FnOk P w K mg base CX0 1 f fd ["many"] spFact:=by
 refine F.ok scFact (λvs H Q E h=>?_) (λcdv A outer s H vs Q E hr h=>?_)
 ·obtain⟨n,rfl,_⟩:=h
  rfl
 ·obtain⟨n,rfl,h24,go⟩:=h;refine⟨_,jB (jI (i:=1) scFact.nd rfl (Or.inl rfl) jD)
   (jB (kW PassesOwn.never rfl (pi_range2 (by rfl) T.rng (jA jD (jA (jJ kM (pv 0) jD) jC))) (jH (i:=2) scFact.nd rfl (Or.inl rfl))
    (jF (jI (i:=1) scFact.nd rfl (Or.inl rfl) (jJ kB (pv 1) (pv 2)))))
   (jF (jN (pv 1)))), ?_⟩
  refine⟨_,rfl,_,_,rfl,rfl,_,_,rfl,⟨by decide,by decide,by omega,by omega⟩, ?_⟩;have f1:LwB.fct 1=1:=by decide
  refine qE (λi σ H1=>H1=H/\∃v,σ=[some (.int n),some (.int (LwB.fct (i+1))),v]) ⟨rfl,_,by rw[f1];rfl⟩ ?_ ?_
  ·rintro i σ H1 hi ⟨rfl,v,rfl⟩;refine⟨_,rfl,_,rfl,_,_,rfl,rfl,⟨jE (zA (n:=i+1) (by omega)) (by decide),Nat.lt_of_lt_of_le (show(2+(i:Int)).natAbs<2^10 by omega) (Nat.pow_le_pow_right (by decide) (by decide))⟩,rfl,some (.int (2+(i:Int))), ?_⟩;show [some (V.int n),some (V.int (LwB.fct (i+1)*(2+(i:Int)))),_]=[_,some (V.int (LwB.fct (i+1)*(((i+1:Nat):Int)+1))),_];rw[show(2:Int)+(i:Int)=((i+1:Nat):Int)+1 by omega]
  ·rintro σ H1 ⟨rfl,v,rfl⟩;refine⟨_,rfl, ?_⟩;have:LwB.fct (((n:Int)+1-2).toNat+1)=LwB.fct n:=by
    by_cases z:n=0
    ·subst z;decide
    ·rw[show((n:Int)+1-2).toNat+1=n by omega]
   rw[this];exact go
end
end Lw
namespace Lw
open PySem PySem.Spec PyProof.Rows L2 LwQ
noncomputable def mvB(st pc:Rat):Int:=st.num*(lvD [st,pc]/(st.den:Int))
noncomputable def mvP(st pc:Rat):Int:=pc.num*(lvD [st,pc]/(pc.den:Int))
noncomputable def mvR(cs:List Rat)(st pc:Rat):List Int×Int:=LwB.mvF (mvB st pc) (mvP st pc) (lvD [st,pc]) ((lvT cs).getLastD 0) (lvT cs).dropLast.reverse
noncomputable def cL(c:Nat->Rat)(n:Nat):List Rat:=(List.range (n+1)).map c
structure Sm(c:Nat->Rat):Prop where
 c9:∀j,9<=j->c j=0
 dn:∃D:Int,0<D/\D.natAbs<=2^300/\∀j,((c j).den:Int)∣D
 nm:∀j,(c j).num.natAbs<2^500
noncomputable def Se(r:Rat):Prop:=r.den<=2^81/\r.num.natAbs<2^160
noncomputable def spMoved(K:PySem.W.Frag):Sp:=λvs H Q _=>∃(p a b:Addr) (c:Nat->Rat) (st pc:Rat),vs=[.ref p,.ref a,.ref b]/\SumC H p c/\Sm c/\SqT K H a [.int st.num,.int st.den]/\SqT K H b [.int pc.num,.int pc.den]/\Se st/\Se pc/\
 ∀(t q:Addr) (n:Nat) (H':Hp),H t=none->H q=none->Same H H'->IsDeg c n->H' t=some (.tup [.ref q,.int (lvD (cL c n)*(mvR (cL c n) st pc).2)])->H' q=some (.lst ((mvR (cL c n) st pc).1.map V.int))->Q (.ref t) H'
theorem zip_all{Pz:Int->Prop}{fz:Int->Int->Int} :∀{l m:List Int},(∀p∈l,∀q∈m,Pz (fz p q))->∀z∈List.zipWith fz l m,Pz z
 | [],_,_,z,hz=>by simp at hz
 | _::_,[],_,z,hz=>by simp at hz
 | p::l,q::m,h,z,hz=>by
  rw[List.zipWith_cons_cons]at hz;rcases List.mem_cons.mp hz with rfl | hz
  ·exact h p (List.mem_cons_self ..) q (List.mem_cons_self ..)
  ·exact zip_all (λp hp q hq=>h p (List.mem_cons_of_mem _ hp) q (List.mem_cons_of_mem _ hq)) z hz
theorem mvZ_bd{b s:Int}{row:List Int}{β B:Nat}(hb:b.natAbs<2^β)(hs:s.natAbs<2^β)(h:∀z∈row,z.natAbs<2^B):∀z∈LwB.mvZ b s row,z.natAbs<2^(β+B+1):=by
 have h0:(0:Int).natAbs<2^B:=Nat.two_pow_pos _;have h1:∀z∈row++[0],z.natAbs<2^B:=λz hz=>by
  rcases List.mem_append.mp hz with y | y
  ·exact h z y
  ·rw[List.mem_singleton.mp y];exact h0
 have h2:∀z∈0::row,z.natAbs<2^B:=λz hz=>by
  rcases List.mem_cons.mp hz with y | y
  ·rw[y];exact h0
  ·exact h z y
 exact zip_all (Pz:=λz=>z.natAbs<2^(β+B+1)) λp hp q hq=>yK (jW hb (h1 p hp)) (jW hs (h2 q hq))
theorem bumpI_bd{row:List Int}{y:Int}{B:Nat}(h:∀z∈row,z.natAbs<2^B)(hy:y.natAbs<2^B):∀z∈LwB.bumpI row y,z.natAbs<2^(B+1):=by
 intro z hz;have up:(2:Nat)^B<=2^(B+1):=Nat.pow_le_pow_right (by decide) (by omega);cases row with
 | nil=>simp [LwB.bumpI]at hz
 | cons a r=>
  rcases List.mem_cons.mp (show z∈(a+y)::r from hz)with rfl | hz
  ·exact yK (h a (List.mem_cons_self ..)) hy
  ·exact Nat.lt_of_lt_of_le (h z (List.mem_cons_of_mem _ hz)) up
theorem mvF_bd{b s u a:Int}{β υ τ:Nat}(hb:b.natAbs<2^β)(hs:s.natAbs<2^β)(hu:u.natAbs<=2^υ)(uβ:υ<=β)(ha:a.natAbs<2^τ):∀(n:Nat) (l:List Int),l.length=n->(∀t∈l,t.natAbs<2^τ)->
  (∀z∈(LwB.mvF b s u a l).1,z.natAbs<2^(τ+(β+2)*n))/\(LwB.mvF b s u a l).2.natAbs<=2^(υ*n)
 | 0,l,h,_=>by
  have:l=[]:=List.length_eq_zero_iff.mp h;subst this;refine⟨λz hz=>?_,by show(1:Int).natAbs<=2^(υ*0);rw[Nat.mul_zero];decide⟩;rw[List.mem_singleton.mp (show z∈[a]from hz)];exact ha
 | n+1,l,h,k=>by
  have ne:l≠[]:=by intro z;subst z;cases h
  have ld:l.dropLast.length=n:=by simp [h]
  obtain⟨h1,h2⟩:=mvF_bd hb hs hu uβ ha n l.dropLast ld λt ht=>k t (List.dropLast_subset _ ht);rw[<-List.dropLast_concat_getLast ne,LwB.mvF_snoc];have ht:=k _ (List.getLast_mem ne);generalize l.getLast ne=t at ht;have h3:((LwB.mvF b s u a l.dropLast).2*u).natAbs<=2^(υ*(n+1)):=by
   rw[Int.natAbs_mul,Nat.mul_succ,Nat.pow_add];exact Nat.mul_le_mul h2 hu
  have h4:(t*((LwB.mvF b s u a l.dropLast).2*u)).natAbs<2^(β+(τ+(β+2)*n)+1):=by
   have e:υ*(n+1)<=β*(n+1):=Nat.mul_le_mul_right _ uβ;have:(t*((LwB.mvF b s u a l.dropLast).2*u)).natAbs<2^(τ+υ*(n+1)):=by
    rw[Int.natAbs_mul,Nat.pow_add];exact Nat.mul_lt_mul_of_lt_of_le ht h3 (Nat.two_pow_pos _)
   refine Nat.lt_of_lt_of_le this (Nat.pow_le_pow_right (by decide) ?_);have e2:β*(n+1)=β*n+β:=Nat.mul_succ ..;have e3:(β+2)*n=β*n+2*n:=Nat.add_mul ..;omega
  refine⟨λz hz=>?_,h3⟩;have:=bumpI_bd (mvZ_bd hb hs h1) h4 z hz;have e3:(β+2)*(n+1)=(β+2)*n+(β+2):=Nat.mul_succ ..;rw[e3];exact Nat.lt_of_lt_of_le this (Nat.pow_le_pow_right (by decide) (by omega))
theorem nS{K:PySem.W.Frag}{a b:Addr}{ts us:List V}{σ0:L2.St}{g:TG}{te:TE}{Q:VK}{p:Addr}{H':Hp}(Pv:Nat->List V->Hp->Prop)(hle:us.length=ts.length)(hz:us.length<sizeLine)(h0:Pv 0 [] H')
  (hl:∀i ys H2,Pv i ys H2->SqL K H2 a ts/\SqL K H2 b us/\H2 p=some (.lst ys))
  (hs:∀i m ys x y c H2,ts[i]? = some x->us[i]? = some y->m=us.length-i->ys.length=i->Pv i ys H2->H2 c=none->g (.ref c) σ0 (upd H2 c (.tup [x,y])) fun σ4 H4=>Keep σ0 σ4/\te σ4 H4 λy H5=>H5 p=some (.lst ys)/\∃m',m'<m/\CompW us Pv (i+1) m' (ys++[y]) (upd H5 p (.lst (ys++[y]))))
  (hd:∀ys H2,ys.length=us.length->Pv us.length ys H2->Q (.ref p) H2):CompGoF σ0 (ItzL K a b) g te Q p H':=by
 refine⟨CompW us Pv,⟨_,rfl,Nat.zero_le _,rfl,h0⟩, ?_⟩;rintro i m ys H2 ⟨hm,hi,hy,hp⟩;obtain⟨q1,q2,e⟩:=hl i ys H2 hp;refine⟨e,by omega, ?_⟩;by_cases hlt:i<us.length
 ·have h2:i<ts.length:=by omega
  refine .inr ⟨⟨ts,us,ts[i],us[i],q1,q2,by simp [h2],by simp [hlt]⟩, ?_⟩;rintro _ _ ⟨c,x,y,hc,rfl,rfl,h1,h2⟩;exact hs i m ys x y c H2 (h1 _ q1) (h2 _ q2) hm hy hp hc
 ·obtain rfl:i=us.length:=by omega
  exact .inl ⟨⟨ts,us,q1,q2,.inr (Nat.le_refl _)⟩,hd ys H2 hy hp⟩
theorem yG{c:Nat->Rat}{n:Nat}(h:Sm c)(d:IsDeg c n):n<=8:=by
 rcases d.2 with z | z
 ·omega
 ·by_cases y:n<9
  ·omega
  ·exact absurd (h.c9 n (by omega)) z
theorem Sm.f24{c:Nat->Rat}(h:Sm c):F24 c:=λj hj=>h.c9 j (by omega)
theorem zB(c:Nat->Rat)(n:Nat):(cL c n).length=n+1:=by simp [cL]
theorem cL_sz{c:Nat->Rat}(h:Sm c)(n:Nat):∀r∈cL c n,r.num.natAbs<2^500:=λr hr=>by
 obtain⟨j,_,rfl⟩:=List.mem_map.mp hr;exact h.nm j
theorem cL_dn{c:Nat->Rat}(h:Sm c)(n:Nat):∃D:Int,0<D/\D.natAbs<=2^300/\∀r∈cL c n,(r.den:Int)∣D:=by
 obtain⟨D,h0,hB,hd⟩:=h.dn;exact⟨D,h0,hB,λr hr=>by obtain⟨j,_,rfl⟩:=List.mem_map.mp hr;exact hd j⟩
theorem lvD_c{c:Nat->Rat}{n:Nat}(h:Sm c)(hn:n<=8):(lvD (cL c n)).natAbs<=2^300:=by
 obtain⟨D,h0,hB,hd⟩:=cL_dn h n;exact Nat.le_trans (gG (lvD_of hd) h0) hB
theorem lvT_c{c:Nat->Rat}{n:Nat}(h:Sm c)(hn:n<=8):∀z∈lvT (cL c n),z.natAbs<2^800:=lvT_bd (lvD_c h hn) (cL_sz h n)
theorem lvD_2{st pc:Rat}(h1:Se st)(h2:Se pc):(lvD [st,pc]).natAbs<=2^162:=lvD_le (e:=81) (rs:=[st,pc]) λr hr=>by
 simp only[List.mem_cons,List.not_mem_nil,or_false]at hr;rcases hr with rfl | rfl
 ·exact h1.1
 ·exact h2.1
theorem mv_2{st pc:Rat}(h1:Se st)(h2:Se pc):(mvB st pc).natAbs<2^322/\(mvP st pc).natAbs<2^322:=by
 have:=lvT_bd (rs:=[st,pc]) (m:=160) (lvD_2 h1 h2) λr hr=>by
  simp only[List.mem_cons,List.not_mem_nil,or_false]at hr;rcases hr with rfl | rfl
  ·exact h1.2
  ·exact h2.2
 exact⟨this (mvB st pc) (List.mem_cons_self ..),this (mvP st pc) (List.mem_cons_of_mem _ (List.mem_cons_self ..))⟩
theorem mvR_bd{c:Nat->Rat}{n:Nat}{st pc:Rat}(h:Sm c)(hn:n<=8)(h1:Se st)(h2:Se pc)(i:Nat)(hi:i<=n) :
  (∀z∈(LwB.mvF (mvB st pc) (mvP st pc) (lvD [st,pc]) ((lvT (cL c n)).getLastD 0) ((lvT (cL c n)).dropLast.reverse.take i)).1,z.natAbs<2^3400)/\(LwB.mvF (mvB st pc) (mvP st pc) (lvD [st,pc]) ((lvT (cL c n)).getLastD 0) ((lvT (cL c n)).dropLast.reverse.take i)).2.natAbs<=2^1300:=by
 have bt:=lvT_c h hn;have b2:=mv_2 h1 h2;have ll:=yD (cL c n);rw[zB]at ll;have ne:lvT (cL c n)≠[]:=by intro z;rw[z]at ll;simp at ll
 have la:((lvT (cL c n)).getLastD 0).natAbs<2^800:=by
  rw[List.getLastD_eq_getLast?,List.getLast?_eq_some_getLast ne];exact bt _ (List.getLast_mem ne)
 have lr:((lvT (cL c n)).dropLast.reverse.take i).length=i:=by
  rw[List.length_take,List.length_reverse,List.length_dropLast,ll];omega
 have:=mvF_bd b2.1 b2.2 (lvD_2 h1 h2) (by decide) la i _ lr λt ht=>bt t (List.dropLast_subset _ (List.mem_reverse.mp (List.mem_of_mem_take ht)));refine⟨λz hz=>Nat.lt_of_lt_of_le (this.1 z hz) (Nat.pow_le_pow_right (by decide) (by omega)),Nat.le_trans this.2 (Nat.pow_le_pow_right (by decide) (by omega))⟩
section
variable{P:Program}{w:World}{K:PySem.W.Frag}{mg:Str->Option Value}{base:Heap}{f fd:_}
theorem scMoved:FnScope ["one","start","pace","tops","bottom","base","step","under","row","share","top"] ["one","start","pace"] (jO gP):=⟨rfl,rfl,rfl,by decide +kernel,rfl,by decide +kernel,by decide +kernel⟩
theorem ok_moved{fD fM fG fL fN fE:Addr}{fdD fdM fdG fdL fdN fdE:FuncData}(F:Fun K "moved" "moved" gP f fd)(T:Txt mg)(Nn:Ngt K mg)(DL:Df K mg "level" gQ ["some"] fL fdL)(DN:Df K mg "all_powers" yR ["one"] fN fdN)(DE:Df K mg "degree" zG ["one"] fE fdE)(DD:Df K mg "divided" sDiv ["one","other"] fD fdD)(DM:Df K mg "multiplied" sMul ["one","other"] fM fdM)(DG:Df K mg "greatest_divisor" sGcd ["one","other"] fG fdG):FnOk P w K mg base CX0 5 f fd ["one","start","pace"] (spMoved K):=by
 have GL:FnOk P w K mg base CX0 4 fL fdL ["some"] (spLevel K):=ok_level DL.F T DD DM DG;have GN:FnOk P w K mg base CX0 2 fN fdN ["one"] (mY K):=ok_numbers DN.F T Nn DE;refine F.ok scMoved (λvs H Q E h=>?_) (λcdv A outer s H vs Q E hr h=>?_)
 ·obtain⟨p,a,b,c,st,pc,rfl,_⟩:=h
  rfl
 ·obtain⟨p,a,b,c,st,pc,rfl,hS,sm,ha,hb,e1,e2,go⟩:=h;have hr2:Room 2 _:=hr.mono (by decide);refine⟨_,jB (qC (jG GL hr rfl DL.m DL.F.kp DL.b .nil jL (jA (jG GN hr2 rfl DN.m DN.F.kp DN.b .nil jL (jA (pv 0) jC)) jC)) (kU rfl (jM (jH (i:=3) scMoved.nd rfl (Or.inl rfl)) (jM (jH (i:=4) scMoved.nd rfl (Or.inl rfl)) kG))))
   (jB (qC (jG GL hr rfl DL.m DL.F.kp DL.b .nil jL (jA (kR (jA (pv 1) (jA (pv 2) jC))) jC)) (kU rfl (jM (pg_tupL rfl (jM (jH (i:=5) scMoved.nd rfl (Or.inr rfl)) (jM (jH (i:=6) scMoved.nd rfl (Or.inr rfl)) kG))) (jM (jH (i:=7) scMoved.nd rfl (Or.inl rfl)) kG))))
   (jB (jI (i:=8) scMoved.nd rfl (Or.inl rfl) (kR (jA (jT kQ (pv 3) (yW xG jD) (λ_ _=>rfl)) jC)))
   (jB (jI (i:=9) scMoved.nd rfl (Or.inl rfl) jD)
   (jB (kW PassesOwn.never rfl (vC (pe_backL (kL kJ (pv 3) qA (kX (yW xG jD))) (kX (yW xG jD)))) (jH (i:=10) scMoved.nd rfl (Or.inl rfl))
    (jB (jI (i:=9) scMoved.nd rfl (Or.inl rfl) (jJ kB (pv 9) (pv 7)))
    (jB (zT (i:=8) scMoved.nd rfl (Or.inl rfl) (own:=2) (idx:=[5,6]) (N:=["same","lower","base","step"]) rfl rfl rfl (by decide +kernel) (by decide +kernel) (λ_ _ h=>h) (vS rfl) rfl (two_idx rfl rfl ⟨rfl,rfl,rfl,rfl⟩ ⟨rfl,rfl,rfl,rfl⟩)
     (pi_zipL (by rfl) T.zip (jA (jJ qH (pv 8) (kR (jA jD jC))) (jA (jJ qH (kR (jA jD jC)) (pv 8)) jC)))
     (λC fp s2 H2=>show PG (kC _ ["same","lower","base","step"] _ _ C fp s2 H2) _ (gTup K 2 (vP (kN 0) (vP (kN 1) gNil)))from kU (X:=kC _ ["same","lower","base","step"] _ _ C fp s2 H2) rfl (jM (jH (i:=0) (show List.Nodup (["same","lower","base","step"]:List Str) by decide +kernel) rfl (Or.inl rfl) (Or.inr rfl)) (jM (jH (i:=1) (show List.Nodup (["same","lower","base","step"]:List Str) by decide +kernel) rfl (Or.inl rfl) (Or.inr rfl)) kG)))
     (λC fp s2 H2=>jJ kM (jJ kB (pv 2) (pv 0)) (jJ kB (pv 3) (pv 1))))
    (jF (ps_augS (pv 8) jD get_list (jJ kB (pv 10) (pv 9)) ip_add qS)))))
   (jF (jN (jV (jA (pv 8) (jA (jJ kB (pv 4) (pv 9)) jC))))))))), ?_⟩
  refine⟨_,rfl,p,c,rfl,hS,sm.f24,λl1 n xs1 H1 n1 s1 dg e1' hN=>?_⟩;have n8:=yG sm dg;have sz:=cL_sz sm n;refine⟨l1,xs1,cL c n,rfl,SqL.of e1',λH' s'=>SqL.of (s' _ _ e1'),hN.q,by rw[zB];omega,(cL_dn sm n).imp λD h=>⟨h.1,Nat.le_trans h.2.1 (Nat.pow_le_pow_right (by decide) (by decide)),h.2.2⟩,λr hr=>Nat.lt_of_lt_of_le (sz r hr) (Nat.pow_le_pow_right (by decide) (by decide)),λt2 q2 H2 n2 m2 s2 et2 eq2=>?_⟩;refine⟨t2,_,rfl,SqT.of et2,rfl,_,_,rfl,_,_,rfl,rfl, ?_⟩;refine⟨_,rfl,_,rfl,(by show 2<=sizeLine;decide),λl3 H3 n3 s3 e3=>?_⟩;have s13:=(s1.trans s2).trans s3;have up2:∀r∈[st,pc],r.num.natAbs<2^600:=λr hr=>by
   have:Se r:=by
    simp only[List.mem_cons,List.not_mem_nil,or_false]at hr;rcases hr with rfl | rfl
    ·exact e1
    ·exact e2
   exact Nat.lt_of_lt_of_le this.2 (Nat.pow_le_pow_right (by decide) (by decide))
  have up3:∃D:Int,0<D/\D.natAbs<=2^2400/\∀r∈[st,pc],(r.den:Int)∣D:=by
   have p1:=st.den_pos;have p2:=pc.den_pos;refine⟨(st.den:Int)*(pc.den:Int),Int.mul_pos (by omega) (by omega), ?_,λr hr=>?_⟩
   ·rw[Int.natAbs_mul,Int.natAbs_natCast,Int.natAbs_natCast];have:=Nat.mul_le_mul e1.1 e2.1;rw[<-Nat.pow_add]at this;exact Nat.le_trans this (Nat.pow_le_pow_right (by decide) (by decide))
   ·simp only[List.mem_cons,List.not_mem_nil,or_false]at hr;rcases hr with rfl | rfl
    ·exact Int.dvd_mul_right ..
    ·exact Int.dvd_mul_left ..
  refine⟨l3,_,[st,pc],rfl,SqL.of e3,λH' s'=>SqL.of (s' _ _ e3),.cons ⟨a,rfl,qU s13 ha⟩ (.cons ⟨b,rfl,qU s13 hb⟩ .nil),(by show 2<=24;decide),up3,up2,λt4 q4 H4 n4 m4 s4 et4 eq4=>?_⟩;rw[show(lvT [st,pc]).map V.int=[.int (mvB st pc),.int (mvP st pc)]from rfl]at eq4;refine⟨t4,_,rfl,SqT.of et4,rfl,_,_,rfl,q4,_,rfl,SqL.of eq4,rfl,_,_,rfl,_,_,rfl,rfl,_,_,rfl,rfl, ?_⟩;have s34:=s3.trans s4;have s14:=(s1.trans s2).trans s34;have ll:=yD (cL c n);rw[zB]at ll;have ne:lvT (cL c n)≠[]:=by intro z;rw[z]at ll;simp at ll
  have hlast:((lvT (cL c n)).map V.int)[n]? = some (.int ((lvT (cL c n)).getLastD 0)):=by
   rw[List.getElem?_map,List.getLastD_eq_getLast?,List.getLast?_eq_getElem?,ll];show Option.map V.int (lvT (cL c n))[n]? = some (V.int ((lvT (cL c n))[n+1-1]?.getD 0));rw[Nat.add_sub_cancel,List.getElem?_eq_getElem (by omega)]
   rfl
  have eq2':=s34 _ _ eq2;refine⟨_,rfl,_,rfl,q2,_,_,_,rfl,rfl,SqL.of eq2',at_last (by rw[List.length_map,ll]) hlast,(by show 1<=sizeLine;decide),λr5 H5 n5 s5 e5=>?_⟩;have s15:=s14.trans s5;refine⟨_,rfl,_,rfl,_,rfl,q2,_,rfl,SqL.of (s5 _ _ eq2'),λl6 H6 n6 s6 e6=>?_⟩;rw[cut_last _ ne]at e6;refine⟨_,rfl,_,rfl,rfl,l6,_,rfl,SqL.of e6,λl7 H7 n7 s7 e7=>?_⟩;rw[<-List.map_reverse]at e7;have s57:=s6.trans s7;have s17:=s15.trans s57;have bnd:=mvR_bd sm n8 e1 e2;have hB:=mv_2 e1 e2;have hU:=lvD_2 e1 e2;have ld:(lvT (cL c n)).dropLast.reverse.length=n:=by rw[List.length_reverse,List.length_dropLast,ll];rfl
  have btl:∀t∈(lvT (cL c n)).dropLast.reverse,t.natAbs<2^800:=λt ht=>lvT_c sm n8 t (List.dropLast_subset _ (List.mem_reverse.mp ht));have mvRe:mvR (cL c n) st pc=LwB.mvF (mvB st pc) (mvP st pc) (lvD [st,pc]) ((lvT (cL c n)).getLastD 0) (lvT (cL c n)).dropLast.reverse:=rfl;have hD:(lvD (cL c n)).natAbs<2^301:=Nat.lt_of_le_of_lt (lvD_c sm n8) (Nat.pow_lt_pow_right (by decide) (by decide));have g7:H4 r5=none:=n5;generalize hl:(lvT (cL c n)).dropLast.reverse=tl at *;generalize (lvT (cL c n)).getLastD 0=ta at *;generalize mvB st pc=bb at *;generalize mvP st pc=pp at *;generalize hu:lvD [st,pc]=uu at *;generalize hDD:lvD (cL c n)=DD' at *;refine⟨l7,rfl,⟨_,SqL.of e7⟩,wW (K:=K) (a:=l7) (xs:=tl.map V.int) (λi σ H8=>Same H7 H8/\∃rr v,H rr=none/\H8 rr=some (.lst ((LwB.mvF bb pp uu ta (tl.take i)).1.map V.int))/\
   σ=[some (.ref p),some (.ref a),some (.ref b),some (.ref q2),some (.int DD'),some (.int bb),some (.int pp),some (.int uu),some (.ref rr),some (.int (LwB.mvF bb pp uu ta (tl.take i)).2),v]) ⟨Same.refl _,r5,none,s14.free g7,s57 _ _ e5,rfl⟩ (λi σ H1 _ h=>SqL.of (h.1 _ _ e7)) ?_ ?_⟩
  ·rintro i x σ H8 hx ⟨s8,rr,v,nrr,er,rfl⟩;have hi:i<tl.length:=by
    have:=(List.getElem?_eq_some_iff.mp hx).1
    rwa [List.length_map]at this
   obtain⟨t,ht,rfl⟩:∃t,tl[i]? = some t/\x=.int t:=by
    rw[List.getElem?_map,List.getElem?_eq_getElem hi]at hx;exact⟨tl[i],List.getElem?_eq_getElem hi,(Option.some.inj hx).symm⟩
   have tk:tl.take (i+1)=tl.take i++[t]:=by rw[List.take_succ,ht];rfl
   have bi:=bnd i (by omega);have bt:=btl t (List.mem_of_getElem? ht);have lrow:=LwB.mvF_len bb pp uu ta i (tl.take i) (by rw[List.length_take];omega);have stp:LwB.mvF bb pp uu ta (tl.take (i+1))=LwB.mvS bb pp uu (LwB.mvF bb pp uu ta (tl.take i)) t:=by rw[tk,LwB.mvF_snoc]
   generalize hrow:LwB.mvF bb pp uu ta (tl.take i)=st0 at *;obtain⟨row,shr⟩:=st0;dsimp only at *;refine⟨_,rfl,_,rfl,_,_,rfl,rfl,⟨Nat.lt_of_le_of_lt bi.2 (Nat.pow_lt_pow_right (by decide) (by decide)),Nat.lt_of_le_of_lt hU (Nat.pow_lt_pow_right (by decide) (by decide))⟩, ?_⟩;refine⟨_,rfl,(by show 1<=sizeLine;decide),λz1 H9 n9 s9 e9=>?_⟩;refine⟨rr,z1,row.map V.int,[.int 0],rfl,rfl,s9 _ _ er,e9, ?_,λc1 H10 n10 s10 e10=>?_⟩
   ·have:(row.map V.int).length + [V.int 0].length<=24:=by
     rw[List.length_map,lrow];show i+1+1<=24;omega
    exact Nat.le_trans this (by decide)
   refine⟨(by show 1<=sizeLine;decide),λz2 H11 n11 s11 e11=>⟨_,rfl,z2,rr,[.int 0],row.map V.int,rfl,rfl,e11,(s9.trans (s10.trans s11)) _ _ er, ?_,λc2 H12 n12 s12 e12=>?_⟩⟩
   ·have:[V.int 0].length+(row.map V.int).length<=24:=by
     rw[List.length_map,lrow];show 1+(i+1)<=24;omega
    exact Nat.le_trans this (by decide)
   have s812:=s9.trans (s10.trans (s11.trans s12));have e10':=(s11.trans s12) _ _ e10;rw[show row.map V.int++[V.int 0]=(row++[0]).map V.int by rw[List.map_append];rfl]at e10';rw[show [V.int 0]++row.map V.int=(0::row).map V.int from rfl]at e12;refine⟨c1,c2,rfl,⟨_,SqL.of e10'⟩,⟨_,SqL.of e12⟩,λrn H13 n13 s13 e13=>?_⟩;have lz:=LwB.mvZ_len bb pp row;have nn:Same H7 H12:=s8.trans s812;have l24:((0::row).map V.int).length<=24:=by
    rw[List.length_map,List.length_cons,lrow];omega
   refine nS (K:=K) (a:=c1) (b:=c2) (ts:=(row++[0]).map V.int) (us:=(0::row).map V.int) (λk ys H14=>Same H12 H14/\H14 rn=some (.lst ys)/\ys=((LwB.mvZ bb pp row).take k).map V.int) (by simp) (Nat.lt_of_le_of_lt l24 (by decide)) ⟨s13,e13,rfl⟩ (λk ys H14 h=>⟨SqL.of (h.1 _ _ e10'),SqL.of (h.1 _ _ e12),h.2.1⟩) ?_ ?_
   ·rintro k m ys x y z H14 hx hy hm hl' ⟨s14',e14,rfl⟩ nz;have hk:k<row.length+1:=by
     have:=(List.getElem?_eq_some_iff.mp hy).1
     rwa [List.length_map,List.length_cons]at this
    obtain⟨x',hx',rfl⟩:∃x',(row++[0])[k]? = some x'/\x=.int x':=by
     rw[List.getElem?_map]at hx;obtain⟨x',h1,h2⟩:=Option.map_eq_some_iff.mp hx;exact⟨x',h1,h2.symm⟩
    obtain⟨y',hy',rfl⟩:∃y',(0::row)[k]? = some y'/\y=.int y':=by
     rw[List.getElem?_map]at hy;obtain⟨y',h1,h2⟩:=Option.map_eq_some_iff.mp hy;exact⟨y',h1,h2.symm⟩
    have bx:x'.natAbs<2^3400:=by
     rcases List.mem_append.mp (List.mem_of_getElem? hx')with q | q
     ·exact bi.1 x' q
     ·rw[List.mem_singleton.mp q];exact Nat.two_pow_pos _
    have by':y'.natAbs<2^3400:=by
     rcases List.mem_cons.mp (List.mem_of_getElem? hy')with q | q
     ·rw[q];exact Nat.two_pow_pos _
     ·exact bi.1 y' q
    have sz':Same H14 (upd H14 z (.tup [.int x',.int y'])):=kH _ nz;have ez:(upd H14 z (.tup [.int x',.int y'])) z=some (.tup [.int x',.int y']):=jK;generalize upd H14 z (.tup [.int x',.int y'])=H15 at sz' ez;refine⟨z,_,rfl,SqT.of ez,rfl,_,_,rfl,_,_,rfl,rfl,keep2, ?_⟩;refine⟨_,rfl,_,rfl,_,_,rfl,rfl,⟨jE hB.1 (by decide),jE bx (by decide)⟩,_,rfl,_,rfl,_,_,rfl,rfl,⟨jE hB.2 (by decide),jE by' (by decide)⟩,_,_,rfl,rfl, ?_⟩;refine kZ (x:=.int y') (by rw[List.getElem?_map,hy'];rfl) hm hl' (sz' _ _ e14) ⟨kF (s14'.trans sz') n13,jK, ?_⟩;have:(LwB.mvZ bb pp row)[k]? = some (bb*x'+pp*y'):=by
     unfold LwB.mvZ;rw[List.getElem?_zipWith,hx',hy']
    rw[List.take_succ,this,List.map_append]
    rfl
   ·rintro ys H14 hl' ⟨s14',e14,rfl⟩;have tka:(LwB.mvZ bb pp row).take ((0::row).map V.int).length=LwB.mvZ bb pp row:=List.take_of_length_le (by rw[lz,List.length_map,List.length_cons];exact Nat.le_refl _);rw[tka]at e14;have g0:∃g0,(LwB.mvZ bb pp row)[0]? = some g0:=⟨_,List.getElem?_eq_getElem (by rw[lz];omega)⟩;obtain⟨g0,hg0⟩:=g0;have hat:atI ((LwB.mvZ bb pp row).map V.int) 0=some (.int g0):=zD (i:=0) rfl (by rw[List.getElem?_map,hg0];rfl);have bs2:(shr*uu).natAbs<2^2400:=by
     have:(shr*uu).natAbs<=2^(1300+162):=by
      rw[Int.natAbs_mul,Nat.pow_add];exact Nat.mul_le_mul bi.2 hU
     exact Nat.lt_of_le_of_lt this (Nat.pow_lt_pow_right (by decide) (by decide))
    refine⟨_,rfl,rn,_,_,_,rfl,rfl,SqL.of e14,hat,_,rfl,_,rfl,_,_,rfl,rfl,⟨jE bt (by decide),jE bs2 (by decide)⟩,_,_,rfl,rfl,rn,_,_,0,rfl,rfl,e14,zV (i:=0) rfl (by rw[List.length_map,lz];omega), ?_⟩;have n7:H7 rn=none:=nn.free n13;refine⟨kF (nn.trans s14') n7,rn,some (.int t),s17.free n7, ?_, ?_⟩
    ·rw[jK,stp];show some (HO.lst (((LwB.mvZ bb pp row).map V.int).set 0 (.int (g0+t*(shr*uu)))))=some (HO.lst ((LwB.bumpI (LwB.mvZ bb pp row) (t*(shr*uu))).map V.int));unfold LwB.bumpI;rw[List.map_set,List.getD_eq_getElem?_getD,hg0]
     rfl
    ·rw[stp]
     rfl
  ·rintro σ H8 ⟨s8,rr,v,nrr,er,rfl⟩;have tka:tl.take (tl.map V.int).length=tl:=by rw[List.length_map,List.take_length]
   rw[tka]at er;have bi:=bnd n (Nat.le_refl _);rw[show tl.take n=tl from List.take_of_length_le (by omega)]at bi;refine⟨_,rfl,_,rfl,_,rfl,_,_,rfl,rfl,⟨jE hD (by decide), ?_⟩,(by show 2<=sizeLine;decide),λtt H9 n9 s9 e9=>?_⟩
   ·rw[tka];exact Nat.lt_of_le_of_lt bi.2 (Nat.pow_lt_pow_right (by decide) (by decide))
   rw[tka]at e9;refine go tt rr n H9 ((s17.trans s8).free n9) nrr ((s17.trans s8).trans s9) dg ?_ ?_
   ·rw[mvRe,hDD];exact e9
   ·rw[mvRe];exact s9 _ _ er
end
end Lw
namespace Lw
open PySem PySem.Spec PyProof.Rows L2 LwQ
noncomputable def spR(ns:List Int):Nat->Int:=λj=>ns.getD j 0*LwB.fct j*LwB.fct (ns.length-1-j)
noncomputable def uL(ns:List Int):List Int:=(List.range ns.length).map (LwB.bb (spR ns))
theorem bb_bd{B:Nat} :∀(j:Nat) {r:Nat->Int},(∀i,(r i).natAbs<2^B)->(LwB.bb r j).natAbs<2^(B+j)
 | 0,r,h=>h 0
 | j+1,r,h=>by
  show(LwB.bb r j+LwB.bb (λi=>r (i+1)) j).natAbs<2^(B+j+1);exact yK (bb_bd j h) (bb_bd j λi=>h (i+1))
theorem spR_bd{ns:List Int}(l:ns.length<=24)(h:∀z∈ns,z.natAbs<2^3400)(i:Nat):(spR ns i).natAbs<2^3642:=by
 unfold spR;by_cases hi:i<ns.length
 ·have e:ns.getD i 0=ns[i]:=by rw[List.getD_eq_getElem?_getD,List.getElem?_eq_getElem hi];rfl
  rw[e];exact jW (jW (h _ (List.getElem_mem hi)) (zA (by omega))) (zA (by omega))
 ·have e:ns.getD i 0=0:=by rw[List.getD_eq_getElem?_getD,List.getElem?_eq_none (by omega)];rfl
  rw[e,Int.zero_mul,Int.zero_mul];exact Nat.two_pow_pos _
theorem spRow_bd{ns:List Int}(l:ns.length<=24)(h:∀z∈ns,z.natAbs<2^3400):∀z∈uL ns,z.natAbs<2^3700:=λz hz=>by
 obtain⟨j,hj,rfl⟩:=List.mem_map.mp hz;have:=List.mem_range.mp hj;exact Nat.lt_of_lt_of_le (bb_bd j (spR_bd l h)) (Nat.pow_le_pow_right (by decide) (by omega))
theorem mapI_set{g g':Nat->Int}{N i:Nat}(hi:i<N)(k:∀j,j<N->j≠i->g' j=g j):((List.range N).map λj=>V.int (g j)).set i (.int (g' i))=(List.range N).map λj=>V.int (g' j):=by
 apply List.ext_getElem
 ·simp
 ·intro j h1 h2;simp at h1;rw[List.getElem_set];by_cases e:i=j
  ·subst e;simp
  ·rw[if_neg e];simp [k j h1 (Ne.symm e)]
theorem comp_enumF{K:PySem.W.Frag}{a:Addr}{xs:List V}{σ0:L2.St}{g:TG}{te:TE}{Q:VK}{p:Addr}{H':Hp}(Pv:Nat->List V->Hp->Prop)(hz:xs.length<sizeLine)(h0:Pv 0 [] H')
  (hl:∀i ys H2,Pv i ys H2->SqL K H2 a xs/\H2 p=some (.lst ys))
  (hs:∀i m ys x c H2,xs[i]? = some x->m=xs.length-i->ys.length=i->Pv i ys H2->H2 c=none->g (.ref c) σ0 (upd H2 c (.tup [.int i,x])) fun σ4 H4=>Keep σ0 σ4/\te σ4 H4 λy H5=>H5 p=some (.lst ys)/\∃m',m'<m/\CompW xs Pv (i+1) m' (ys++[y]) (upd H5 p (.lst (ys++[y]))))
  (hd:∀ys H2,ys.length=xs.length->Pv xs.length ys H2->Q (.ref p) H2):CompGoF σ0 (Itel K a) g te Q p H':=by
 refine⟨CompW xs Pv,⟨_,rfl,Nat.zero_le _,rfl,h0⟩, ?_⟩;rintro i m ys H2 ⟨hm,hi,hy,hp⟩;obtain⟨q1,e⟩:=hl i ys H2 hp;refine⟨e,by omega, ?_⟩;by_cases hlt:i<xs.length
 ·refine .inr ⟨⟨xs,xs[i],q1,by simp [hlt]⟩, ?_⟩;rintro _ _ ⟨c,x,hc,rfl,rfl,h1⟩;exact hs i m ys x c H2 (h1 _ q1) hm hy hp hc
 ·obtain rfl:i=xs.length:=by omega
  exact .inl ⟨⟨xs,q1,Nat.le_refl _⟩,hd ys H2 hy hp⟩
noncomputable def spSpread(K:PySem.W.Frag):Sp:=λvs H Q _=>∃(l:Addr) (ns:List Int),vs=[.ref l]/\H l=some (.lst (ns.map V.int))/\0<ns.length/\ns.length<=24/\(∀z∈ns,z.natAbs<2^3400)/\
 ∀(q:Addr) (H':Hp),H q=none->Same H H'->H' q=some (.lst ((uL ns).map V.int))->Q (.ref q) H'
section
variable{P:Program}{w:World}{K:PySem.W.Frag}{mg:Str->Option Value}{base:Heap}{f fd:_}
theorem scSpread:FnScope ["tops","most","row","turn","at"] ["tops"] (jO wA):=⟨rfl,rfl,rfl,by decide +kernel,rfl,by decide +kernel,by decide +kernel⟩
theorem ok_spread{fF:Addr}{fdF:FuncData}(F:Fun K "spread" "spread" wA f fd)(T:Txt mg)(DF:Df K mg "factorial" nC ["many"] fF fdF):FnOk P w K mg base CX0 2 f fd ["tops"] (spSpread K):=by
 have GF:FnOk P w K mg base CX0 1 fF fdF ["many"] spFact:=ok_fact DF.F T;refine F.ok scSpread (λvs H Q E h=>?_) (λcdv A outer s H vs Q E hr h=>?_)
 ·obtain⟨l,ns,rfl,_⟩:=h
  rfl
 ·obtain⟨l,ns,rfl,hl,l0,l24,bd,go⟩:=h;refine⟨_,jB (jI (i:=1) scSpread.nd rfl (Or.inr rfl) (jJ qB (kA kD (by rfl) T.len PySem.boot_len (jA (pv 0) jC)) jD))
   (jB (zT (i:=2) scSpread.nd rfl (Or.inl rfl) (own:=2) (idx:=[1]) (N:=["power","top","most"]) rfl rfl rfl (by decide +kernel) (by decide +kernel) (λ_ _ h=>h) (vS rfl) rfl (wN rfl ⟨rfl,rfl,rfl,rfl⟩)
    (gZ (by rfl) T.enum (jA (pv 0) jC))
    (λC fp s2 H2=>show PG (kC _ ["power","top","most"] _ _ C fp s2 H2) _ (gTup K 2 (vP (kN 0) (vP (kN 1) gNil)))from kU (X:=kC _ ["power","top","most"] _ _ C fp s2 H2) rfl (jM (jH (i:=0) (show List.Nodup (["power","top","most"]:List Str) by decide +kernel) rfl (Or.inl rfl) (Or.inr rfl)) (jM (jH (i:=1) (show List.Nodup (["power","top","most"]:List Str) by decide +kernel) rfl (Or.inl rfl) (Or.inr rfl)) kG)))
    (λC fp s2 H2=>jJ kB (jJ kB (pv 1) (jG GF hr rfl DF.m DF.F.kp DF.b .nil jL (jA (pv 0) jC))) (jG GF hr rfl DF.m DF.F.kp DF.b .nil jL (jA (jJ qB (pv 2) (pv 0)) jC))))
   (jB (kW PassesOwn.never rfl (qD (by rfl) T.rng (jA (pv 1) jC)) (jH (i:=3) scSpread.nd rfl (Or.inl rfl))
    (jF (kW PassesOwn.never rfl (pi_rev2 (by rfl) T.rev (jA (vL call_range2 (by rfl) T.rng boot_range (jA (jJ kM (pv 3) jD) (jA (jJ kM (pv 1) jD) jC))) jC)) (jH (i:=4) scSpread.nd rfl (Or.inl rfl))
     (jF (ps_augS (pv 2) (pv 4) get_list (jT kQ (pv 2) (jJ qB (pv 4) jD) (λ_ _=>rfl)) ip_add qS)))))
   (jF (jN (pv 2))))), ?_⟩
  have lm:((ns.map V.int).length:Int)-1=((ns.length-1:Nat):Int):=by rw[List.length_map];omega
  refine⟨_,rfl,l,_,rfl,.inl (SqL.of hl),_,_,rfl,rfl, ?_⟩;show kN 1 (.int (((ns.map V.int).length:Int)-1)) _ H _;rw[lm];generalize hm:ns.length-1=m at *;refine⟨_,rfl,l,rfl,⟨_,SqL.of hl⟩,λq H1 n1 s1 e1=>?_⟩;refine comp_enumF (K:=K) (a:=l) (xs:=ns.map V.int) (λi ys H2=>Same H H2/\H2 q=some (.lst ys)/\ys=(List.range i).map λj=>V.int (spR ns j)) (Nat.lt_of_le_of_lt (show(ns.map V.int).length<=24 by rw[List.length_map];exact l24) (by decide)) ⟨s1,e1,rfl⟩ (λi ys H2 h=>⟨SqL.of (h.1 _ _ hl),h.2.1⟩) ?_ ?_
  ·rintro i k ys x z H2 hx hm' hy ⟨s2,e2,rfl⟩ nz;have hi:i<ns.length:=by
    have:=(List.getElem?_eq_some_iff.mp hx).1
    rwa [List.length_map]at this
   obtain⟨t,ht,rfl⟩:∃t,ns[i]? = some t/\x=.int t:=by
    rw[List.getElem?_map]at hx;obtain⟨x',h1,h2⟩:=Option.map_eq_some_iff.mp hx;exact⟨x',h1,h2.symm⟩
   have bt:=bd t (List.mem_of_getElem? ht);have sz':Same H2 (upd H2 z (.tup [.int i,.int t])):=kH _ nz;have ez:(upd H2 z (.tup [.int i,.int t])) z=some (.tup [.int i,.int t]):=jK;generalize upd H2 z (.tup [.int i,.int t])=H3 at sz' ez;refine⟨z,_,rfl,SqT.of ez,rfl,_,_,rfl,_,_,rfl,rfl,keep2, ?_⟩;refine⟨_,rfl,_,rfl,i,rfl,by omega,_,_,rfl,rfl,⟨jE bt (by decide),jE (zA (by omega)) (by decide)⟩,_,rfl,_,rfl,_,_,rfl,rfl,m-i, ?_,by omega,_,_,rfl,rfl,⟨jE (jW bt (zA (n:=i) (by omega))) (by decide),jE (zA (by omega)) (by decide)⟩, ?_⟩
   ·show [V.int ((m:Int)-(i:Int))]=[V.int ((m-i:Nat):Int)];rw[show(m:Int)-(i:Int)=((m-i:Nat):Int) by omega]
   refine kZ hx hm' hy (sz' _ _ e2) ⟨kF (s2.trans sz') n1,jK, ?_⟩;rw[List.range_succ,List.map_append];have:spR ns i=t*LwB.fct i*LwB.fct (m-i):=by
    unfold spR;rw[hm,List.getD_eq_getElem?_getD,ht]
    rfl
   rw[List.map_cons,this]
   rfl
  ·rintro ys H2 hy ⟨s2,e2,rfl⟩;rw[List.length_map]at e2;have hml:ns.length=m+1:=by omega
   rw[hml]at e2;refine⟨_,rfl,_,rfl,by omega,by omega, ?_⟩;rw[Int.toNat_natCast];refine qE (λT σ H3=>Same H H3/\H3 q=some (.lst ((List.range (m+1)).map λj=>V.int (LwB.sprF (spR ns) T j)))/\∃v3 v4,σ=[some (.ref l),some (.int m),some (.ref q),v3,v4]) ⟨s2, ?_,_,_,rfl⟩ ?_ ?_
   ·rw[e2]
    congr 3
    funext j
    rw[LwB.sprF_zero]
   ·rintro T σ H3 hT ⟨s3,e3,v3,v4,rfl⟩;refine⟨_,rfl,_,_,rfl,rfl,_,rfl,_,_,rfl,rfl,_,_,rfl,λrg nrg=>?_⟩;have s4:Same H3 (upd H3 rg (.rng (0+(T:Int)+1) ((m:Int)+1))):=kH _ nrg;have er:(upd H3 rg (.rng (0+(T:Int)+1) ((m:Int)+1))) rg=some (.rng (0+(T:Int)+1) ((m:Int)+1)):=jK;generalize upd H3 rg (.rng (0+(T:Int)+1) ((m:Int)+1))=H4 at s4 er;refine⟨rg,T+1,m-T,rfl, ?_,by omega,by omega, ?_⟩
    ·rw[er,show(0:Int)+(T:Int)+1=((T+1:Nat):Int) by omega,show(m:Int)+1=((T+1:Nat):Int)+((m-T:Nat):Int) by omega]
    refine for_down2 (λi σ H5=>Same H H5/\H5 q=some (.lst ((List.range (m+1)).map λj=>V.int (if m<j+i then LwB.sprF (spR ns) (T+1) j else LwB.sprF (spR ns) T j)))/\∃v4,σ=[some (.ref l),some (.int m),some (.ref q),some (.int (0+(T:Int))),v4]) ⟨s3.trans s4, ?_,_,rfl⟩ ?_ ?_
    ·rw[s4 _ _ e3]
     congr 2
     refine List.map_congr_left λj hj=>?_;have:=List.mem_range.mp hj;rw[if_neg (by omega)]
    ·rintro i σ H5 hi ⟨s5,e5,v4,rfl⟩;have ea:((T+1:Nat):Int)+(((m-T:Nat):Int)-1-i)=((m-i:Nat):Int):=by omega
     rw[ea];obtain⟨k,hk⟩:∃k,m-i=k+1:=⟨m-i-1,by omega⟩;rw[hk];have g1:((List.range (m+1)).map λj=>V.int (if m<j+i then LwB.sprF (spR ns) (T+1) j else LwB.sprF (spR ns) T j))[k+1]? = some (.int (LwB.sprF (spR ns) T (k+1))):=by
      rw[List.getElem?_map,List.getElem?_range (by omega)];show some (V.int (if m<k+1+i then _ else _))=_;rw[if_neg (by omega)]
     have g2:((List.range (m+1)).map λj=>V.int (if m<j+i then LwB.sprF (spR ns) (T+1) j else LwB.sprF (spR ns) T j))[k]? = some (.int (LwB.sprF (spR ns) T k)):=by
      rw[List.getElem?_map,List.getElem?_range (by omega)];show some (V.int (if m<k+i then _ else _))=_;rw[if_neg (by omega)]
     refine⟨_,rfl,_,rfl,q,_,_,_,rfl,rfl,SqL.of e5,zD rfl g1,_,rfl,_,rfl,_,_,rfl,rfl,q,_,_,_,rfl,rfl,SqL.of e5,zD (i:=k) (by omega) g2,_,_,rfl,rfl,q,_,_,k+1,rfl,rfl,e5,zV (i:=k+1) rfl (by rw[List.length_map,List.length_range];omega), ?_⟩;refine⟨kF s5 (by exact n1), ?_,_,rfl⟩;rw[jK];have:=mapI_set (g:=λj=>if m<j+i then LwB.sprF (spR ns) (T+1) j else LwB.sprF (spR ns) T j) (g':=λj=>if m<j+(i+1)then LwB.sprF (spR ns) (T+1) j else LwB.sprF (spR ns) T j) (N:=m+1) (i:=k+1) (by omega) λj hj hne=>by
      by_cases z:m<j+i
      ·rw[if_pos z,if_pos (by omega)]
      ·rw[if_neg z,if_neg (by omega)]
     rw[<-this];dsimp only;rw[if_pos (by omega),LwB.sprF_up _ (by omega)]
    ·rintro σ H5 ⟨s5,e5,v4,rfl⟩;refine⟨s5, ?_,_,_,rfl⟩;rw[e5]
     congr 2
     refine List.map_congr_left λj hj=>?_;by_cases z:m<j+(m-T)
     ·rw[if_pos z]
     ·rw[if_neg z,LwB.sprF_low _ (by omega)]
   ·rintro σ H3 ⟨s3,e3,v3,v4,rfl⟩;refine⟨_,rfl,go q H3 n1 s3 ?_⟩;rw[e3];unfold uL;rw[hml,List.map_map]
    congr 2
    refine List.map_congr_left λj hj=>?_;have:=List.mem_range.mp hj;rw[LwB.sprF_all _ (by omega)]
    rfl
end
end Lw
namespace Lw
open PySem PySem.Spec PyProof.Rows L2 LwQ
noncomputable def One1(K:PySem.W.Frag)(mg:Str->Option Value):Prop:=∃a,mg "ONE" = some (.ref a)/\∀H,SqT K H a [.int 1,.int 1]
noncomputable def EndV(K:PySem.W.Frag)(H:Hp)(x:V):Option Rat->Prop
 | none=>x=.non
 | some r=>NumQ K H x r
noncomputable def NumT(H:Hp)(x:V)(r:Rat):Prop:=∃a,x=.ref a/\At2 H a r.num r.den
theorem NumT.same{H H':Hp}{x:V}{r:Rat}(h:NumT H x r)(s:Same H H'):NumT H' x r:=let ⟨a,e,q⟩:=h;⟨a,e,s _ _ q⟩
theorem NumT.upd{H:Hp}{x:V}{r:Rat}{l:Addr}{ys:List V}{o:HO}(h:NumT H x r)(e:H l=some (.lst ys)):NumT (upd H l o) x r:=by
 obtain⟨a,rfl,q⟩:=h;refine⟨a,rfl, ?_⟩;unfold At2 at q ⊢;rw[jQ (λz=>by rw[z,e]at q;cases q)];exact q
noncomputable def Sd(r:Rat):Prop:=r.den<=2^40/\r.num.natAbs<2^111
noncomputable def EndOk:Option Rat->Option Rat->Prop
 | some l,none=>Sd l
 | none,some h=>Sd h
 | some l,some h=>Sd l/\Sd h
 | none,none=>False
theorem Sd.se{r:Rat}(h:Sd r):Se r:=⟨Nat.le_trans h.1 (Nat.pow_le_pow_right (by decide) (by decide)),Nat.lt_of_lt_of_le h.2 (Nat.pow_le_pow_right (by decide) (by decide))⟩
theorem zN{x:Rat}{t b:Int}(hb:0<b)(h:x=fv t b):(x.den:Int)∣b/\x.num.natAbs<=t.natAbs:=by
 have n:=jZ x;have d:(x.den:Int)∣b:=Wh.dvd n.1 n.2 (by rw[kE,h];exact Wh.of hb);refine⟨d, ?_⟩;obtain⟨k,hk⟩:=d;have c:=cross hb h;have k0:k≠0:=λz=>by rw[z,Int.mul_zero]at hk;omega
 have:x.num*k=t:=by
  have e:x.den*(x.num*k)=x.den*t:=by rw[hk]at c;grind
  exact Int.eq_of_mul_eq_mul_left (by omega) e
 rw[<-this,Int.natAbs_mul];exact Nat.le_mul_of_pos_right _ (by omega)
noncomputable def rawF(cs:List Rat):Option Rat->Option Rat->List Int×Int
 | some l,none=>((mvR cs l 1).1,lvD cs*(mvR cs l 1).2)
 | none,some h=>((mvR cs h (-1)).1,lvD cs*(mvR cs h (-1)).2)
 | some l,some h=>(uL (mvR cs l (h-l)).1,lvD cs*(mvR cs l (h-l)).2*LwB.fct ((mvR cs l (h-l)).1.length-1))
 | none,none=>([],1)
noncomputable def qG(cs:List Rat)(lo hi:Option Rat):List Rat:=(rawF cs lo hi).1.map λt=>fv t (rawF cs lo hi).2
theorem fv_sub{t b o u:Int}(hb:0<b)(hu:0<u):fv (t*u-o*b) (b*u)=fv t b-fv o u:=by
 have h1:=cne hb;have h2:=cne hu;unfold fv;rw[Rat.intCast_sub,Rat.intCast_mul,Rat.intCast_mul,Rat.intCast_mul]
 grind
theorem Sd.den{r:Rat}(h:Sd r):((r.den:Int)).natAbs<2^41:=by
 rw[Int.natAbs_natCast];exact Nat.lt_of_le_of_lt h.1 (Nat.pow_lt_pow_right (by decide) (by decide))
theorem gL{h l:Rat}(h1:Sd h)(h2:Sd l):Se (h-l):=by
 have d1:=jZ h;have d2:=jZ l;have e:h-l=fv (h.num*l.den-l.num*h.den) ((h.den:Int)*l.den):=by rw[fv_sub d1.1 d2.1,kE,kE]
 have p:=Int.mul_pos d1.1 d2.1;have d:=zN p e;have:=Int.le_of_dvd p d.1;have b1:((h.den:Int)*l.den).natAbs<=2^(40+40):=by
  rw[Int.natAbs_mul,Int.natAbs_natCast,Int.natAbs_natCast,Nat.pow_add];exact Nat.mul_le_mul h1.1 h2.1
 have b2:(h.num*l.den-l.num*h.den).natAbs<2^(111+41+1):=abs_sub (jW h1.2 h2.den) (jW h2.2 h1.den);refine⟨?_,Nat.lt_of_le_of_lt d.2 (Nat.lt_of_lt_of_le b2 (Nat.pow_le_pow_right (by decide) (by decide)))⟩;exact Nat.le_trans (show _<=((h.den:Int)*l.den).natAbs by omega) (Nat.le_trans b1 (Nat.pow_le_pow_right (by decide) (by decide)))
theorem Se.fr{r:Rat}(h:Se r):FrOk 7900 r.num r.den:=by
 have:=jZ r;refine⟨this.1,this.2,jE h.2 (by decide), ?_⟩;rw[Int.natAbs_natCast];exact Nat.lt_of_le_of_lt h.1 (Nat.pow_lt_pow_right (by decide) (by decide))
theorem se_one:Se 1:=⟨by decide,by decide⟩
theorem se_neg:Se (-1):=⟨by decide,by decide⟩
theorem zJ{c:Nat->Rat}{n:Nat}{st pc:Rat} :(mvR (cL c n) st pc).1.length=n+1:=by
 unfold mvR;refine LwB.mvF_len _ _ _ _ n _ ?_;rw[List.length_reverse,List.length_dropLast,yD,zB]
 rfl
theorem mvR_snd{c:Nat->Rat}{n:Nat}{st pc:Rat} :(mvR (cL c n) st pc).2=lvD [st,pc]^n:=by
 unfold mvR;refine LwB.mvF_snd _ _ _ _ n _ ?_;rw[List.length_reverse,List.length_dropLast,yD,zB]
 rfl
theorem wS{c:Nat->Rat}{n:Nat}{st pc:Rat}(h:Sm c)(hn:n<=8)(h1:Se st)(h2:Se pc):(∀z∈(mvR (cL c n) st pc).1,z.natAbs<2^3400)/\(mvR (cL c n) st pc).2.natAbs<=2^1300:=by
 have:=mvR_bd h hn h1 h2 n (Nat.le_refl _);rw[show(lvT (cL c n)).dropLast.reverse.take n=(lvT (cL c n)).dropLast.reverse from List.take_of_length_le (by rw[List.length_reverse,List.length_dropLast,yD,zB];exact Nat.le_refl _)]at this;exact this
theorem wR{c:Nat->Rat}{n:Nat}{st pc:Rat} :0<lvD (cL c n)*(mvR (cL c n) st pc).2:=by
 rw[mvR_snd];exact Int.mul_pos (wT _) (Int.pow_pos (wT _))
theorem uU{c:Nat->Rat}{n:Nat}{st pc:Rat}(h:Sm c)(hn:n<=8)(h1:Se st)(h2:Se pc):(lvD (cL c n)*(mvR (cL c n) st pc).2).natAbs<2^2400:=by
 have:(lvD (cL c n)*(mvR (cL c n) st pc).2).natAbs<=2^(300+1300):=by
  rw[Int.natAbs_mul,Nat.pow_add];exact Nat.mul_le_mul (lvD_c h hn) (wS h hn h1 h2).2
 exact Nat.lt_of_le_of_lt this (Nat.pow_lt_pow_right (by decide) (by decide))
theorem gW{c:Nat->Rat}{n:Nat}{lo hi:Option Rat}(h:Sm c)(hn:n<=8)(e:EndOk lo hi):(∀z∈(rawF (cL c n) lo hi).1,z.natAbs<2^3700)/\0<(rawF (cL c n) lo hi).2/\(rawF (cL c n) lo hi).2.natAbs<2^2600/\(rawF (cL c n) lo hi).1.length=n+1:=by
 match lo,hi,e with
 | some l,none,e=>
  exact⟨λz hz=>jE ((wS h hn e.se se_one).1 z hz) (by decide),wR,jE (uU h hn e.se se_one) (by decide),zJ⟩
 | none,some l,e=>
  exact⟨λz hz=>jE ((wS h hn e.se se_neg).1 z hz) (by decide),wR,jE (uU h hn e.se se_neg) (by decide),zJ⟩
 | some l,some h',e=>
  have b:=wS h hn e.1.se (gL e.2 e.1);have ll:(mvR (cL c n) l (h'-l)).1.length=n+1:=zJ;refine⟨spRow_bd (by rw[ll];omega) b.1,Int.mul_pos wR (LwB.fct_pos _), ?_, ?_⟩
  ·refine jE (jW (uU h hn e.1.se (gL e.2 e.1)) (zA ?_)) (by decide);rw[ll];omega
  ·show(uL (mvR (cL c n) l (h'-l)).1).length=_;unfold uL;rw[List.length_map,List.length_range,ll]
noncomputable def spRaw(K:PySem.W.Frag):Sp:=λvs H Q _=>∃(p:Addr) (x y:V) (c:Nat->Rat) (lo hi:Option Rat),vs=[.ref p,x,y]/\SumC H p c/\Sm c/\EndV K H x lo/\EndV K H y hi/\EndOk lo hi/\
 ∀(t q:Addr) (n:Nat) (H':Hp),H t=none->H q=none->Same H H'->IsDeg c n->H' t=some (.tup [.ref q,.int (rawF (cL c n) lo hi).2])->H' q=some (.lst ((rawF (cL c n) lo hi).1.map V.int))->Q (.ref t) H'
noncomputable def spNums(K:PySem.W.Frag):Sp:=λvs H Q _=>∃(p:Addr) (x y:V) (c:Nat->Rat) (lo hi:Option Rat),vs=[.ref p,x,y]/\SumC H p c/\Sm c/\EndV K H x lo/\EndV K H y hi/\EndOk lo hi/\
 ∀(l:Addr) (n:Nat) (xs:List V) (H':Hp),H l=none->Same H H'->IsDeg c n->H' l=some (.lst xs)->Paired (NumT H') xs (qG (cL c n) lo hi)->Q (.ref l) H'
section
variable{P:Program}{w:World}{K:PySem.W.Frag}{mg:Str->Option Value}{base:Heap}{f fd:_}
theorem scRaw:FnScope ["one","low","high","tops","bottom"] ["one","low","high"] (jO sRaw):=⟨rfl,rfl,rfl,by decide +kernel,rfl,by decide +kernel,by decide +kernel⟩
theorem ok_raw{fV fL fS fF:Addr}{fdV fdL fdS fdF:FuncData}(F:Fun K "raw_numbers" "raw_numbers" sRaw f fd)(T:Txt mg)(No:One1 K mg)(DV:Df K mg "moved" gP ["one","start","pace"] fV fdV)(GV:FnOk P w K mg base CX0 5 fV fdV ["one","start","pace"] (spMoved K))(DL:Df K mg "less" sLess ["one","other"] fL fdL)(GL:FnOk P w K mg base CX0 3 fL fdL ["one","other"] (spLess K))(DS:Df K mg "spread" wA ["tops"] fS fdS)(DF:Df K mg "factorial" nC ["many"] fF fdF):FnOk P w K mg base CX0 6 f fd ["one","low","high"] (spRaw K):=by
 have GF:FnOk P w K mg base CX0 1 fF fdF ["many"] spFact:=ok_fact DF.F T;have GS:FnOk P w K mg base CX0 2 fS fdS ["tops"] (spSpread K):=ok_spread DS.F T DF;obtain⟨oa,hO,hOq⟩:=No;refine F.ok scRaw (λvs H Q E h=>?_) (λcdv A outer s H vs Q E hr h=>?_)
 ·obtain⟨p,x,y,c,lo,hi,rfl,_⟩:=h
  rfl
 ·obtain⟨p,x,y,c,lo,hi,rfl,hS,sm,hx,hy,ok,go⟩:=h;have hr1:Room 1 _:=hr.mono (by decide);have hr2:Room 2 _:=hr.mono (by decide);have hr3:Room 3 _:=hr.mono (by decide);refine⟨_,jB (jX (jR op_isN (pv 2) xI (jS _)) (jF (jN (jG GV hr rfl DV.m DV.F.kp DV.b .nil jL (jA (pv 0) (jA (pv 1) (jA (pe_glob (v:=.ref oa) (by rfl) hO rfl) jC)))))) jP)
   (jB (jX (jR op_isN (pv 1) xI (jS _)) (jF (jN (jG GV hr rfl DV.m DV.F.kp DV.b .nil jL (jA (pv 0) (jA (pv 2) (jA (jV (jA (yW xG jD) (jA jD jC))) jC)))))) jP)
   (jB (qC (jG GV hr rfl DV.m DV.F.kp DV.b .nil jL (jA (pv 0) (jA (pv 1) (jA (jG GL hr3 rfl DL.m DL.F.kp DL.b .nil jL (jA (pv 2) (jA (pv 1) jC))) jC)))) (kU rfl (jM (jH (i:=3) scRaw.nd rfl (Or.inl rfl)) (jM (jH (i:=4) scRaw.nd rfl (Or.inl rfl)) kG))))
   (jF (jN (jV (jA (jG GS hr2 rfl DS.m DS.F.kp DS.b .nil jL (jA (pv 3) jC)) (jA (jJ kB (pv 4) (jG GF hr1 rfl DF.m DF.F.kp DF.b .nil jL (jA (jJ qB (kA kD (by rfl) T.len PySem.boot_len (jA (pv 3) jC)) jD) jC))) jC))))))), ?_⟩
  match lo,hi,hx,hy,ok,go with
  | some l,none,⟨a,ea,qa⟩,hy,ok,go=>
   subst ea;have hy:y=.non:=hy;subst hy;refine⟨_,rfl,rfl,_,rfl,iteP rfl ?_⟩;refine⟨_,rfl,_,rfl,p,a,oa,c,l,1,rfl,hS,sm,qa,hOq H,ok.se,se_one,λt q n H' n1 n2 s1 dg e1 e2=>go t q n H' n1 n2 s1 dg e1 e2⟩
  | none,some h,hx,⟨a,ea,qa⟩,ok,go=>
   subst ea;have hx:x=.non:=hx;subst hx;refine⟨_,rfl,rfl,_,rfl,iteN rfl ?_⟩;refine⟨_,rfl,rfl,_,rfl,iteP rfl ?_⟩;refine⟨_,rfl,_,rfl,_,rfl,(by show 2<=sizeLine;decide),λz H1 n1 s1 e1=>?_⟩;exact⟨p,a,z,c,h,-1,rfl,hS.same s1,sm,qU s1 qa,SqT.of e1,ok.se,se_neg,λt q n H' m1 m2 s2 dg e2 e3=>go t q n H' (s1.free m1) (s1.free m2) (s1.trans s2) dg e2 e3⟩
  | some l,some h,⟨a,ea,qa⟩,⟨b,eb,qb⟩,ok,go=>
   subst ea;subst eb;refine⟨_,rfl,rfl,_,rfl,iteN rfl ?_⟩;refine⟨_,rfl,rfl,_,rfl,iteN rfl ?_⟩;refine⟨_,rfl,_,rfl,_,rfl,_,rfl,b,a,h.num,h.den,l.num,l.den,rfl,qb,qa,ok.2.se.fr,ok.1.se.fr,λz H1 n1 s1 e1=>?_⟩;have d1:=jZ h;have d2:=jZ l;have e1:At2 H1 z (h-l).num (h-l).den:=zE e1 (Int.mul_pos d1.1 d2.1) (by rw[fv_sub d1.1 d2.1,kE,kE]);refine⟨p,a,z,c,l,h-l,rfl,hS.same s1,sm,qU s1 qa,SqT.of e1,ok.1.se,gL ok.2 ok.1,λt q n H2 m1 m2 s2 dg e2 e3=>?_⟩;have n8:=yG sm dg;have ll:(mvR (cL c n) l (h-l)).1.length=n+1:=zJ;have bds:=wS sm n8 ok.1.se (gL ok.2 ok.1);have bot:=uU sm n8 ok.1.se (gL ok.2 ok.1);refine⟨t,_,rfl,SqT.of e2,rfl,_,_,rfl,_,_,rfl,rfl, ?_⟩;refine⟨_,rfl,q,_,rfl,e3,by rw[ll];omega,by rw[ll];omega,bds.1,λq3 H3 n3 s3 e4=>?_⟩;refine⟨_,rfl,_,rfl,q,_,rfl,.inl (SqL.of (s3 _ _ e3)),_,_,rfl,rfl,(mvR (cL c n) l (h-l)).1.length-1, ?_,by rw[ll];omega,_,_,rfl,rfl,⟨jE bot (by decide),jE (zA (by rw[ll];omega)) (by decide)⟩,(by show 2<=sizeLine;decide),λt4 H4 n4 s4 e5=>?_⟩
   ·show [V.int (((((mvR (cL c n) l (h-l)).1.map V.int).length:Nat):Int)-1)]=_;rw[List.length_map,ll];show [V.int (((n+1:Nat):Int)-1)]=[V.int ((n+1-1:Nat):Int)];rw[show((n+1:Nat):Int)-1=((n+1-1:Nat):Int) by omega]
   ·exact go t4 q3 n H4 ((s1.trans (s2.trans s3)).free n4) ((s1.trans s2).free n3) (s1.trans (s2.trans (s3.trans s4))) dg e5 (s4 _ _ e4)
theorem scNums:FnScope ["one","low","high","tops","bottom"] ["one","low","high"] (jO nB):=⟨rfl,rfl,rfl,by decide +kernel,rfl,by decide +kernel,by decide +kernel⟩
theorem ok_nums{fR fD:Addr}{fdR fdD:FuncData}(F:Fun K "numbers" "numbers" nB f fd)(T:Txt mg)(DR:Df K mg "raw_numbers" sRaw ["one","low","high"] fR fdR)(GR:FnOk P w K mg base CX0 6 fR fdR ["one","low","high"] (spRaw K))(DD:Df K mg "divided" sDiv ["one","other"] fD fdD)(GD:FnOk P w K mg base CX0 3 fD fdD ["one","other"] (spDivN K)):FnOk P w K mg base CX0 7 f fd ["one","low","high"] (spNums K):=by
 refine F.ok scNums (λvs H Q E h=>?_) (λcdv A outer s H vs Q E hr h=>?_)
 ·obtain⟨p,x,y,c,lo,hi,rfl,_⟩:=h
  rfl
 ·obtain⟨p,x,y,c,lo,hi,rfl,hS,sm,hx,hy,ok,go⟩:=h;have hr3:Room 3 _:=hr.mono (by decide);refine⟨_,jB (qC (jG GR hr rfl DR.m DR.F.kp DR.b .nil jL (jA (pv 0) (jA (pv 1) (jA (pv 2) jC)))) (kU rfl (jM (jH (i:=3) scNums.nd rfl (Or.inl rfl)) (jM (jH (i:=4) scNums.nd rfl (Or.inr rfl)) kG))))
   (jF (jN (vG (own:=1) (idx:=[4]) (N:=["top","bottom"]) rfl rfl rfl (by decide +kernel) (by decide +kernel) (λ_ _ h=>h) (vS rfl) rfl (wN rfl ⟨rfl,rfl,rfl,rfl⟩)
    (vC (pv 3))
    (λC fp s2 H2=>jH (i:=0) (show List.Nodup (["top","bottom"]:List Str) by decide +kernel) rfl (Or.inl rfl))
    (λC fp s2 H2=>jG GD hr3 rfl DD.m DD.F.kp DD.b .nil jL (jA (jV (jA (pv 0) (jA jD jC))) (jA (jV (jA (pv 1) (jA jD jC))) jC)))))), ?_⟩
  refine⟨_,rfl,_,rfl,_,rfl,p,x,y,c,lo,hi,rfl,hS,sm,hx,hy,ok,λt q n H1 n1 n2 s1 dg e1 e2=>?_⟩;have n8:=yG sm dg;have bds:=gW (n:=n) sm n8 ok;refine⟨t,_,rfl,SqT.of e1,rfl,_,_,rfl,_,_,rfl,rfl, ?_⟩;refine⟨_,rfl,q,rfl,⟨_,SqL.of e2⟩,λl H2 n2' s2 e3=>?_⟩;have nf:qG (cL c n) lo hi=(rawF (cL c n) lo hi).1.map λt=>fv t (rawF (cL c n) lo hi).2:=rfl;generalize rawF (cL c n) lo hi=rw' at *;obtain⟨ts,B⟩:=rw';dsimp only at *;refine vU (K:=K) (a:=q) (xs:=ts.map V.int) (λi ys H4=>Same H1 H4/\H4 l=some (.lst ys)/\Paired (NumT H4) ys ((ts.take i).map λt=>fv t B)) (Nat.lt_of_le_of_lt (show(ts.map V.int).length<=24 by rw[List.length_map];omega) (by decide)) ⟨s2,e3,.nil⟩ (λi ys H4 h=>⟨SqL.of (h.1 _ _ e2),h.2.1⟩) ?_ ?_
  ·rintro i m ys x' H4 hx' hm hy' ⟨s4,e4,pr⟩;obtain⟨tt,ht,rfl⟩:∃tt,ts[i]? = some tt/\x'=.int tt:=by
    rw[List.getElem?_map]at hx';obtain⟨x'',h1,h2⟩:=Option.map_eq_some_iff.mp hx';exact⟨x'',h1,h2.symm⟩
   have bt:=bds.1 tt (List.mem_of_getElem? ht);refine⟨nJ,_,rfl,(by show 2<=sizeLine;decide),λz1 H5 n5 s5 e5=>⟨_,rfl,(by show 2<=sizeLine;decide),λz2 H6 n6 s6 e6=>?_⟩⟩;refine⟨z1,z2,tt,1,B,1,rfl,SqT.of (s6 _ _ e5),SqT.of e6,fr_one (jE bt (by decide)) (by decide),fr_one (jE bds.2.2.1 (by decide)) (by decide),by have:=bds.2.1;omega,λz3 H7 n7 s7 e7=>?_⟩;rw[Int.mul_one,Int.one_mul]at e7;have e7:At2 H7 z3 (fv tt B).num (fv tt B).den:=zE e7 bds.2.1 rfl;have s47:=s5.trans (s6.trans s7);refine kZ hx' hm hy' (s47 _ _ e4) ⟨kF (s4.trans s47) n2',jK, ?_⟩;rw[List.take_succ,ht,List.map_append];exact Paired.snoc (Paired.mono (λ_ _ y=>(NumT.same y s47).upd (s47 _ _ e4)) pr) ((show NumT H7 (.ref z3) (fv tt B)from⟨z3,rfl,e7⟩).upd (s47 _ _ e4))
  ·rintro ys H4 hy' ⟨s4,e4,pr⟩;rw[List.length_map,List.take_length,<-nf]at pr;exact go l n ys H4 (s1.free n2') (s1.trans s4) dg e4 pr
end
end Lw
namespace Lw
open LwB LwQ
theorem ev_scale(D:Rat)(y:Rat):∀cs:List Rat,ev (cs.map λr=>r*D) y=D*ev cs y
 | []=>by simp [ev]
 | a::r=>by
  have:=ev_scale D y r;simp only[List.map_cons,ev,this]
  grind
theorem ev_fv{B:Int}(hB:0<B)(x:Rat):∀ns:List Int,ev (ns.map λt=>fv t B) x*(B:Rat)=ev (iq ns) x
 | []=>by simp [ev,iq]
 | a::r=>by
  have ih:=ev_fv hB x r;have h:=cne hB;have e:fv a B*(B:Rat)=(a:Rat):=by unfold fv;grind
  show(fv a B+x*ev (r.map λt=>fv t B) x)*(B:Rat)=(a:Rat)+x*ev (iq r) x;rw[<-ih]
  grind
theorem iq_rev(ns:List Int):iq ns.reverse=(iq ns).reverse:=by simp [iq]
theorem mv_ev{c:Nat->Rat}{n:Nat}{st pc:Rat}(x:Rat):ev (iq (mvR (cL c n) st pc).1) x=((lvD (cL c n)*(mvR (cL c n) st pc).2:Int):Rat)*ev (cL c n) (st+pc*x):=by
 have up:=wT [st,pc];have hu:((lvD [st,pc]:Int):Rat)≠0:=cne up;have ll:(lvT (cL c n)).length=n+1:=by rw[yD,zB]
 have ne:lvT (cL c n)≠[]:=by intro z;rw[z]at ll;simp at ll
 have ld:(lvT (cL c n)).dropLast.reverse.length=n:=by rw[List.length_reverse,List.length_dropLast,ll];rfl
 have h:=mvF_ev (b:=mvB st pc) (s:=mvP st pc) hu ((lvT (cL c n)).getLastD 0) x n _ ld;have hl:(lvT (cL c n)).getLastD 0=(lvT (cL c n)).getLast ne:=by rw[List.getLastD_eq_getLast?,List.getLast?_eq_some_getLast ne];rfl
 rw[iq_rev,hor_rev]at h;have e1:iq (lvT (cL c n)).dropLast++[(((lvT (cL c n)).getLastD 0:Int):Rat)]=iq (lvT (cL c n)):=by
  rw[hl]
  conv=>rhs;rw[<-List.dropLast_concat_getLast ne]
  simp [iq]
 rw[e1,lvT_val,ev_scale]at h;have m1:((mvB st pc:Int):Rat)=st*(lvD [st,pc]:Rat):=lv_val (rs:=[st,pc]) (List.mem_cons_self ..);have m2:((mvP st pc:Int):Rat)=pc*(lvD [st,pc]:Rat):=lv_val (rs:=[st,pc]) (List.mem_cons_of_mem _ (List.mem_cons_self ..));have ey:((mvB st pc:Rat)+(mvP st pc:Rat)*x)/(lvD [st,pc]:Rat)=st+pc*x:=by
  rw[m1,m2]
  grind
 rw[ey]at h;show ev (iq (mvF _ _ _ _ _).1) x=_;rw[h,mvR_snd,Rat.intCast_mul,Rat.intCast_pow]
 grind
noncomputable def shq(n k:Nat)(x:Rat)(ended:Bool):Rat:=if ended then(ch n k:Rat)*(x^k*(1-x)^(n-k))else x^k
noncomputable def plc(x:Rat):Option Rat->Option Rat->Rat
 | some l,none=>l+x
 | none,some h=>h + -x
 | some l,some h=>l+(h + -l)*x
 | none,none=>0
noncomputable def ends:Option Rat->Option Rat->Bool
 | some _,some _=>true
 | _,_=>false
theorem nums_one{c:Nat->Rat}{n:Nat}{st pc:Rat}(x:Rat):sm (λk=>((mvR (cL c n) st pc).1.map λt=>fv t (lvD (cL c n)*(mvR (cL c n) st pc).2)).getD k 0*x^k) (n+1)=ev (cL c n) (st+pc*x):=by
 have hB:=wR (c:=c) (n:=n) (st:=st) (pc:=pc);have h:=mv_ev (c:=c) (n:=n) (st:=st) (pc:=pc) x;rw[<-ev_fv hB]at h;have hl:((mvR (cL c n) st pc).1.map λt=>fv t (lvD (cL c n)*(mvR (cL c n) st pc).2)).length=n+1:=by rw[List.length_map,zJ]
 rw[ev_sm,hl]at h;have:=cne hB;generalize sm (λk=>((mvR (cL c n) st pc).1.map λt=>fv t (lvD (cL c n)*(mvR (cL c n) st pc).2)).getD k 0*x^k) (n+1)=S at *;generalize ((lvD (cL c n)*(mvR (cL c n) st pc).2:Int):Rat)=B at *
 grind
theorem nums_ok{c:Nat->Rat}{n:Nat}{lo hi:Option Rat}(e:EndOk lo hi)(x:Rat):sm (λk=>(qG (cL c n) lo hi).getD k 0*shq n k x (ends lo hi)) (n+1)=ev (cL c n) (plc x lo hi):=by
 match lo,hi,e with
 | some l,none,_=>
  have:=nums_one (c:=c) (n:=n) (st:=l) (pc:=1) x;rw[show l+1*x=l+x by grind]at this;exact this
 | none,some h,_=>
  have:=nums_one (c:=c) (n:=n) (st:=h) (pc:=-1) x;rw[show h + -1*x=h + -x by grind]at this;exact this
 | some l,some h,_=>
  have hB:=wR (c:=c) (n:=n) (st:=l) (pc:=h-l);have ll:(mvR (cL c n) l (h-l)).1.length=n+1:=zJ;have hev:=mv_ev (c:=c) (n:=n) (st:=l) (pc:=h-l) x;have hsp:=spread_sum (n:=n) (λj=>(mvR (cL c n) l (h-l)).1.getD j 0) x;have es:(λj=>(mvR (cL c n) l (h-l)).1.getD j 0*fct j*fct (n-j))=spR (mvR (cL c n) l (h-l)).1:=by
   funext j
   unfold spR;rw[ll]
   rfl
  rw[es]at hsp;have hiq:ev (iq (mvR (cL c n) l (h-l)).1) x=sm (λk=>(((mvR (cL c n) l (h-l)).1.getD k 0:Int):Rat)*x^k) (n+1):=by
   rw[ev_sm];have:(iq (mvR (cL c n) l (h-l)).1).length=n+1:=by simp [iq,ll]
   rw[this];refine sm_congr _ λk hk=>?_
   congr 1
   unfold iq;rw[List.getD_eq_getElem?_getD,List.getD_eq_getElem?_getD,List.getElem?_map,List.getElem?_eq_getElem (by rw[ll];exact hk)]
   rfl
  rw[<-hiq,hev]at hsp;have fp:=fct_pos n;have hF:=cne fp;have hBr:=cne hB;have enum:∀k,k<n+1->(qG (cL c n) (some l) (some h)).getD k 0*shq n k x (ends (some l) (some h))=(1/(((lvD (cL c n)*(mvR (cL c n) l (h-l)).2:Int):Rat)*(fct n:Rat)))*((bb (spR (mvR (cL c n) l (h-l)).1) k:Rat)*((ch n k:Rat)*(x^k*(1-x)^(n-k))))+0*0:=λk hk=>by
   have g:(qG (cL c n) (some l) (some h)).getD k 0=fv (bb (spR (mvR (cL c n) l (h-l)).1) k) (lvD (cL c n)*(mvR (cL c n) l (h-l)).2*fct n):=by
    show((uL (mvR (cL c n) l (h-l)).1).map λt=>fv t (lvD (cL c n)*(mvR (cL c n) l (h-l)).2*fct ((mvR (cL c n) l (h-l)).1.length-1))).getD k 0=_;unfold uL;rw[List.getD_eq_getElem?_getD,List.getElem?_map,List.getElem?_map,ll,List.getElem?_range hk]
    rfl
   rw[g];show _*((ch n k:Rat)*(x^k*(1-x)^(n-k)))=_;unfold fv;rw[Rat.intCast_mul];generalize ((lvD (cL c n)*(mvR (cL c n) l (h-l)).2:Int):Rat)=B at *;generalize ((fct n:Int):Rat)=F at *
   grind
  rw[sm_congr (n+1) enum,sm_lin,hsp];show _=ev (cL c n) (l+(h + -l)*x);rw[show l+(h + -l)*x=l+(h-l)*x by grind];generalize ((lvD (cL c n)*(mvR (cL c n) l (h-l)).2:Int):Rat)=B at *;generalize ((fct n:Int):Rat)=F at *;generalize ev (cL c n) (l+(h-l)*x)=Y at *
  grind
end Lw
namespace LwB
noncomputable def dvx(a:Rat):List Rat->List Rat
 | []=>[]
 | [_]=>[]
 | _::b::r=>ev (b::r) a::dvx a (b::r)
theorem dvx_len(a:Rat):∀l:List Rat,(dvx a l).length=l.length-1
 | []=>rfl
 | [_]=>rfl
 | _::b::r=>by
  have:=dvx_len a (b::r);simp only[dvx,List.length_cons]at this ⊢;omega
theorem dvx_ev(a x:Rat):∀l:List Rat,ev l x-ev l a=(x-a)*ev (dvx a l) x
 | []=>by simp [ev,dvx];grind
 | [c]=>by simp [ev,dvx];grind
 | c::b::r=>by
  have ih:=dvx_ev a x (b::r);show(c+x*ev (b::r) x)-(c+a*ev (b::r) a)=(x-a)*(ev (b::r) a+x*ev (dvx a (b::r)) x);generalize ev (b::r) x=P at *;generalize ev (b::r) a=R at *;generalize ev (dvx a (b::r)) x=S at *
  grind
theorem ev_zero(x:Rat):∀{l:List Rat},(∀c∈l,c=0)->ev l x=0
 | [],_=>rfl
 | c::r,h=>by
  show c+x*ev r x=0;rw[ev_zero x λd hd=>h d (List.mem_cons_of_mem _ hd),h c (List.mem_cons_self ..)]
  grind
theorem dvx_zero(a:Rat):∀l:List Rat,(∀c∈dvx a l,c=0)->ev l a=0->∀c∈l,c=0
 | [],_,_,c,hc=>nomatch hc
 | [d],_,h,c,hc=>by
  have:c=d:=by simpa using hc
  subst this;have:c+a*0=0:=h
  grind
 | d::b::r,k,h,c,hc=>by
  have e:ev (b::r) a=0:=k _ (List.mem_cons_self ..);have ih:=dvx_zero a (b::r) (λz hz=>k z (List.mem_cons_of_mem _ hz)) e;rcases List.mem_cons.mp hc with rfl | hc
  ·have:c+a*ev (b::r) a=0:=h;rw[e]at this
   grind
  ·exact ih c hc
theorem zS:∀(xs:List Rat) (l:List Rat),l.length<=xs.length->xs.Nodup->(∀x∈xs,ev l x=0)->∀c∈l,c=0
 | [],l,h,_,_,c,hc=>by
  have:l=[]:=List.length_eq_zero_iff.mp (by simpa using h);subst this;cases hc
 | a::xs,l,h,nd,k,c,hc=>by
  have ea:=k a (List.mem_cons_self ..);refine dvx_zero a l (zS xs (dvx a l) (by rw[dvx_len];simp at h;omega) (List.nodup_cons.mp nd).2 λx hx=>?_) ea c hc;have e:=dvx_ev a x l;rw[ea,k x (List.mem_cons_of_mem _ hx)]at e;have ne:x-a≠0:=λz=>by
   have:x=a:=by grind
   rw[this]at hx;exact(List.nodup_cons.mp nd).1 hx
  grind
noncomputable def pts(n:Nat):List Rat:=(List.range (n+1)).map λ(i:Nat)=>((i:Int):Rat)
theorem nE(n:Nat):(pts n).Nodup:=by
 unfold pts;refine List.pairwise_map.mpr ((List.nodup_range (n:=n+1)).imp fun {a b} h z=>h ?_);have:=Rat.intCast_inj.mp z;omega
theorem pts_len(n:Nat):(pts n).length=n+1:=by simp [pts]
noncomputable def lst(u:Nat->Rat)(n:Nat):List Rat:=(List.range (n+1)).map u
theorem lst_ev(u:Nat->Rat)(n:Nat)(x:Rat):ev (lst u n) x=sm (λk=>u k*x^k) (n+1):=by
 rw[ev_sm];have:(lst u n).length=n+1:=by simp [lst]
 rw[this];refine sm_congr _ λk hk=>?_;unfold lst;rw[List.getD_eq_getElem?_getD,List.getElem?_map,List.getElem?_range hk]
 rfl
theorem lst_zero{u:Nat->Rat}{n:Nat}(h:∀i,i<=n->sm (λk=>u k*((i:Int):Rat)^k) (n+1)=0):∀k,k<=n->u k=0:=by
 intro k hk;refine zS (pts n) (lst u n) (by rw[pts_len];simp [lst]) (nE n) (λx hx=>?_) (u k) ?_
 ·obtain⟨i,hi,rfl⟩:=List.mem_map.mp hx;rw[lst_ev];exact h i (by have:=List.mem_range.mp hi;omega)
 ·exact List.mem_map.mpr ⟨k,List.mem_range.mpr (by omega),rfl⟩
noncomputable def brn:Nat->(Nat->Rat)->List Rat
 | 0,u=>[u 0]
 | n+1,u=>List.zipWith (λp q=>1*p+1*q) (brn n u++[0]) (0::List.zipWith (λp q=>1*p+(-1)*q) (brn n λi=>u (i+1)) (brn n u))
theorem uB:∀(n:Nat) (u:Nat->Rat),(brn n u).length=n+1
 | 0,_=>rfl
 | n+1,u=>by
  have h1:=uB n u;have h2:=uB n λi=>u (i+1);simp [brn,h1,h2]
theorem brn_ev(x:Rat):∀(n:Nat) (u:Nat->Rat),ev (brn n u) x=lc x (1-x) n u
 | 0,u=>by show u 0+x*0=u 0;grind
 | n+1,u=>by
  have h1:=uB n u;have h2:=uB n λi=>u (i+1);show ev (List.zipWith _ (brn n u++[0]) (0::List.zipWith _ (brn n λi=>u (i+1)) (brn n u))) x=(1-x)*lc x (1-x) n u+x*lc x (1-x) n λi=>u (i+1);rw[ev_zip _ _ _ _ _ (by simp [h1,h2]),ev_app];show 1*(ev (brn n u) x+x^(brn n u).length*(0+x*0))+1*(0+x*ev (List.zipWith _ (brn n λi=>u (i+1)) (brn n u)) x)=_;rw[ev_zip _ _ _ _ _ (by rw[h1,h2]),brn_ev x n u,brn_ev x n λi=>u (i+1)]
  grind
theorem ch_pos:∀(n k:Nat),k<=n->0<ch n k
 | n,0,_=>by rw[uA];decide
 | n+1,k+1,h=>by
  show 0<ch n k+ch n (k+1);have h1:=ch_pos n k (by omega);by_cases z:k+1<=n
  ·have:=ch_pos n (k+1) z;omega
  ·rw[ch_out n (k+1) (by omega)];omega
theorem gY(x y:Rat):∀k:Nat,(x*y)^k=x^k*y^k
 | 0=>by simp
 | k+1=>by rw[Rat.pow_succ,Rat.pow_succ,Rat.pow_succ,gY x y k];grind
theorem pow_addR(x:Rat)(m:Nat):∀k:Nat,x^(m+k)=x^m*x^k
 | 0=>by simp
 | k+1=>by rw[show m+(k+1)=m+k+1 by omega,Rat.pow_succ,Rat.pow_succ,pow_addR x m k];grind
theorem lst_zeroB{u:Nat->Rat}{n:Nat}(h:∀i,i<=n->sm (λk=>u k*((ch n k:Rat)*(((i:Int):Rat)^k*(1-((i:Int):Rat))^(n-k)))) (n+1)=0):∀k,k<=n->u k=0:=by
 have conv:∀x:Rat,lc x (1-x) n u=sm (λk=>u k*((ch n k:Rat)*(x^k*(1-x)^(n-k)))) (n+1):=λx=>by
  rw[lc_sm];exact sm_congr _ λk hk=>by rw[mT _ _ _ _ (by omega)]
 have z0:∀c∈brn n u,c=0:=zS (pts n) (brn n u) (by rw[pts_len,uB];exact Nat.le_refl _) (nE n) λx hx=>by
  obtain⟨i,hi,rfl⟩:=List.mem_map.mp hx;rw[brn_ev,conv];exact h i (by have:=List.mem_range.mp hi;omega)
 have all:∀x:Rat,sm (λk=>u k*((ch n k:Rat)*(x^k*(1-x)^(n-k)))) (n+1)=0:=λx=>by
  rw[<-conv,<-brn_ev];exact ev_zero x z0
 have w:∀k,k<=n->u k*(ch n k:Rat)=0:=lst_zero (u:=λk=>u k*(ch n k:Rat)) λi hi=>by
  have p:(1+((i:Int):Rat))≠0:=λz=>by
   have:((1+(i:Int):Int):Rat)=((0:Int):Rat):=by rw[Rat.intCast_add];exact z
   have:=Rat.intCast_inj.mp this;omega
  generalize ((i:Int):Rat)=y at p;have a:=all (y/(1+y));have s1:1-y/(1+y)=1/(1+y):=by grind
  rw[s1]at a;have m:=sm_lin ((1+y)^n) 0 (λk=>u k*((ch n k:Rat)*((y/(1+y))^k*(1/(1+y))^(n-k)))) (λ_=>0) (n+1);rw[a]at m;have e:sm (λk=>(1+y)^n*(u k*((ch n k:Rat)*((y/(1+y))^k*(1/(1+y))^(n-k))))+0*0) (n+1)=sm (λk=>u k*(ch n k:Rat)*y^k) (n+1):=sm_congr _ λk hk=>by
   have e1:(1+y)^n=(1+y)^k*(1+y)^(n-k):=by rw[<-pow_addR,show k+(n-k)=n by omega]
   have e2:(1+y)^k*(y/(1+y))^k=y^k:=by rw[<-gY];congr 1;grind
   have e3:(1+y)^(n-k)*(1/(1+y))^(n-k)=1:=by rw[<-gY,show(1+y)*(1/(1+y))=1 by grind,one_pow]
   rw[e1];generalize (1+y)^k=A at *;generalize (y/(1+y))^k=B at *;generalize (1+y)^(n-k)=C at *;generalize (1/(1+y))^(n-k)=D at *;generalize y^k=Y at *;rw[<-e2]
   grind
  rw[e]at m;rw[m]
  grind
 intro k hk;have c:=ch_pos n k hk;have ne:(ch n k:Rat)≠0:=λz=>by
  have:=Rat.intCast_inj.mp (show((ch n k:Int):Rat)=((0:Int):Rat)from z);omega
 have:=w k hk
 grind
end LwB
namespace Lw
open PySem PySem.Spec PyProof.Rows L2 LwQ
section
variable{X:Cx}
noncomputable def rIsiT(K:PySem.W.Frag):List V->Hp->VK->Prop:=λxs H Q=>match xs with
 | [x,y]=>y=.ty "tuple"/\∃a ys,x=.ref a/\SqT K H a ys/\Q (.bl true) H
 | _=>False
theorem call_isiT:CallR X (.builtin "isinstance") (rIsiT X.K):=by
 intro pins s σ H xs us Q I r h
 match xs,h with
 | [x,y],h=>
  obtain⟨rfl,a,ys,rfl,hq,q⟩:=h;obtain⟨u,w',rfl,ru,rw'⟩:=vals2 r;cases (show w'=Value.type "tuple" from rw');cases ru;obtain⟨its,rv,⟨o,h1,h2,_⟩,_⟩:=I.tuple hq;exact PySem.W.kia_one (b:=true) PySem.W.kitx_tuple I.kIn ⟨o,h1,h2⟩ rfl (λz=>nomatch z) λtk=>⟨.bl true,H,I.tok tk,rfl,q⟩
theorem pe_isiT{e:Expr}{te:TE}{p p2 pos:Pos}(hm:X.mg "isinstance" = none)(hm2:X.mg "tuple" = none)(he:PE X e te)
  (hg:Gl X "isinstance":=by rfl) (hg2:Gl X "tuple":=by rfl)
  (hs:starEach [e,.Name "tuple" p2] X.env=(false,eval e X.env)::starEach [.Name "tuple" p2] X.env:=by rfl) (hs2:starEach [.Name "tuple" p2] X.env=(false,eval (.Name "tuple" p2) X.env)::starEach [] X.env:=by rfl)
  (hpl:(backTo pos (starEach [.Name "tuple" p2] X.env)).any (·.1)=false:=by rfl):PE X (.Call (.Name "isinstance" p) [e,.Name "tuple" p2] [] pos) (tCB (rIsiT X.K) (kT te (kT (tC (.ty "tuple")) tNil))):=
 kA (X:=X) (p:=p) (pos:=pos) call_isiT hg hm boot_isinstance (jA he (jA (pe_bltn (v:=.ty "tuple") hg2 hm2 boot_tuple rfl (by decide) (by decide)) jC hs2) hs) (by decide) (by decide) hs hpl
end
noncomputable def spNumK(K:PySem.W.Frag):Sp:=λvs H Q _=>∃(a:Addr) (t b:Int),vs=[.ref a]/\SqT K H a [.int t,.int b]/\FrOk 7900 t b/\∀H',Same H H'->Q (.bl true) H'
section
variable{P:Program}{w:World}{K:PySem.W.Frag}{mg:Str->Option Value}{base:Heap}{f fd:_}
theorem scNum:FnScope ["thing","one"] ["thing"] (jO sNum):=⟨rfl,rfl,rfl,by decide +kernel,rfl,by decide +kernel,by decide +kernel⟩
theorem ok_numK{fL:Addr}{fdL:FuncData}(F:Fun K "_law_is_number" "_law_is_number" sNum f fd)(T:Txt mg)(DL:Df K mg "_law_low" sLow ["top","bottom"] fL fdL):FnOk P w K mg base CX0 2 f fd ["thing"] (spNumK K):=by
 have GL:FnOk P w K mg base CX0 1 fL fdL ["top","bottom"] spLow:=uG DL.F T;refine F.ok scNum (λvs H Q E h=>?_) (λcdv A outer s H vs Q E hr h=>?_)
 ·obtain⟨a,t,b,rfl,_⟩:=h
  rfl
 ·obtain⟨a,t,b,rfl,ha,fr,q⟩:=h;have hu:=hr.units0;refine⟨_,jB (jX (PW.pt (xW (vN (qM (pe_isiT T.isi T.tup (pv 0)))) (vY (jR uM (kA kD (by rfl) T.len PySem.boot_len (jA (pv 0) jC)) jD (jS _))))) (jF (jN vF)) jP)
   (jB (kW PassesOwn.never rfl (pi_tup (pv 0)) (jH (i:=1) scNum.nd rfl (Or.inl rfl))
    (jF (jX (PW.pt (xW (vN (qM (yB isi_int T.isi T.int boot_int (pv 1)))) (vY (qM (yB isi_bool T.isi T.bool boot_bool (pv 1)))))) (jF (jN vF)) jP)))
   (jF (jN (pe_and (vD wM (jT jU (pv 0) jD (λ_ _=>rfl)) jD (jS _))
    (pe_one (vD (op_eqT hu) (jG GL hr rfl DL.m DL.F.kp DL.b .nil jL (jA (jT jU (pv 0) jD (λ_ _=>rfl)) (jA (jT jU (pv 0) jD (λ_ _=>rfl)) jC))) (pv 0) (jS _))))))), ?_⟩
  refine⟨_,rfl,rfl,a,_,rfl,ha,_,rfl,iteF ?_⟩;refine⟨_,rfl,a,_,rfl,.inr ha,rfl,_,rfl,iteF ?_⟩;refine⟨_,rfl,a,rfl,⟨_,ha⟩,for_tup (K:=K) (a:=a) (xs:=[.int t,.int b]) (λi σ H1=>H1=H/\∃v,σ=[some (.ref a),v]) ⟨rfl,_,rfl⟩ (λi σ H1 _ h=>by obtain⟨rfl,_⟩:=h;exact ha) ?_ ?_⟩
  ·rintro i z σ H1 hz ⟨rfl,v,rfl⟩;obtain⟨n,rfl⟩:∃n,z=.int n:=by
    match i,hz with
    | 0,hz=>cases hz;exact⟨_,rfl⟩
    | 1,hz=>cases hz;exact⟨_,rfl⟩
    | _+2,hz=>cases hz
   refine⟨_,rfl,rfl,.int,.int n,_,rfl,iteF ⟨_,rfl,rfl,.int,.int n,_,rfl,iteF ?_⟩⟩;exact⟨rfl,_,rfl⟩
  ·rintro σ H1 ⟨rfl,v,rfl⟩;refine⟨_,rfl,a,_,_,_,rfl,rfl,ha,rfl,_,_,rfl,rfl,_,rfl,iteP (decide_eq_true fr.pos) ?_⟩;refine⟨_,rfl,a,_,_,_,rfl,rfl,ha,rfl,_,rfl,a,_,_,_,rfl,rfl,ha,rfl,t,b,rfl,by have:=fr.pos;omega,.inl (jE fr.sb (by decide)),λp H' n s1 e1=>?_⟩;refine⟨_,rfl,p,a,[lowT t b,lowB t b],[t,b],rfl,rfl,SqT.of e1,qU s1 ha, ?_⟩;have e:[lowT t b,lowB t b]=[t,b]:=by
    obtain⟨z1,z2⟩:=(LwM.low_same t b fr.pos).mpr fr.low;rw[(uV fr.pos).1,(uV fr.pos).2,z1,z2]
   rw[decide_eq_true e];exact q H' s1
noncomputable def spMore:Sp:=λvs H Q _=>∃(p q:Addr) (t b o u:Int),vs=[.ref p,.ref q]/\At2 H p t b/\At2 H q o u/\0<b/\0<u/\t.natAbs<2^200/\b.natAbs<2^200/\o.natAbs<2^200/\u.natAbs<2^200/\
 ∀(r:Addr) (H':Hp),H r=none->Same H H'->At2 H' r (fv t b+fv o u).num (fv t b+fv o u).den->Q (.ref r) H'
theorem scMore:FnScope ["one","other","some"] ["one","other"] (jO wG):=⟨rfl,rfl,rfl,by decide +kernel,rfl,by decide +kernel,by decide +kernel⟩
theorem ok_more{fP fL:Addr}{fdP fdL:FuncData}(F:Fun K "_law_more" "_law_more" wG f fd)(T:Txt mg)(DP:Df K mg "_law_plus" xH ["one","other"] fP fdP)(DL:Df K mg "_law_low" sLow ["top","bottom"] fL fdL):FnOk P w K mg base CX0 2 f fd ["one","other"] spMore:=by
 have GP:FnOk P w K mg base CX0 1 fP fdP ["one","other"] spPlus:=wO DP.F;have GL:FnOk P w K mg base CX0 1 fL fdL ["top","bottom"] spLow:=uG DL.F T;refine F.ok scMore (λvs H Q E h=>?_) (λcdv A outer s H vs Q E hr h=>?_)
 ·obtain⟨p,q,t,b,o,u,rfl,_⟩:=h
  rfl
 ·obtain⟨p,q,t,b,o,u,rfl,hp,hq,b0,u0,h1,h2,h3,h4,go⟩:=h;refine⟨_,jB (jI (i:=2) scMore.nd rfl (Or.inl rfl) (jG GP hr rfl DP.m DP.F.kp DP.b .nil jL (jA (pv 0) (jA (pv 1) jC))))
   (jF (jN (jG GL hr rfl DL.m DL.F.kp DL.b .nil jL (jA (jT jU (pv 2) jD (λ_ _=>rfl)) (jA (jT jU (pv 2) jD (λ_ _=>rfl)) jC))))), ?_⟩
  refine⟨_,rfl,_,rfl,p,q,t,b,o,u,rfl,hp,hq,b0,u0,jE h1 (by decide),jE h2 (by decide),jE h3 (by decide),jE h4 (by decide),λr t' b' H1 n1 s1 e1 b1 lb eq=>?_⟩;have bits:=qN b0 u0 h1 h2 h3 h4 lb eq;refine⟨_,rfl,r,_,_,_,rfl,rfl,SqT.of e1,rfl,_,rfl,r,_,_,_,rfl,rfl,SqT.of e1,rfl,t',b',rfl,by omega,.inl (jE bits.2 (by decide)),λr2 H2 n2 s2 e2=>?_⟩;exact go r2 H2 (s1.free n2) (s1.trans s2) (zE e2 b1 (vE b0 u0 b1 eq))
noncomputable def spLikeB:Sp:=λvs H Q _=>∃(p q:Addr) (t b o u:Int),vs=[.ref p,.ref q]/\At2 H p t b/\At2 H q o u/\t.natAbs<2^50000/\b.natAbs<2^50000/\o.natAbs<2^50000/\u.natAbs<2^50000/\Q (.bl (decide (t*u=o*b))) H
theorem vV(i j:Int):decide (V.int i=V.int j)=decide (i=j):=by
 by_cases h:i=j
 ·subst h;simp
 ·rw[decide_eq_false h,decide_eq_false (by intro z;injection z with z;exact h z)]
theorem ok_likeB(F:Fun K "_law_like" "_law_like" sLike f fd):FnOk P w K mg base CX0 1 f fd ["one","other"] spLikeB:=by
 refine F.ok scLike (λvs H Q E h=>?_) (λcdv A outer s H vs Q E hr h=>?_)
 ·obtain⟨p,q,t,b,o,u,rfl,_⟩:=h
  rfl
 ·obtain⟨p,q,t,b,o,u,rfl,hp,hq,h1,h2,h3,h4,go⟩:=h;refine⟨_,jF (jN (vD qP (jJ kB (jT jU (pv 0) jD (λ_ _=>rfl)) (jT jU (pv 1) jD (λ_ _=>rfl))) (jJ kB (jT jU (pv 1) jD (λ_ _=>rfl)) (jT jU (pv 0) jD (λ_ _=>rfl))) (jS _))), ?_⟩;have P:=SqT.of (K:=K) hp;have R:=SqT.of (K:=K) hq;refine⟨_,rfl,p,_,_,_,rfl,rfl,P,rfl,_,rfl,q,_,_,_,rfl,rfl,R,rfl,_,_,rfl,rfl,⟨jE h1 (by decide),jE h4 (by decide)⟩,_,rfl,q,_,_,_,rfl,rfl,R,rfl,_,rfl,p,_,_,_,rfl,rfl,P,rfl,_,_,rfl,rfl,⟨jE h3 (by decide),jE h2 (by decide)⟩,rfl, ?_⟩;show Q (.bl (decide (V.int (t*u)=V.int (o*b)))) H;rw[vV];exact go
noncomputable def spUnder(K:PySem.W.Frag):Sp:=λvs H Q _=>∃(p q:Addr) (t b o u:Int),vs=[.ref p,.ref q]/\SqT K H p [.int t,.int b]/\SqT K H q [.int o,.int u]/\t.natAbs<2^50000/\b.natAbs<2^50000/\o.natAbs<2^50000/\u.natAbs<2^50000/\Q (.bl (decide (t*u<o*b))) H
theorem scUnder:FnScope ["one","other"] ["one","other"] (jO gM):=⟨rfl,rfl,rfl,by decide +kernel,rfl,by decide +kernel,by decide +kernel⟩
theorem ok_under(F:Fun K "_law_under" "_law_under" gM f fd):FnOk P w K mg base CX0 1 f fd ["one","other"] (spUnder K):=by
 refine F.ok scUnder (λvs H Q E h=>?_) (λcdv A outer s H vs Q E hr h=>?_)
 ·obtain⟨p,q,t,b,o,u,rfl,_⟩:=h
  rfl
 ·obtain⟨p,q,t,b,o,u,rfl,P,R,h1,h2,h3,h4,go⟩:=h;refine⟨_,jF (jN (vD xZ (jJ kB (jT jU (pv 0) jD (λ_ _=>rfl)) (jT jU (pv 1) jD (λ_ _=>rfl))) (jJ kB (jT jU (pv 1) jD (λ_ _=>rfl)) (jT jU (pv 0) jD (λ_ _=>rfl))) (jS _))), ?_⟩;exact⟨_,rfl,p,_,_,_,rfl,rfl,P,rfl,_,rfl,q,_,_,_,rfl,rfl,R,rfl,_,_,rfl,rfl,⟨jE h1 (by decide),jE h4 (by decide)⟩,_,rfl,q,_,_,_,rfl,rfl,R,rfl,_,rfl,p,_,_,_,rfl,rfl,P,rfl,_,_,rfl,rfl,⟨jE h3 (by decide),jE h2 (by decide)⟩,_,_,rfl,rfl,go⟩
noncomputable def besI(t b o u:Int):Int:=if t*u<o*b then -1 else if o*b<t*u then 1 else 0
noncomputable def spBeside(K:PySem.W.Frag):Sp:=λvs H Q _=>∃(p q:Addr) (t b o u:Int),vs=[.ref p,.ref q]/\SqT K H p [.int t,.int b]/\SqT K H q [.int o,.int u]/\t.natAbs<2^50000/\b.natAbs<2^50000/\o.natAbs<2^50000/\u.natAbs<2^50000/\Q (.int (besI t b o u)) H
theorem scBeside:FnScope ["one","other","first","second"] ["one","other"] (jO wJ):=⟨rfl,rfl,rfl,by decide +kernel,rfl,by decide +kernel,by decide +kernel⟩
theorem ok_beside(F:Fun K "beside" "beside" wJ f fd):FnOk P w K mg base CX0 1 f fd ["one","other"] (spBeside K):=by
 refine F.ok scBeside (λvs H Q E h=>?_) (λcdv A outer s H vs Q E hr h=>?_)
 ·obtain⟨p,q,t,b,o,u,rfl,_⟩:=h
  rfl
 ·obtain⟨p,q,t,b,o,u,rfl,P,R,h1,h2,h3,h4,go⟩:=h;refine⟨_,jB (jI (i:=2) scBeside.nd rfl (Or.inl rfl) (jJ kB (jT jU (pv 0) jD (λ_ _=>rfl)) (jT jU (pv 1) jD (λ_ _=>rfl))))
   (jB (jI (i:=3) scBeside.nd rfl (Or.inl rfl) (jJ kB (jT jU (pv 1) jD (λ_ _=>rfl)) (jT jU (pv 0) jD (λ_ _=>rfl))))
   (jB (jX (jR xZ (pv 2) (pv 3) (jS _)) (jF (jN (yW xG jD))) jP)
   (jB (jX (jR wM (pv 2) (pv 3) (jS _)) (jF (jN jD)) jP)
   (jF (jN jD))))), ?_⟩
  refine⟨_,rfl,p,_,_,_,rfl,rfl,P,rfl,_,rfl,q,_,_,_,rfl,rfl,R,rfl,_,_,rfl,rfl,⟨jE h1 (by decide),jE h4 (by decide)⟩, ?_⟩;refine⟨_,rfl,q,_,_,_,rfl,rfl,R,rfl,_,rfl,p,_,_,_,rfl,rfl,P,rfl,_,_,rfl,rfl,⟨jE h3 (by decide),jE h2 (by decide)⟩, ?_⟩;unfold besI at go;refine⟨_,rfl,_,rfl,_,_,rfl,rfl,_,rfl, ?_⟩;by_cases z:t*u<o*b
  ·rw[if_pos z]at go;refine iteP (decide_eq_true z) ?_;exact⟨_,rfl,go⟩
  ·rw[if_neg z]at go;refine iteN (decide_eq_false z) ⟨_,rfl,_,rfl,_,_,rfl,rfl,_,rfl, ?_⟩;by_cases y:o*b<t*u
   ·rw[if_pos y]at go;exact iteP (decide_eq_true y) go
   ·rw[if_neg y]at go;exact iteN (decide_eq_false y) go
noncomputable def spMinus:Sp:=λvs H Q _=>∃(p:Addr) (t b:Int),vs=[.ref p]/\At2 H p t b/\∀(r:Addr) (H':Hp),H r=none->Same H H'->At2 H' r (0-t) b->Q (.ref r) H'
theorem scMinus:FnScope ["number"] ["number"] (jO yS):=⟨rfl,rfl,rfl,by decide +kernel,rfl,by decide +kernel,by decide +kernel⟩
theorem ok_minus(F:Fun K "_law_minus" "_law_minus" yS f fd):FnOk P w K mg base CX0 1 f fd ["number"] spMinus:=by
 refine F.ok scMinus (λvs H Q E h=>?_) (λcdv A outer s H vs Q E hr h=>?_)
 ·obtain⟨p,t,b,rfl,_⟩:=h
  rfl
 ·obtain⟨p,t,b,rfl,hp,go⟩:=h;refine⟨_,jF (jN (jV (jA (jJ qB jD (jT jU (pv 0) jD (λ_ _=>rfl))) (jA (jT jU (pv 0) jD (λ_ _=>rfl)) jC)))), ?_⟩;have sq:=SqT.of (K:=K) hp;refine⟨_,rfl,p,_,_,_,rfl,rfl,sq,rfl,_,_,rfl,rfl,_,rfl,p,_,_,_,rfl,rfl,sq,rfl,(by show 2<=sizeLine;decide),λr H1 n1 s1 e1=>?_⟩;exact go r H1 n1 s1 e1
end
end Lw
namespace Lw
open PySem PySem.Spec PyProof.Rows L2 LwQ
noncomputable def EndT(H:Hp)(x:V):Option Rat->Prop
 | none=>x=.non
 | some r=>NumT H x r
theorem EndT.same{H H':Hp}{x:V}{o:Option Rat}(h:EndT H x o)(s:Same H H'):EndT H' x o:=by
 cases o with
 | none=>exact h
 | some r=>exact NumT.same h s
theorem EndT.v{K:PySem.W.Frag}{H:Hp}{x:V}{o:Option Rat}(h:EndT H x o):EndV K H x o:=by
 cases o with
 | none=>exact h
 | some r=>obtain⟨a,e,q⟩:=h;exact⟨a,e,SqT.of q⟩
noncomputable def En(L:Int)(R:Nat)(o:Option Rat):Prop:=∀r,o=some r->Wh L r/\Bd R r
theorem gC{L:Int}{R:Nat}{r:Rat}(h:Wh L r)(k:Bd R r):En L R (some r):=λq e=>by cases e;exact⟨h,k⟩
theorem gD{L:Int}{R:Nat} :En L R none:=λq e=>nomatch e
theorem wh_den{L:Int}{r:Rat}(h:Wh L r):(r.den:Int)∣L:=by
 have n:=jZ r;rw[<-kE r]at h;exact h.dvd n.1 n.2
theorem sd_en{L:Int}{R:Nat}{r:Rat}(h:Wh L r)(h0:0<L)(hL:L.natAbs<=2^40)(k:Bd R r)(hR:R<=2^70):Sd r:=by
 have d:=Int.le_of_dvd h0 (wh_den h);have d2:r.den<=2^40:=by omega
 refine⟨d2, ?_⟩;have:r.num.natAbs<=2^(70+40):=by
  rw[Nat.pow_add];exact Nat.le_trans k (Nat.mul_le_mul hR d2)
 exact Nat.lt_of_le_of_lt this (Nat.pow_lt_pow_right (by decide) (by decide))
theorem En.mono{L:Int}{R S:Nat}{o:Option Rat}(h:En L R o)(k:Int)(hS:R<=S):En (L*k) S o:=λr e=>⟨(h r e).1.up k,(h r e).2.mono hS⟩
theorem frs_num{t b:Int}(h:FrS t b):(fv t b).num=t/\((fv t b).den:Int)=b:=hW h.pos h.low
noncomputable def spStretch:Sp:=λvs H Q _=>∃(tp:Addr) (B:Int),vs=[.ref tp]/\∃cl,Tape cl H tp B/\B<2^30/\
 ∀(r:Addr) (x y:V) (lo hi:Option Rat) (L:Int) (H':Hp),H r=none->H' r=some (.tup [x,y])->EndT H' x lo->EndT H' y hi->0<L->L.natAbs<2^14->En L (2^17) lo->En L (2^17) hi->Tape cl H' tp (B+13)->But tp H H'->Q (.ref r) H'
theorem mP{p:Addr}{H H':Hp}(b:But p H H'){c:Addr}(hc:c≠p)(n:H' c=none):H c=none:=by
 cases e:H c with
 | none=>rfl
 | some o=>rw[b c o e hc]at n;cases n
section
variable{P:Program}{w:World}{K:PySem.W.Frag}{mg:Str->Option Value}{base:Heap}{f fd:_}
theorem scStretch:FnScope ["tape","low","width","way","high"] ["tape"] (jO yP):=⟨rfl,rfl,rfl,by decide +kernel,rfl,by decide +kernel,by decide +kernel⟩
theorem ok_stretch{fD fN fL fM:Addr}{fdD fdN fdL fdM:FuncData}(F:Fun K "_law_stretch" "_law_stretch" yP f fd)(T:Txt mg)(DD:Df K mg "_law_draw" yL ["tape","many"] fD fdD)(DN:Df K mg "_law_number" xC ["tape"] fN fdN)(DL:Df K mg "_law_low" sLow ["top","bottom"] fL fdL)(DM:Df K mg "_law_more" wG ["one","other"] fM fdM)(GM:FnOk P w K mg base CX0 2 fM fdM ["one","other"] spMore):FnOk P w K mg base CX0 3 f fd ["tape"] spStretch:=by
 have GD:FnOk P w K mg base CX0 1 fD fdD ["tape","many"] spDraw:=uT DD.F T;have GN:FnOk P w K mg base CX0 2 fN fdN ["tape"] (zF 6 (2^38)):=uF DN.F T DD DL;have GL:FnOk P w K mg base CX0 1 fL fdL ["top","bottom"] spLow:=uG DL.F T;refine F.ok scStretch (λvs H Q E h=>?_) (λcdv A outer s H vs Q E hr h=>?_)
 ·obtain⟨tp,B,rfl,_⟩:=h
  rfl
 ·obtain⟨tp,B,rfl,cl,hT,hB,go⟩:=h;have hr1:Room 1 _:=hr.mono (by decide);refine⟨_,jB (jI (i:=1) scStretch.nd rfl (Or.inl rfl) (jG GN hr rfl DN.m DN.F.kp DN.b .nil jL (jA (pv 0) jC)))
   (jB (jI (i:=2) scStretch.nd rfl (Or.inl rfl) (jG GN hr rfl DN.m DN.F.kp DN.b .nil jL (jA (pv 0) jC)))
   (jB (jX (jR op_le (jT jU (pv 2) jD (λ_ _=>rfl)) jD (jS _)) (jF (jI (i:=2) scStretch.nd rfl (Or.inl rfl) (jG GL hr1 rfl DL.m DL.F.kp DL.b .nil jL (jA (jJ qB jD (jT jU (pv 2) jD (λ_ _=>rfl))) (jA (jT jU (pv 2) jD (λ_ _=>rfl)) jC))))) jP)
   (jB (jI (i:=3) scStretch.nd rfl (Or.inl rfl) (jG GD hr1 rfl DD.m DD.F.kp DD.b .nil jL (jA (pv 0) (jA jD jC))))
   (jB (jI (i:=4) scStretch.nd rfl (Or.inl rfl) (jG GM hr rfl DM.m DM.F.kp DM.b .nil jL (jA (pv 1) (jA (pv 2) jC))))
   (jB (jX (PW.pt (xW (jR qP (pv 3) jD (jS _)) (vY (jR qP (pv 3) jD (jS _))))) (jF (jI (i:=4) scStretch.nd rfl (Or.inl rfl) xI)) jP)
   (jB (jX (jR qP (pv 3) jD (jS _)) (jF (jI (i:=4) scStretch.nd rfl (Or.inl rfl) (pv 1))) jP)
   (jB (jX (PW.pt (xW (jR qP (pv 3) jD (jS _)) (vY (jR qP (pv 3) jD (jS _))))) (jF (jI (i:=1) scStretch.nd rfl (Or.inl rfl) xI)) jP)
   (jF (jN (jV (jA (pv 1) (jA (pv 4) jC)))))))))))), ?_⟩
  refine⟨_,rfl,tp,B,rfl,cl,hT,by omega,λa ta ba H1 f1 a1 ne1 T1 bt1 old1=>?_⟩;refine⟨_,rfl,tp,_,rfl,cl,T1,by omega,λb tb bb H2 f2 a2 ne2 T2 bt2 old2=>?_⟩;have a1':At2 H2 a ta ba:=bt2 _ _ a1 ne1;dsimp only[kN];refine kK (t:=tIfS _ _ _) (fun σ H3=>∃(b':Addr) (t' u':Int),σ=[some (.ref tp),some (.ref a),some (.ref b'),none,none]/\At2 H3 b' t' u'/\0<u'/\t'.natAbs<2^15/\u'.natAbs<2^7/\At2 H3 a ta ba/\Tape cl H3 tp (B+12)/\But tp H H3) ?_ (λjoin=>?_)
  ·rintro σ H3 ⟨b',t',u',rfl,a3,u0,bt',bu',a1'',T3,bt3⟩;refine⟨_,rfl,tp,6,_,rfl,cl,T3,by omega,by decide,by decide,λway H4 w0 w1 T4 bt4=>?_⟩;have ne3:b'≠tp:=(T3.ne a3 (λ_ z=>by cases z)).1;have neA:a≠tp:=ne1;have a4:At2 H4 b' t' u':=bt4 _ _ a3 ne3;have aa4:At2 H4 a ta ba:=bt4 _ _ a1'' neA;have up:∀{z:Int} {m:Nat},z.natAbs<2^m->m<=200->z.natAbs<2^200:=λh k=>jE h k;refine⟨_,rfl,_,rfl,a,b',ta,ba,t',u',rfl,aa4,a4,f1.pos,u0,up f1.st (by decide),up f1.sb (by decide),up bt' (by decide),up bu' (by decide),λr H5 n5 s5 e5=>?_⟩;have T5:Tape cl H5 tp (B+13):=T4.mono s5 (by omega);have bt5:But tp H H5:=bt3.trans (bt4.trans (But.of s5));have aa5:At2 H5 a (fv ta ba).num (fv ta ba).den:=by
    have:=frs_num f1;unfold At2;rw[this.1,this.2];exact s5 _ _ aa4
   have w1:Wh (ba*u') (fv ta ba):=(Wh.of f1.pos).up _;have w2:Wh (ba*u') (fv t' u'):=by rw[Int.mul_comm];exact(Wh.of u0).up _
   have k1:Bd (2^14) (fv ta ba):=uQ f1.pos rfl (Nat.le_trans (Nat.le_of_lt f1.st) (Nat.le_mul_of_pos_right _ (by have:=f1.pos;omega)));have k2:Bd (2^15) (fv t' u'):=uQ u0 rfl (Nat.le_trans (Nat.le_of_lt bt') (Nat.le_mul_of_pos_right _ (by omega)));have nl:En (ba*u') (2^17) (some (fv ta ba)):=gC w1 (k1.mono (by decide));have nh:En (ba*u') (2^17) (some (fv ta ba+fv t' u')):=gC (w1.add w2) ((k1.add k2).mono (by decide));have Lp:0<ba*u':=Int.mul_pos f1.pos u0;have LB:(ba*u').natAbs<2^14:=jW f1.sb bu';have fin:∀(x y:V) (lo hi:Option Rat) (σ5:L2.St),σ5[1]? = some (some x)->σ5[4]? = some (some y)->EndT H5 x lo->EndT H5 y hi->En (ba*u') (2^17) lo->En (ba*u') (2^17) hi->tRet (tTupF (kT (tVar 1) (kT (tVar 4) tNil))) { nx:=λ_ H'=>Q .non H',rt:=Q } σ5 H5:=λx y lo hi σ5 g1 g4 ex ey el eh=>
    ⟨x,g1,y,g4,(by show 2<=sizeLine;decide),λz H6 n6 s6 e6=>go z x y lo hi _ H6 (mP bt5 (T5.off n6).1 n6) e6 (ex.same s6) (ey.same s6) Lp LB el eh (T5.mono s6 (Int.le_refl _)) (bt5.trans (But.of s6))⟩
   by_cases w3:way=3
   ·subst w3;refine⟨_,rfl,rfl,_,rfl,iteP rfl (iteT ?_)⟩;refine⟨_,rfl,rfl,_,rfl,iteN rfl ?_⟩;refine⟨_,rfl,rfl,_,rfl,iteN rfl ⟨_,rfl,rfl,_,rfl,iteN rfl ?_⟩⟩;exact fin (.ref a) .non (some (fv ta ba)) none _ rfl rfl ⟨a,rfl,aa5⟩ rfl nl gD
   ·have n3:decide (V.int way=V.int 3)=false:=decide_eq_false (by intro z;injection z with z;exact w3 z);by_cases w5:way=5
    ·subst w5;refine⟨_,rfl,rfl,_,rfl,iteN rfl ⟨_,rfl,rfl,_,rfl,iteP rfl ?_⟩⟩;refine⟨_,rfl,rfl,_,rfl,iteN rfl ?_⟩;refine⟨_,rfl,rfl,_,rfl,iteN rfl ⟨_,rfl,rfl,_,rfl,iteP rfl ?_⟩⟩;exact fin .non .non none none _ rfl rfl rfl rfl gD gD
    ·have ne5:decide (V.int way=V.int 5)=false:=decide_eq_false (by intro z;injection z with z;exact w5 z);refine⟨_,rfl,rfl,_,rfl,iteN n3 ⟨_,rfl,rfl,_,rfl,iteN ne5 ?_⟩⟩;by_cases w4:way=4
     ·subst w4;refine⟨_,rfl,rfl,_,rfl,iteP rfl ?_⟩;refine⟨_,rfl, ?_⟩;refine⟨_,rfl,rfl,_,rfl,iteP rfl (iteT ?_)⟩;exact fin .non (.ref a) none (some (fv ta ba)) _ rfl rfl rfl ⟨a,rfl,aa5⟩ gD nl
     ·have n4:decide (V.int way=V.int 4)=false:=decide_eq_false (by intro z;injection z with z;exact w4 z);refine⟨_,rfl,rfl,_,rfl,iteN n4 ?_⟩;refine⟨_,rfl,rfl,_,rfl,iteN n4 ⟨_,rfl,rfl,_,rfl,iteN ne5 ?_⟩⟩;exact fin (.ref a) (.ref r) (some (fv ta ba)) (some (fv ta ba+fv t' u')) _ rfl rfl ⟨a,rfl,aa5⟩ ⟨r,rfl,e5⟩ nl nh
  ·refine⟨_,rfl,b,_,_,_,rfl,rfl,SqT.of a2,rfl,_,_,rfl,rfl,_,rfl, ?_⟩;by_cases z:tb<=0
   ·refine iteP (decide_eq_true z) ?_;refine⟨_,rfl,b,_,_,_,rfl,rfl,SqT.of a2,rfl,_,_,rfl,rfl,_,rfl,b,_,_,_,rfl,rfl,SqT.of a2,rfl,1-tb,bb,rfl,by have:=f2.pos;omega,.inl (jE f2.sb (by decide)),λr H3 n3 s3 e3=>?_⟩;have b1:(1-tb).natAbs<2^15:=by have:=f2.st;omega
    refine join _ _ ⟨r,_,_,rfl,e3,wU f2.pos,Nat.lt_of_le_of_lt (lowT_le f2.pos) (jE b1 (by decide)),Nat.lt_of_le_of_lt (lowB_le f2.pos) f2.sb,s3 _ _ a1',T2.mono s3 (by omega),bt1.trans (bt2.trans (But.of s3))⟩
   ·refine iteN (decide_eq_false z) ?_;exact join _ _ ⟨b,tb,bb,rfl,a2,f2.pos,jE f2.st (by decide),f2.sb,a1',T2.mono (Same.refl _) (by omega),bt1.trans bt2⟩
end
end Lw
namespace Lw
open PySem PySem.Spec PyProof.Rows L2 LwQ
theorem wK{a:Int}{m:Nat}(h:a.natAbs<=2^m):∀k:Nat,(a^k).natAbs<=2^(m*k)
 | 0=>by rw[Int.pow_zero,Nat.mul_zero];decide
 | k+1=>by
  rw[Int.pow_succ,Int.natAbs_mul,Nat.mul_succ,Nat.pow_add];exact Nat.mul_le_mul (wK h k) h
theorem ffv_abs{n:Nat}(hn:n<=8):∀k:Nat,k<=n->(LwB.ffv n k).natAbs<=2^(3*k)
 | 0,_=>by show(1:Int).natAbs<=2^(3*0);decide
 | k+1,h=>by
  show(LwB.ffv n k*((n:Int)-k)).natAbs<=_;rw[Int.natAbs_mul,Nat.mul_succ,Nat.pow_add];exact Nat.mul_le_mul (ffv_abs hn k (by omega)) (by omega)
noncomputable def shI(n k st:Nat)(e:Bool):Int:=if e then LwB.ch n k*((st:Int)^k*(1-(st:Int))^(n-k))else(st:Int)^k
theorem shI_q(n k st:Nat)(e:Bool):((shI n k st e:Int):Rat)=shq n k (st:Int) e:=by
 unfold shI shq;cases e with
 | false=>
  show(((st:Int)^k:Int):Rat)=((st:Int):Rat)^k;rw[Rat.intCast_pow]
 | true=>
  show((LwB.ch n k*((st:Int)^k*(1-(st:Int))^(n-k)):Int):Rat)=_;rw[Rat.intCast_mul,Rat.intCast_mul,Rat.intCast_pow,Rat.intCast_pow,Rat.intCast_sub]
  rfl
theorem ch_abs{n:Nat}(hn:n<=8){k:Nat}(hk:k<=n):(LwB.ch n k).natAbs<=2^24:=by
 have h:=LwB.ffv_ch n k;have f0:=LwB.fct_pos k;have b:=ffv_abs hn k hk;rw[h,Int.natAbs_mul]at b;refine Nat.le_trans (Nat.le_mul_of_pos_right _ (show 0<(LwB.fct k).natAbs by omega)) (Nat.le_trans b (Nat.pow_le_pow_right (by decide) (by omega)))
theorem shI_abs{n k st:Nat}(hn:n<=8)(hk:k<=n)(hs:st<=8)(e:Bool):(shI n k st e).natAbs<2^100:=by
 have h1:((st:Int)^k).natAbs<=2^(3*k):=wK (show((st:Int)).natAbs<=2^3 by omega) k;have h2:((1-(st:Int))^(n-k)).natAbs<=2^(3*(n-k)):=wK (show(1-(st:Int)).natAbs<=2^3 by omega) (n-k);unfold shI;cases e with
 | false=>exact Nat.lt_of_le_of_lt h1 (Nat.pow_lt_pow_right (by decide) (by omega))
 | true=>
  show(LwB.ch n k*((st:Int)^k*(1-(st:Int))^(n-k))).natAbs<_;rw[Int.natAbs_mul,Int.natAbs_mul];have:=Nat.mul_le_mul (ch_abs hn hk) (Nat.mul_le_mul h1 h2);rw[<-Nat.pow_add,<-Nat.pow_add]at this;exact Nat.lt_of_le_of_lt this (Nat.pow_lt_pow_right (by decide) (by omega))
noncomputable def spShare:Sp:=λvs H Q _=>∃(n k st:Nat) (e:Bool),vs=[.int n,.int k,.int st,.bl e]/\n<=8/\k<=n/\st<=8/\Q (.int (shI n k st e)) H
section
variable{P:Program}{w:World}{K:PySem.W.Frag}{mg:Str->Option Value}{base:Heap}{f fd:_}
theorem scShare:FnScope ["many","k","step","ended","found","turn"] ["many","k","step","ended"] (jO gN):=⟨rfl,rfl,rfl,by decide +kernel,rfl,by decide +kernel,by decide +kernel⟩
theorem ok_share(F:Fun K "_law_share" "_law_share" gN f fd)(T:Txt mg):FnOk P w K mg base CX0 1 f fd ["many","k","step","ended"] spShare:=by
 refine F.ok scShare (λvs H Q E h=>?_) (λcdv A outer s H vs Q E hr h=>?_)
 ·obtain⟨n,k,st,e,rfl,_⟩:=h
  rfl
 ·obtain⟨n,k,st,e,rfl,hn,hk,hs,go⟩:=h;refine⟨_,jB (jI (i:=4) scShare.nd rfl (Or.inl rfl) jD)
   (jB (kW PassesOwn.never rfl (qD (by rfl) T.rng (jA (pv 1) jC)) (jH (i:=5) scShare.nd rfl (Or.inl rfl)) (jF (jI (i:=4) scShare.nd rfl (Or.inl rfl) (jJ kB (pv 4) (pv 2)))))
   (jB (jX (qM (pv 3))
    (jB (kW PassesOwn.never rfl (qD (by rfl) T.rng (jA (jJ qB (pv 0) (pv 1)) jC)) (jH (i:=5) scShare.nd rfl (Or.inl rfl)) (jF (jI (i:=4) scShare.nd rfl (Or.inl rfl) (jJ kB (pv 4) (jJ qB jD (pv 2))))))
    (jB (kW PassesOwn.never rfl (qD (by rfl) T.rng (jA (pv 1) jC)) (jH (i:=5) scShare.nd rfl (Or.inl rfl)) (jF (jI (i:=4) scShare.nd rfl (Or.inl rfl) (jJ kB (pv 4) (jJ qB (pv 0) (pv 5))))))
    (jF (kW PassesOwn.never rfl (qD (by rfl) T.rng (jA (pv 1) jC)) (jH (i:=5) scShare.nd rfl (Or.inl rfl)) (jF (jI (i:=4) scShare.nd rfl (Or.inl rfl) (jJ op_fdiv (pv 4) (jJ kM (pv 5) jD)))))))) jP)
   (jF (jN (pv 4))))), ?_⟩
  have g1:∀i,i<=8->((st:Int)^i).natAbs<2^30:=λi hi=>Nat.lt_of_le_of_lt (wK (show((st:Int)).natAbs<=2^3 by omega) i) (Nat.pow_lt_pow_right (by decide) (by omega));have g2:∀i,i<=8->((1-(st:Int))^i).natAbs<2^30:=λi hi=>Nat.lt_of_le_of_lt (wK (show(1-(st:Int)).natAbs<=2^3 by omega) i) (Nat.pow_lt_pow_right (by decide) (by omega));have g3:∀i,i<=n->(LwB.ffv n i).natAbs<2^30:=λi hi=>Nat.lt_of_le_of_lt (ffv_abs hn i hi) (Nat.pow_lt_pow_right (by decide) (by omega));have sm:∀z:Int,z.natAbs<=8->z.natAbs<2^100000:=λz hz=>Nat.lt_of_le_of_lt hz (Nat.lt_of_lt_of_le (show 8<2^4 by decide) (Nat.pow_le_pow_right (by decide) (by decide)));have bX:((st:Int)^k*(1-(st:Int))^(n-k)).natAbs<2^60:=jW (g1 k (by omega)) (g2 (n-k) (by omega));refine⟨_,rfl,k,rfl,by omega,by omega, ?_⟩;rw[Int.toNat_natCast];refine qE (λi σ H1=>H1=H/\∃v,σ=[some (.int n),some (.int k),some (.int st),some (.bl e),some (.int ((st:Int)^i)),v]) ⟨rfl,none,by rw[Int.pow_zero];rfl⟩ ?_ ?_
  ·rintro i σ H1 hi ⟨rfl,v,rfl⟩;refine⟨_,rfl,_,rfl,_,_,rfl,rfl,⟨jE (g1 i (by omega)) (by decide),sm _ (by omega)⟩,rfl,some (.int (0+(i:Int))), ?_⟩;rw[Int.pow_succ]
   rfl
  ·rintro σ H1 ⟨rfl,v,rfl⟩;refine⟨_,rfl,e,rfl, ?_⟩;cases e with
   | false=>
    refine iteN rfl ?_;exact⟨_,rfl,go⟩
   | true=>
    refine iteP rfl ?_;refine⟨_,rfl,_,rfl,_,_,rfl,rfl,((n-k:Nat):Int),by show [V.int ((n:Int)-(k:Int))]=_;rw[show((n:Int)-(k:Int))=((n-k:Nat):Int) by omega],by omega,by omega, ?_⟩;rw[Int.toNat_natCast];refine qE (λi σ H2=>H2=H1/\∃v,σ=[some (.int n),some (.int k),some (.int st),some (.bl true),some (.int ((st:Int)^k*(1-(st:Int))^i)),v]) ⟨rfl,v,by rw[Int.pow_zero,Int.mul_one]⟩ ?_ ?_
    ·rintro i σ H2 hi ⟨rfl,v,rfl⟩;refine⟨_,rfl,_,rfl,_,_,rfl,rfl,_,_,rfl,rfl,⟨jE (jW (g1 k (by omega)) (g2 i (by omega))) (by decide),sm _ (by omega)⟩,rfl,some (.int (0+(i:Int))), ?_⟩;rw[Int.pow_succ,<-Int.mul_assoc]
     rfl
    ·rintro σ H2 ⟨rfl,v,rfl⟩;refine⟨_,rfl,k,rfl,by omega,by omega, ?_⟩;rw[Int.toNat_natCast];have hI:shI n k st true=LwB.ch n k*((st:Int)^k*(1-(st:Int))^(n-k)):=rfl;generalize (st:Int)^k*(1-(st:Int))^(n-k)=X at *;refine qE (λi σ H3=>H3=H2/\∃v,σ=[some (.int n),some (.int k),some (.int st),some (.bl true),some (.int (X*LwB.ffv n i)),v]) ⟨rfl,v,by rw[show LwB.ffv n 0=1 from rfl,Int.mul_one]⟩ ?_ ?_
     ·rintro i σ H3 hi ⟨rfl,v,rfl⟩;refine⟨_,rfl,_,rfl,_,rfl,_,_,rfl,rfl,_,_,rfl,rfl,⟨jE (jW bX (g3 i (by omega))) (by decide),sm _ (by omega)⟩,rfl,some (.int (0+(i:Int))), ?_⟩;show [_,_,_,_,some (V.int (X*LwB.ffv n i*((n:Int)-(0+(i:Int))))),_]=[_,_,_,_,some (V.int (X*(LwB.ffv n i*((n:Int)-i)))),_];rw[Int.zero_add,Int.mul_assoc]
     ·rintro σ H3 ⟨rfl,v,rfl⟩;refine⟨_,rfl,k,rfl,by omega,by omega, ?_⟩;rw[Int.toNat_natCast];refine qE (λi σ H4=>H4=H3/\∃v,σ=[some (.int n),some (.int k),some (.int st),some (.bl true),some (.int (LwB.dvs (X*LwB.ffv n k) i)),v]) ⟨rfl,v,rfl⟩ ?_ ?_
      ·rintro i σ H4 hi ⟨rfl,v,rfl⟩;refine⟨_,rfl,_,rfl,_,_,rfl,rfl,_,_,rfl,rfl,⟨by omega,by omega⟩,rfl,some (.int (0+(i:Int))), ?_⟩;show [_,_,_,_,some (V.int (LwB.dvs (X*LwB.ffv n k) i/(0+(i:Int)+1))),_]=[_,_,_,_,some (V.int (LwB.dvs (X*LwB.ffv n k) i/((i:Int)+1))),_];rw[Int.zero_add]
      ·rintro σ H4 ⟨rfl,v,rfl⟩;refine⟨_,rfl, ?_⟩;have:LwB.dvs (X*LwB.ffv n k) k=LwB.ch n k*X:=by
        rw[LwB.ffv_ch,<-Int.mul_assoc,LwB.dvs_all,Int.mul_comm]
       rw[this,<-hI];exact go
end
end Lw
namespace Lw
open PySem PySem.Spec PyProof.Rows L2 LwQ
noncomputable def spPlace:Sp:=λvs H Q _=>∃(x y:V) (lo hi:Option Rat) (st:Nat),vs=[x,y,.int st]/\EndT H x lo/\EndT H y hi/\EndOk lo hi/\st<=8/\
 ∀(r:Addr) (t b:Int) (H':Hp),H r=none->Same H H'->At2 H' r t b->0<b->t.natAbs<2^340->b.natAbs<2^340->fv t b=plc ((st:Int):Rat) lo hi->Q (.ref r) H'
theorem Sd.bits{r:Rat}(h:Sd r):r.num.natAbs<2^111/\((r.den:Int)).natAbs<2^111:=by
 refine⟨h.2, ?_⟩;rw[Int.natAbs_natCast];exact Nat.lt_of_le_of_lt h.1 (Nat.pow_lt_pow_right (by decide) (by decide))
theorem mF{t b:Int}(hb:0<b):fv (0-t) b = -fv t b:=by
 have:=cne hb;unfold fv;rw[Rat.intCast_sub];have e:((0:Int):Rat)=0:=rfl;rw[e]
 grind
section
variable{P:Program}{w:World}{K:PySem.W.Frag}{mg:Str->Option Value}{base:Heap}{f fd:_}
theorem scPlace:FnScope ["low","high","step","width"] ["low","high","step"] (jO gO):=⟨rfl,rfl,rfl,by decide +kernel,rfl,by decide +kernel,by decide +kernel⟩
theorem ok_place{fP fM fI:Addr}{fdP fdM fdI:FuncData}(F:Fun K "_law_place" "_law_place" gO f fd)(DP:Df K mg "_law_plus" xH ["one","other"] fP fdP)(DM:Df K mg "_law_mul" yT ["one","other"] fM fdM)(DI:Df K mg "_law_minus" yS ["number"] fI fdI):FnOk P w K mg base CX0 2 f fd ["low","high","step"] spPlace:=by
 have GP:FnOk P w K mg base CX0 1 fP fdP ["one","other"] spPlus:=wO DP.F;have GM:FnOk P w K mg base CX0 1 fM fdM ["one","other"] spLMul:=wP DM.F;have GI:FnOk P w K mg base CX0 1 fI fdI ["number"] spMinus:=ok_minus DI.F;refine F.ok scPlace (λvs H Q E h=>?_) (λcdv A outer s H vs Q E hr h=>?_)
 ·obtain⟨x,y,lo,hi,st,rfl,_⟩:=h
  rfl
 ·obtain⟨x,y,lo,hi,st,rfl,hx,hy,es,hs,go⟩:=h;refine⟨_,jB (jX (jR op_isN (pv 1) xI (jS _)) (jF (jN (jG GP hr rfl DP.m DP.F.kp DP.b .nil jL (jA (pv 0) (jA (jV (jA (pv 2) (jA jD jC))) jC))))) jP)
   (jB (jX (jR op_isN (pv 0) xI (jS _)) (jF (jN (jG GP hr rfl DP.m DP.F.kp DP.b .nil jL (jA (pv 1) (jA (jV (jA (jJ qB jD (pv 2)) (jA jD jC))) jC))))) jP)
   (jB (jI (i:=3) scPlace.nd rfl (Or.inl rfl) (jG GP hr rfl DP.m DP.F.kp DP.b .nil jL (jA (pv 1) (jA (jG GI hr rfl DI.m DI.F.kp DI.b .nil jL (jA (pv 0) jC)) jC))))
   (jF (jN (jG GP hr rfl DP.m DP.F.kp DP.b .nil jL (jA (pv 0) (jA (jG GM hr rfl DM.m DM.F.kp DM.b .nil jL (jA (pv 3) (jA (jV (jA (pv 2) (jA jD jC))) jC))) jC))))))), ?_⟩
  have bs:((st:Int)).natAbs<2^4:=by omega
  have bs':(0-(st:Int)).natAbs<2^4:=by omega
  have b1:(1:Int).natAbs<2^4:=by decide
  match lo,hi,hx,hy,es,go with
  | some l,none,⟨a,ea,qa⟩,hy,es,go=>
   subst ea;have hy:y=.non:=hy;subst hy;have nl:=jZ l;have bl:=es.bits;refine⟨_,rfl,rfl,_,rfl,iteP rfl ?_⟩;refine⟨_,rfl,_,rfl,(by show 2<=sizeLine;decide),λz H1 n1 s1 e1=>?_⟩;refine⟨a,z,l.num,l.den,st,1,rfl,s1 _ _ qa,e1,nl.1,by decide,jE bl.1 (by decide),jE bl.2 (by decide),jE bs (by decide),jE b1 (by decide),λr t' b' H2 n2 s2 e2 p2 lb eq=>?_⟩;have bits:=qN nl.1 (by decide) bl.1 bl.2 bs b1 lb eq;refine go r t' b' H2 (s1.free n2) (s1.trans s2) e2 p2 (jE bits.1 (by decide)) (jE bits.2 (by decide)) ?_;rw[vE nl.1 (by decide) p2 eq,kE,mE]
   rfl
  | none,some l,hx,⟨a,ea,qa⟩,es,go=>
   subst ea;have hx:x=.non:=hx;subst hx;have nl:=jZ l;have bl:=es.bits;refine⟨_,rfl,rfl,_,rfl,iteN rfl ?_⟩;refine⟨_,rfl,rfl,_,rfl,iteP rfl ?_⟩;refine⟨_,rfl,_,rfl,_,_,rfl,rfl,(by show 2<=sizeLine;decide),λz H1 n1 s1 e1=>?_⟩;refine⟨a,z,l.num,l.den,0-(st:Int),1,rfl,s1 _ _ qa,e1,nl.1,by decide,jE bl.1 (by decide),jE bl.2 (by decide),jE bs' (by decide),jE b1 (by decide),λr t' b' H2 n2 s2 e2 p2 lb eq=>?_⟩;have bits:=qN nl.1 (by decide) bl.1 bl.2 bs' b1 lb eq;refine go r t' b' H2 (s1.free n2) (s1.trans s2) e2 p2 (jE bits.1 (by decide)) (jE bits.2 (by decide)) ?_;rw[vE nl.1 (by decide) p2 eq,kE,mF (by decide),mE]
   rfl
  | some l,some h,⟨a,ea,qa⟩,⟨b,eb,qb⟩,es,go=>
   subst ea;subst eb;have nl:=jZ l;have nh:=jZ h;have bl:=es.1.bits;have bh:=es.2.bits;refine⟨_,rfl,rfl,_,rfl,iteN rfl ?_⟩;refine⟨_,rfl,rfl,_,rfl,iteN rfl ?_⟩;refine⟨_,rfl,_,rfl,a,l.num,l.den,rfl,qa,λz H1 n1 s1 e1=>?_⟩;have bm:(0-l.num).natAbs<2^111:=by have:=bl.1;omega
   refine⟨b,z,h.num,h.den,0-l.num,l.den,rfl,s1 _ _ qb,e1,nh.1,nl.1,jE bh.1 (by decide),jE bh.2 (by decide),jE bm (by decide),jE bl.2 (by decide),λr2 t2 b2 H2 n2 s2 e2 p2 lb2 eq2=>?_⟩;have bits2:=qN nh.1 nl.1 bh.1 bh.2 bm bl.2 lb2 eq2;refine⟨_,rfl,_,rfl,_,rfl,(by show 2<=sizeLine;decide),λz3 H3 n3 s3 e3=>?_⟩;refine⟨r2,z3,t2,b2,st,1,rfl,s3 _ _ e2,e3,jE bits2.1 (by decide),jE bits2.2 (by decide),jE bs (by decide),jE b1 (by decide),λr4 H4 n4 s4 e4=>?_⟩;have m1:=jW bits2.1 bs;have m2:=jW bits2.2 b1;have p4:0<b2*1:=by omega
   have s14:=s1.trans (s2.trans (s3.trans s4));refine⟨a,r4,l.num,l.den,t2*st,b2*1,rfl,s14 _ _ qa,e4,nl.1,p4,jE bl.1 (by decide),jE bl.2 (by decide),jE m1 (by decide),jE m2 (by decide),λr t' b' H5 n5 s5 e5 p5 lb eq=>?_⟩;have bits:=qN nl.1 p4 bl.1 bl.2 m1 m2 lb eq;refine go r t' b' H5 (s14.free n5) (s14.trans s5) e5 p5 (jE bits.1 (by decide)) (jE bits.2 (by decide)) ?_;rw[vE nl.1 p4 p5 eq,kE,uI p2 (by decide),vE nh.1 nl.1 p2 eq2,kE,mF nl.1,kE,mE]
   rfl
end
end Lw
namespace Lw
open PySem PySem.Spec PyProof.Rows L2 LwQ
theorem sm_sumF(F:Nat->Rat):∀n,LwB.sm F n=sumF F (List.range n)
 | 0=>rfl
 | n+1=>by
  rw[List.range_succ,yO];show LwB.sm F n+F n=sumF F (List.range n)+(F n+0);rw[sm_sumF F n,Rat.add_zero]
theorem ev_sumF(c:Nat->Rat)(n:Nat)(x:Rat):LwB.ev (cL c n) x=sumF (λj=>c j*x^j) (List.range (n+1)):=by
 rw[LwB.ev_sm,zB,<-sm_sumF];refine LwB.sm_congr _ λk hk=>?_;unfold cL;rw[List.getD_eq_getElem?_getD,List.getElem?_map,List.getElem?_range hk]
 rfl
noncomputable def wE(c:Nat->Rat)(x:Rat)(E:List Ent):Rat:=sumF (λj=>c j*x^j) (E.map Ent.n)
theorem wE_all{H:Hp}{E:List Ent}{c:Nat->Rat}{s:Nat->Nat}{n:Nat}(R:RepE H E c s)(d:IsDeg c n)(x:Rat):wE c x E=LwB.ev (cL c n) x:=by
 rw[ev_sumF];refine zR (n+1) R.nd (λy hy=>?_) λi hi hn=>?_
 ·obtain⟨e,he,rfl⟩:=List.mem_map.mp hy;have z:=R.each e he;have:c e.n≠0:=by rw[<-z.val];exact wV z.pos z.nz
  have:=d.1 e.n this;omega
 ·have:c i=0:=R.out λe he z=>hn (List.mem_map.mpr ⟨e,he,z⟩);show c i*x^i=0;rw[this,Rat.zero_mul]
theorem wE_take{c:Nat->Rat}{x:Rat}{E:List Ent}{i:Nat}{e:Ent}(h:E[i]? = some e):wE c x (E.take (i+1))=wE c x (E.take i)+c e.n*x^e.n:=by
 unfold wE;rw[List.take_succ,h,List.map_append,yO];show _+(c e.n*x^e.n+0)=_;rw[Rat.add_zero]
noncomputable def spAt1:Sp:=λvs H Q _=>∃(d sp a:Addr) (c:Nat->Rat) (t b:Int),vs=[.ref d,.ref sp]/\FrzP H d c (λ_=>1500)/\(∀j,9<=j->c j=0)/\H sp=some (.tup [.ref a])/\At2 H a t b/\0<b/\t.natAbs<2^340/\b.natAbs<2^340/\
 ∀(r:Addr) (T B:Int) (H':Hp),Same H H'->At2 H' r T B->0<B->T.natAbs<2^40000->B.natAbs<2^40000->(∀n,IsDeg c n->fv T B=LwB.ev (cL c n) (fv t b))->Q (.ref r) H'
section
variable{P:Program}{w:World}{K:PySem.W.Frag}{mg:Str->Option Value}{base:Heap}{f fd:_}
theorem scAt:FnScope ["one","spot","total","powers","number","power","place","turn"] ["one","spot"] (jO sAt):=⟨rfl,rfl,rfl,by decide +kernel,rfl,by decide +kernel,by decide +kernel⟩
theorem ok_at{fP fM:Addr}{fdP fdM:FuncData}(F:Fun K "_law_at" "_law_at" sAt f fd)(T:Txt mg)(DP:Df K mg "_law_plus" xH ["one","other"] fP fdP)(DM:Df K mg "_law_mul" yT ["one","other"] fM fdM):FnOk P w K mg base CX0 2 f fd ["one","spot"] spAt1:=by
 have GP:FnOk P w K mg base CX0 1 fP fdP ["one","other"] spPlus:=wO DP.F;have GM:FnOk P w K mg base CX0 1 fM fdM ["one","other"] spLMul:=wP DM.F;refine F.ok scAt (λvs H Q E h=>?_) (λcdv A outer s H vs Q E hr h=>?_)
 ·obtain⟨d,sp,a,c,t,b,rfl,_⟩:=h
  rfl
 ·obtain⟨d,sp,a,c,t,b,rfl,hD,c9,hP,hA,b0,bt,bb,go⟩:=h;have hu:_+1<cLine:=Nat.lt_of_le_of_lt (Nat.add_le_add_left (by decide:1<=64) _) hr.units;refine⟨_,jB (jI (i:=2) scAt.nd rfl (Or.inl rfl) (jV (jA jD (jA jD jC))))
   (jB (kW PassesOwn.never rfl (LwD.zI (pv 0)) (jH (i:=3) scAt.nd rfl (Or.inl rfl))
    (jB (jI (i:=4) scAt.nd rfl (Or.inl rfl) (xO hu (pv 0) (pv 3) (λ_ _=>rfl)))
    (jB (kW PassesOwn.never rfl (pi_zipT (by rfl) T.zip (jA (pv 3) (jA (pv 1) jC))) (kU rfl (jM (jH (i:=5) scAt.nd rfl (Or.inl rfl)) (jM (jH (i:=6) scAt.nd rfl (Or.inl rfl)) kG)))
     (jF (kW PassesOwn.never rfl (qD (by rfl) T.rng (jA (pv 5) jC)) (jH (i:=7) scAt.nd rfl (Or.inl rfl)) (jF (jI (i:=4) scAt.nd rfl (Or.inl rfl) (jG GM hr rfl DM.m DM.F.kp DM.b .nil jL (jA (pv 4) (jA (pv 6) jC))))))))
    (jF (jI (i:=2) scAt.nd rfl (Or.inl rfl) (jG GP hr rfl DP.m DP.F.kp DP.b .nil jL (jA (pv 2) (jA (pv 4) jC))))))))
   (jF (jN (pv 2)))), ?_⟩
  obtain⟨EE,o,hE,R⟩:=hD;have e9:∀e∈EE,e.n<9:=λe he=>by
   have z:=R.each e he;have:c e.n≠0:=by rw[<-z.val];exact wV z.pos z.nz
   by_cases y:e.n<9
   ·exact y
   ·exact absurd (c9 e.n (by omega)) this
  have lE:EE.length<=9:=by
   have:=wQ 9 R.nd λx hx=>by
    obtain⟨e,he,rfl⟩:=List.mem_map.mp hx;exact e9 e he
   rwa [List.length_map]at this
  refine⟨(by show 2<=sizeLine;decide),λz H1 n1 s1 e1=>?_⟩;have E1:=s1 _ _ hE;refine⟨_,rfl,d,o,_,rfl,E1,λp hp=>?_,λks hk=>?_⟩
  ·obtain⟨e,he,rfl⟩:=List.mem_map.mp hp;exact⟨[(e.n:Int)],rfl⟩
  have lk:ks.length=EE.length:=by rw[hk.1,List.length_map]
  refine LwD.yZ (xs:=ks) (λi σ H2=>∃(tr:Addr) (T B:Int) (v3 v4 v5 v6 v7:Option V),σ=[some (.ref d),some (.ref sp),some (.ref tr),v3,v4,v5,v6,v7]/\Same H1 H2/\At2 H2 tr T B/\0<B/\T.natAbs<2^(1+4300*i)/\B.natAbs<2^(1+4300*i)/\fv T B=wE c (fv t b) (EE.take i))
   ⟨z,0,1,_,_,_,_,_,rfl,Same.refl _,e1,by decide,(by decide),(by decide),fv_zero⟩ (λi σ H2 h=>by
    obtain⟨tr,T,B,v3,v4,v5,v6,v7,_,s2,_⟩:=h;exact s2 _ _ E1) ?_ ?_
  ·rintro i x σ H2 hx ⟨tr,T0,B0,v3,v4,v5,v6,v7,rfl,s2,aT,pB,bT,bB,vT⟩;obtain⟨e,kb,he,rfl,hkb⟩:=yA hk hx;have eE:=List.mem_of_getElem? he;have hi:i<EE.length:=(List.getElem?_eq_some_iff.mp he).1;have s12:=s1.trans s2;have R2:=R.map (H':=H2) λ_ _ q=>s12 _ _ q;have hEe:=R2.each e eE;have hb2:=s2 _ _ hkb;have n8:=e9 e eE;have P2:=s12 _ _ hP;have A2:=s12 _ _ hA;refine⟨_,rfl,_,rfl,d,_,rfl,zL (s2 _ _ E1) R2 eE hb2, ?_⟩;refine⟨_,rfl,_,rfl,kb,sp,rfl,⟨_,SqT.of hb2⟩,⟨_,SqT.of P2⟩, ?_⟩;refine for_zipT (K:=K) (a:=kb) (b:=sp) (xs:=[.int (e.n:Int)]) (ys:=[.ref a]) (λj σ H3=>∃(nr:Addr) (t' u:Int) (v5 v6 v7:Option V),σ=[some (.ref d),some (.ref sp),some (.ref tr),some (.ref kb),some (.ref nr),v5,v6,v7]/\Same H2 H3/\At2 H3 nr t' u/\0<u/\
     t'.natAbs<2^(1500+340*(e.n*j))/\u.natAbs<2^(1500+340*(e.n*j))/\fv t' u=fv e.t e.b*fv t b^(e.n*j)) rfl
    ⟨e.c,e.t,e.b,_,_,_,rfl,Same.refl _,hEe.at',hEe.pos,by rw[Nat.mul_zero];exact hEe.st,by rw[Nat.mul_zero];exact hEe.sb,by rw[Nat.mul_zero,Rat.pow_zero,Rat.mul_one]⟩ (λj σ H3 _ h=>by
     obtain⟨nr,t',u,v5,v6,v7,_,s3,_⟩:=h;exact⟨SqT.of (s3 _ _ hb2),SqT.of (s3 _ _ P2)⟩) ?_ ?_
   ·rintro j x y pr σ H3 hxj hyj hpr ⟨nr,t',u,v5,v6,v7,rfl,s3,aN,pu,bt',bu,vt⟩
    match j,hxj,hyj with
    | 0,hxj,hyj=>
     cases hxj;cases hyj;rw[Nat.mul_zero]at bt' bu vt;rw[Rat.pow_zero,Rat.mul_one]at vt;have s4:Same H3 (upd H3 pr (.tup [.int (e.n:Int),.ref a])):=kH _ hpr;have at4:(upd H3 pr (.tup [.int (e.n:Int),.ref a])) pr=some (.tup [.int (e.n:Int),.ref a]):=jK;generalize upd H3 pr (.tup [.int (e.n:Int),.ref a])=H4 at s4 at4;have s24:=s3.trans s4;refine⟨pr,_,rfl,SqT.of at4,rfl,_,_,rfl,_,_,rfl,rfl, ?_⟩;refine⟨_,rfl,e.n,rfl,by omega,by omega, ?_⟩;rw[Int.toNat_natCast];refine qE (n:=e.n) (λk σ H5=>∃(nr:Addr) (t' u:Int) (v7:Option V),σ=[some (.ref d),some (.ref sp),some (.ref tr),some (.ref kb),some (.ref nr),some (.int (e.n:Int)),some (.ref a),v7]/\Same H4 H5/\At2 H5 nr t' u/\0<u/\
       t'.natAbs<2^(1500+340*k)/\u.natAbs<2^(1500+340*k)/\fv t' u=fv e.t e.b*fv t b^k)
      ⟨nr,t',u,_,rfl,Same.refl _,s4 _ _ aN,pu,bt',bu,by rw[vt,Rat.pow_zero,Rat.mul_one]⟩ ?_ ?_
     ·rintro k σ H5 hk' ⟨nr2,t2,u2,w7,rfl,s5,aN2,pu2,bt2,bu2,vt2⟩;have up:∀{z:Int},z.natAbs<2^(1500+340*k)->z.natAbs<2^50000:=λh=>jE h (by omega);refine⟨_,rfl,_,rfl,nr2,a,t2,u2,t,b,rfl,aN2,(s24.trans s5) _ _ A2,up bt2,up bu2,jE bt (by decide),jE bb (by decide),λr H6 n6 s6 e6=>?_⟩;refine⟨r,t2*t,u2*b,some (.int (0+(k:Int))),rfl,s5.trans s6,e6,Int.mul_pos pu2 b0, ?_, ?_, ?_⟩
      ·rw[show 1500+340*(k+1)=1500+340*k+340 by omega];exact jW bt2 bt
      ·rw[show 1500+340*(k+1)=1500+340*k+340 by omega];exact jW bu2 bb
      ·rw[uI pu2 b0,vt2,Rat.pow_succ,Rat.mul_assoc]
     ·rintro σ H5 ⟨nr2,t2,u2,w7,rfl,s5,aN2,pu2,bt2,bu2,vt2⟩;refine⟨nr2,t2,u2,_,_,_,rfl,s24.trans s5,aN2,pu2, ?_, ?_, ?_⟩
      ·rw[Nat.zero_add,Nat.mul_one];exact bt2
      ·rw[Nat.zero_add,Nat.mul_one];exact bu2
      ·rw[Nat.zero_add,Nat.mul_one];exact vt2
    | j+1,hxj,_=>cases hxj
   ·rintro σ H3 ⟨nr,t',u,w5,w6,w7,rfl,s3,aN,pu,bt',bu,vt⟩;rw[show([V.int (e.n:Int)]:List V).length=1 from rfl,Nat.mul_one]at bt' bu vt;have mt:t'.natAbs<2^4299:=jE bt' (by omega);have mu:u.natAbs<2^4299:=jE bu (by omega);refine⟨_,rfl,_,rfl,tr,nr,T0,B0,t',u,rfl,s3 _ _ aT,aN,pB,pu,jE bT (by omega),jE bB (by omega),jE mt (by decide),jE mu (by decide),λr T' B' H4 n4 s4 e4 pB' lB' eq=>?_⟩;have bits:=qN pB pu bT bB mt mu lB' eq;refine⟨r,T',B',_,_,_,_,_,rfl,s2.trans (s3.trans s4),e4,pB', ?_, ?_, ?_⟩
    ·rw[show 1+4300*(i+1)=1+4300*i+4299+1 by omega];exact bits.1
    ·rw[show 1+4300*(i+1)=1+4300*i+4299+1 by omega];exact bits.2
    ·rw[vE pB pu pB' eq,vT,vt,wE_take he,hEe.val]
  ·rintro σ H2 ⟨tr,T0,B0,v3,v4,v5,v6,v7,rfl,s2,aT,pB,bT,bB,vT⟩;rw[lk]at bT bB vT;rw[List.take_length]at vT;refine⟨_,rfl,go tr T0 B0 H2 (s1.trans s2) aT pB (jE bT (by omega)) (jE bB (by omega)) λn dg=>?_⟩;rw[vT,wE_all R dg]
end
end Lw
namespace Lw
open PySem PySem.Spec PyProof.Rows L2 LwQ
noncomputable def Kd.isLst:Kd->Bool
 | .lst=>true | _=>false
theorem uW:Isi "list" Kd.isLst:=λK k=>by cases k<;>rfl
theorem end_dec{H:Hp}{x:V}{o:Option Rat}(h:EndT H x o):(!decide (x=V.non))=o.isSome:=by
 cases o with
 | none=>rw[show x=.non from h];rfl
 | some r=>obtain⟨a,e,_⟩:=h;rw[e];rfl
theorem ends_eq(lo hi:Option Rat):(if lo.isSome=true then hi.isSome else false)=ends lo hi:=by
 cases lo<;>cases hi<;>rfl
theorem nums_sz{c:Nat->Rat}{n:Nat}{lo hi:Option Rat}(h:Sm c)(hn:n<=8)(e:EndOk lo hi):∀r∈qG (cL c n) lo hi,r.num.natAbs<2^3700/\((r.den:Int)).natAbs<2^2601:=λr hr=>by
 have b:=gW (n:=n) h hn e;obtain⟨t,ht,rfl⟩:=List.mem_map.mp hr;have d:=zN b.2.1 (x:=fv t (rawF (cL c n) lo hi).2) rfl;refine⟨Nat.lt_of_le_of_lt d.2 (b.1 t ht), ?_⟩;have d0:=jZ (fv t (rawF (cL c n) lo hi).2);have:=Int.le_of_dvd b.2.1 d.1;refine Nat.lt_of_le_of_lt (show _<=(rawF (cL c n) lo hi).2.natAbs by omega) (Nat.lt_of_lt_of_le b.2.2.1 (Nat.pow_le_pow_right (by decide) (by decide)))
theorem xJ{c:Nat->Rat}{n:Nat}{lo hi:Option Rat}(h:Sm c)(hn:n<=8)(e:EndOk lo hi):(qG (cL c n) lo hi).length=n+1:=by
 unfold qG;rw[List.length_map];exact(gW h hn e).2.2.2
theorem nums_uniq{c:Nat->Rat}{n:Nat}{lo hi:Option Rat}{rs:List Rat}(sm':Sm c)(hn:n<=8)(e:EndOk lo hi)(l:rs.length=n+1)(h:∀i,i<=n->LwB.sm (λk=>rs.getD k 0*shq n k ((i:Int):Rat) (ends lo hi)) (n+1)=LwB.ev (cL c n) (plc ((i:Int):Rat) lo hi)):rs=qG (cL c n) lo hi:=by
 have ln:=xJ sm' hn e (c:=c) (n:=n);have d:∀i,i<=n->LwB.sm (λk=>(rs.getD k 0-(qG (cL c n) lo hi).getD k 0)*shq n k ((i:Int):Rat) (ends lo hi)) (n+1)=0:=λi hi'=>by
  have h1:=h i hi';rw[<-nums_ok e]at h1;have:=LwB.sm_lin 1 (-1) (λk=>rs.getD k 0*shq n k ((i:Int):Rat) (ends lo hi)) (λk=>(qG (cL c n) lo hi).getD k 0*shq n k ((i:Int):Rat) (ends lo hi)) (n+1);rw[h1]at this;refine(LwB.sm_congr _ λk _=>?_).trans (this.trans (by grind))
  grind
 have z:∀k,k<=n->rs.getD k 0-(qG (cL c n) lo hi).getD k 0=0:=by
  cases he:ends lo hi with
  | false=>rw[he]at d;exact LwB.lst_zero d
  | true=>rw[he]at d;exact LwB.lst_zeroB d
 apply List.ext_getElem
 ·rw[l,ln]
 ·intro k h1 h2;have:=z k (by omega);rw[List.getD_eq_getElem?_getD,List.getD_eq_getElem?_getD,List.getElem?_eq_getElem h1,List.getElem?_eq_getElem h2]at this;have:rs[k]-(qG (cL c n) lo hi)[k]=0:=this
  grind
noncomputable def Ns(rs:List Rat):Prop:=rs.length<=24/\∀r∈rs,r.num.natAbs<2^3800/\((r.den:Int)).natAbs<2^2700
noncomputable def spLNums:Sp:=λvs H Q _=>∃(d l:Addr) (x y:V) (xs:List V) (c:Nat->Rat) (lo hi:Option Rat) (n:Nat) (rs:List Rat),vs=[.ref d,x,y,.ref l]/\FrzP H d c (λ_=>1500)/\Sm c/\IsDeg c n/\EndT H x lo/\EndT H y hi/\EndOk lo hi/\H l=some (.lst xs)/\Paired (NumT H) xs rs/\Ns rs/\
 ∀H',Same H H'->Q (.bl (decide (rs=qG (cL c n) lo hi))) H'
section
variable{P:Program}{w:World}{K:PySem.W.Frag}{mg:Str->Option Value}{base:Heap}{f fd:_}
theorem scLNums:FnScope ["one","low","high","told","many","ended","step","total","k","number","share"] ["one","low","high","told"] (jO gS):=⟨rfl,rfl,rfl,by decide +kernel,rfl,by decide +kernel,by decide +kernel⟩
theorem ok_lnums{fG fN fS fP fM fA fC fK:Addr}{fdG fdN fdS fdP fdM fdA fdC fdK:FuncData}(F:Fun K "_law_numbers" "_law_numbers" gS f fd)(T:Txt mg)
  (DG:Df K mg "_law_deg" sDeg ["one"] fG fdG) (GG:FnOk P w K mg base CX0 1 fG fdG ["one"] spDeg) (DN:Df K mg "_law_is_number" sNum ["thing"] fN fdN) (GN:FnOk P w K mg base CX0 2 fN fdN ["thing"] (spNumK K))
  (DS:Df K mg "_law_share" gN ["many","k","step","ended"] fS fdS) (GS:FnOk P w K mg base CX0 1 fS fdS ["many","k","step","ended"] spShare) (DP:Df K mg "_law_plus" xH ["one","other"] fP fdP) (GP:FnOk P w K mg base CX0 1 fP fdP ["one","other"] spPlus)
  (DM:Df K mg "_law_mul" yT ["one","other"] fM fdM) (GM:FnOk P w K mg base CX0 1 fM fdM ["one","other"] spLMul) (DA:Df K mg "_law_at" sAt ["one","spot"] fA fdA) (GA:FnOk P w K mg base CX0 2 fA fdA ["one","spot"] spAt1)
  (DC:Df K mg "_law_place" gO ["low","high","step"] fC fdC) (GC:FnOk P w K mg base CX0 2 fC fdC ["low","high","step"] spPlace) (DK:Df K mg "_law_like" sLike ["one","other"] fK fdK) (GK:FnOk P w K mg base CX0 1 fK fdK ["one","other"] spLikeB) :
  FnOk P w K mg base CX0 3 f fd ["one","low","high","told"] spLNums:=by
 refine F.ok scLNums (λvs H Q E h=>?_) (λcdv A outer s H vs Q E hr h=>?_)
 ·obtain⟨d,l,x,y,xs,c,lo,hi,n,rs,rfl,_⟩:=h
  rfl
 ·obtain⟨d,l,x,y,xs,c,lo,hi,n,rs,rfl,hD,sm,dg,hx,hy,es,hl,hN,hns,go⟩:=h;have hr1:Room 1 _:=hr.mono (by decide);refine⟨_,jB (jI (i:=4) scLNums.nd rfl (Or.inl rfl) (jG GG hr1 rfl DG.m DG.F.kp DG.b .nil jL (jA (pv 0) jC)))
   (jB (jX (PW.pt (xW (vN (qM (yB uW T.isi T.lst boot_list (pv 3)))) (vY (jR uM (kA kD (by rfl) T.len PySem.boot_len (jA (pv 3) jC)) (jJ kM (pv 4) jD) (jS _))))) (jF (jN vF)) jP)
   (jB (jX (vN (qM (kA (mN rfl) (by rfl) T.all boot_all (jA
    (wL (N:=["number"]) rfl rfl (by decide +kernel) (by decide +kernel) (by decide +kernel) (vC (pv 3)) (λC fp s2 H2=>jH (i:=0) (show List.Nodup (["number"]:List Str) by decide +kernel) rfl (Or.inl rfl))
     (λC fp s2 H2=>jG GN hr rfl DN.m DN.F.kp DN.b .nil jL (jA (pv 0) jC))) jC)))) (jF (jN vF)) jP)
   (jB (jI (i:=5) scLNums.nd rfl (Or.inl rfl) (pe_and (vD op_notN (pv 1) xI (jS _)) (pe_one (vD op_notN (pv 2) xI (jS _)))))
   (jB (kW PassesOwn.never rfl (qD (by rfl) T.rng (jA (jJ kM (pv 4) jD) jC)) (jH (i:=6) scLNums.nd rfl (Or.inl rfl))
    (jB (jI (i:=7) scLNums.nd rfl (Or.inl rfl) (jV (jA jD (jA jD jC))))
    (jB (kW PassesOwn.never rfl (gZ (by rfl) T.enum (jA (pv 3) jC)) (kU rfl (jM (jH (i:=8) scLNums.nd rfl (Or.inl rfl)) (jM (jH (i:=9) scLNums.nd rfl (Or.inl rfl)) kG)))
     (jB (jI (i:=10) scLNums.nd rfl (Or.inl rfl) (jG GS hr1 rfl DS.m DS.F.kp DS.b .nil jL (jA (pv 4) (jA (pv 8) (jA (pv 6) (jA (pv 5) jC))))))
     (jF (jI (i:=7) scLNums.nd rfl (Or.inl rfl) (jG GP hr1 rfl DP.m DP.F.kp DP.b .nil jL (jA (pv 7) (jA (jG GM hr1 rfl DM.m DM.F.kp DM.b .nil jL (jA (pv 9) (jA (jV (jA (pv 10) (jA jD jC))) jC))) jC)))))))
    (jF (jX (vN (qM (jG GK hr1 rfl DK.m DK.F.kp DK.b .nil jL (jA (pv 7) (jA (jG GA hr rfl DA.m DA.F.kp DA.b .nil jL (jA (pv 0) (jA (jV (jA (jG GC hr rfl DC.m DC.F.kp DC.b .nil jL (jA (pv 1) (jA (pv 2) (jA (pv 6) jC)))) jC)) jC))) jC))))) (jF (jN vF)) jP)))))
   (jF (jN vF)))))), ?_⟩
  have n8:=yG sm dg;have sz:=hns.2;have ln:=xJ sm n8 es (c:=c) (n:=n);have nok:=nums_ok (c:=c) (n:=n) es;have lx0:xs.length=rs.length:=Paired.length hN;refine⟨_,rfl,d,c,_,rfl,hD,λn' H1 s1 dg'=>?_⟩;obtain rfl:=dg'.uniq dg;have l1:=s1 _ _ hl;refine⟨_,rfl,rfl,.lst,.lst l1,_,rfl,iteF ?_⟩;refine⟨_,rfl,l,xs,rfl,.inl (SqL.of l1),_,rfl,_,_,rfl,rfl,rfl,_,rfl, ?_⟩;by_cases hlen:rs.length=n'+1
  case neg=>
   refine iteP ?_ ?_
   ·show(!decide (V.int ((xs.length:Nat):Int)=V.int ((n':Int)+1)))=true;rw[vV,decide_eq_false (by omega)]
    rfl
   ·have:=go H1 s1;rw[decide_eq_false (by intro z;rw[z]at hlen;exact hlen ln)]at this;exact this
  have lx:xs.length=n'+1:=by omega
  refine iteN ?_ ?_
  ·show(!decide (V.int ((xs.length:Nat):Int)=V.int ((n':Int)+1)))=false;rw[vV,decide_eq_true (by omega)]
   rfl
  have N1:Paired (NumT H1) xs rs:=Paired.mono (λ_ _ y=>NumT.same y s1) hN;refine⟨_,rfl,l,rfl,⟨xs,SqL.of l1⟩,λq H2 n2 s2 e2=>?_⟩;refine comp_list (K:=K) (a:=l) (xs:=xs) (λi ys H3=>Same H1 H3/\H3 q=some (.lst ys)/\ys=(List.replicate i true).map V.bl) (by rw[lx];exact Nat.lt_of_le_of_lt (show n'+1<=24 by omega) (by decide)) ⟨s2,e2,rfl⟩ (λi ys H3 h=>⟨SqL.of (h.1 _ _ l1),h.2.1⟩) ?_ ?_
  ·rintro i m ys x' H3 hx' hm hy' ⟨s3,e3,rfl⟩;obtain⟨r,hr',a,rfl,at'⟩:=jY N1 hx';have b:=sz r (List.mem_of_getElem? hr');have nl:=jZ r;refine⟨_,rfl,a,r.num,r.den,rfl,SqT.of (s3 _ _ at'),⟨nl.1,nl.2,jE b.1 (by decide),jE b.2 (by decide)⟩,λH4 s4=>?_⟩;refine kZ hx' hm hy' (s4 _ _ e3) ⟨kF (s3.trans s4) n2,jK, ?_⟩;rw[List.replicate_succ',List.map_append]
   rfl
  ·rintro ys H3 hy' ⟨s3,e3,rfl⟩;refine⟨q,_,rfl,SqL.of e3,_,rfl,iteN ?_ ?_⟩
   ·rw[show(List.replicate xs.length true).all id=true from List.all_eq_true.mpr λz hz=>(List.mem_replicate.mp hz).2]
    rfl
   have s13:=s1.trans s3;have x3:=hx.same s13;have y3:=hy.same s13;have l3:=s13 _ _ hl;have D3:=hD.same s13;have N3:Paired (NumT H3) xs rs:=Paired.mono (λ_ _ y=>NumT.same y s13) hN;have fin:(tSeq (tFor (iRng1 (kT (tOp (rI0 λi j=>V.int (i+j)) (tVar 4) (tC (V.int 1))) tNil)) (kN 6)
     (tSeq (tAsg (tTupF (kT (tC (V.int 0)) (kT (tC (V.int 1)) tNil))) (kN 7))
     (tSeq (tFor (iEnumL K (kT (tVar 3) tNil)) (gTup K 2 (vP (kN 8) (vP (kN 9) gNil)))
      (tSeq (tAsg (zX spShare [] E0 (kT (tVar 4) (kT (tVar 8) (kT (tVar 6) (kT (tVar 5) tNil))))) (kN 10))
      (tAsg (zX spPlus [] E0 (kT (tVar 7) (kT (zX spLMul [] E0 (kT (tVar 9) (kT (tTupF (kT (tVar 10) (kT (tC (V.int 1)) tNil))) tNil))) tNil))) (kN 7))))
     (tIfS (tNot (tB (zX spLikeB [] E0 (kT (tVar 7) (kT (zX spAt1 [] E0 (kT (tVar 0) (kT (tTupF (kT (zX spPlace [] E0 (kT (tVar 1) (kT (tVar 2) (kT (tVar 6) tNil)))) tNil)) tNil))) tNil))))) (tRet (tC (V.bl false))) tNext)))) (tRet (tC (V.bl true)))) { nx:=λ_ H'=>Q .non H',rt:=Q } [some (.ref d),some x,some y,some (.ref l),some (.int n'),some (.bl (ends lo hi)),none,none,none,none,none] H3:=by
    refine⟨_,rfl,_,_,rfl,rfl,((n'+1:Nat):Int),by show [V.int ((n':Int)+1)]=_;rw[show(n':Int)+1=((n'+1:Nat):Int) by omega],by omega,by omega, ?_⟩;rw[Int.toNat_natCast];refine qE (λi σ H4=>(∀j,j<i->LwB.sm (λk=>rs.getD k 0*shq n' k ((j:Int):Rat) (ends lo hi)) (n'+1)=LwB.ev (cL c n') (plc ((j:Int):Rat) lo hi))/\Same H3 H4/\∃v6 v7 v8 v9 v10,σ=[some (.ref d),some x,some y,some (.ref l),some (.int n'),some (.bl (ends lo hi)),v6,v7,v8,v9,v10]) ⟨λj hj=>absurd hj (Nat.not_lt_zero _),Same.refl _,_,_,_,_,_,rfl⟩ ?_ ?_
    ·rintro i σ H4 hi' ⟨hsofar,s4,v6,v7,v8,v9,v10,rfl⟩;refine⟨(by show 2<=sizeLine;decide),λtt H5 n5 s5 e5=>?_⟩;have s35:=s4.trans s5;refine⟨_,rfl,l,rfl,⟨_,SqL.of (s35 _ _ l3)⟩, ?_⟩;refine nN (K:=K) (a:=l) (xs:=xs) (λk σ H6=>∃(tr:Addr) (T0 B0:Int) (v8 v9 v10:Option V),σ=[some (.ref d),some x,some y,some (.ref l),some (.int n'),some (.bl (ends lo hi)),some (.int (0+(i:Int))),some (.ref tr),v8,v9,v10]/\Same H5 H6/\At2 H6 tr T0 B0/\0<B0/\T0.natAbs<2^(1+4000*k)/\B0.natAbs<2^(1+4000*k)/\fv T0 B0=LwB.sm (λk=>rs.getD k 0*shq n' k ((i:Int):Rat) (ends lo hi)) k)
      ⟨tt,0,1,_,_,_,rfl,Same.refl _,e5,by decide,by decide,by decide,fv_zero⟩ (λk σ H6 _ h=>by obtain⟨_,_,_,_,_,_,_,s6,_⟩:=h;exact SqL.of (s6 _ _ (s35 _ _ l3))) ?_ ?_
     ·rintro k z pr σ H6 hz hpr ⟨tr,T0,B0,w8,w9,w10,rfl,s6,aT,pB,bT,bB,vT⟩;have hk:k<n'+1:=by have:=(List.getElem?_eq_some_iff.mp hz).1;omega
      obtain⟨r,hr',a,rfl,at'⟩:=jY N3 hz;have b:=sz r (List.mem_of_getElem? hr');have nl:=jZ r;have s7:Same H6 (upd H6 pr (.tup [.int k,.ref a])):=kH _ hpr;have e7:(upd H6 pr (.tup [.int k,.ref a])) pr=some (.tup [.int k,.ref a]):=jK;generalize upd H6 pr (.tup [.int k,.ref a])=H7 at s7 e7;have s37:=s35.trans (s6.trans s7);refine⟨pr,_,rfl,SqT.of e7,rfl,_,_,rfl,_,_,rfl,rfl, ?_⟩;refine⟨_,rfl,_,rfl,_,rfl,_,rfl,n',k,i,ends lo hi,by rw[Int.zero_add];rfl,n8,by omega,by omega, ?_⟩;have bs:=shI_abs n8 (show k<=n' by omega) (show i<=8 by omega) (ends lo hi);refine⟨_,rfl,_,rfl,_,rfl,(by show 2<=sizeLine;decide),λz8 H8 n8' s8 e8=>?_⟩;refine⟨a,z8,r.num,r.den,shI n' k i (ends lo hi),1,rfl,(s37.trans s8) _ _ at',e8,jE b.1 (by decide),jE b.2 (by decide),jE bs (by decide),Nat.lt_of_lt_of_le (show(1:Int).natAbs<2^1 by decide) (Nat.pow_le_pow_right (by decide) (by decide)),λz9 H9 n9 s9 e9=>?_⟩;have p9:0<(r.den:Int)*1:=by omega
      have m1:(r.num*shI n' k i (ends lo hi)).natAbs<2^3999:=jE (jW b.1 bs) (by decide);have m2:((r.den:Int)*1).natAbs<2^3999:=by rw[Int.mul_one];exact jE b.2 (by decide)
      have s69:=s7.trans (s8.trans s9);refine⟨tr,z9,T0,B0,r.num*shI n' k i (ends lo hi),(r.den:Int)*1,rfl,s69 _ _ aT,e9,pB,p9,jE bT (by omega),jE bB (by omega),jE m1 (by decide),jE m2 (by decide),λr10 T' B' H10 n10 s10 e10 pB' lB' eq=>?_⟩;have bits:=qN pB p9 bT bB m1 m2 lB' eq;refine⟨r10,T',B',some (.int k),some (.ref a),some (.int (shI n' k i (ends lo hi))),rfl,s6.trans (s69.trans s10),e10,pB', ?_, ?_, ?_⟩
      ·rw[show 1+4000*(k+1)=1+4000*k+3999+1 by omega];exact bits.1
      ·rw[show 1+4000*(k+1)=1+4000*k+3999+1 by omega];exact bits.2
      ·rw[vE pB p9 pB' eq,vT,uI nl.1 (by decide),kE,mE,shI_q];show _=LwB.sm (λk=>rs.getD k 0*shq n' k ((i:Int):Rat) (ends lo hi)) k+rs.getD k 0*shq n' k ((i:Int):Rat) (ends lo hi);rw[List.getD_eq_getElem?_getD,hr']
       rfl
     ·rintro σ H6 ⟨tr,T0,B0,w8,w9,w10,rfl,s6,aT,pB,bT,bB,vT⟩;rw[lx]at bT bB vT;have s36:=s35.trans s6;refine⟨_,rfl,_,rfl,_,rfl,_,rfl,_,rfl,x,y,lo,hi,i,by rw[Int.zero_add];rfl,x3.same s36,y3.same s36,es,by omega,λr7 t7 b7 H7 n7 s7 e7 p7 bt7 bb7 v7=>?_⟩;refine⟨(by show 1<=sizeLine;decide),λz8 H8 n8' s8 e8=>?_⟩;refine⟨d,z8,r7,c,t7,b7,rfl,(D3.same s36).same (s7.trans s8),λj hj=>sm.c9 j hj,e8,s8 _ _ e7,p7,bt7,bb7,λr9 T9 B9 H9 s9 e9 p9 bT9 bB9 v9=>?_⟩;have s69:=s7.trans (s8.trans s9);refine⟨tr,r9,T0,B0,T9,B9,rfl,s69 _ _ aT,e9,jE bT (by omega),jE bB (by omega),jE bT9 (by decide),jE bB9 (by decide), ?_⟩;refine⟨_,rfl, ?_⟩;have v9':=v9 n' dg;rw[v7]at v9';by_cases eq:T0*B9=T9*B0
      ·rw[decide_eq_true eq];refine iteF ?_;refine⟨λj hj=>?_,s36.trans s69,_,_,_,_,_,rfl⟩;rcases Nat.lt_or_ge j i with z | z
       ·exact hsofar j z
       ·have:j=i:=by omega
        subst this;rw[<-vT,<-v9'];exact nM pB p9 eq
      ·rw[decide_eq_false eq];refine iteT ?_;have:=go H9 (s13.trans (s36.trans s69));rw[decide_eq_false]at this
       ·exact this
       ·intro z;refine eq (fv_inj pB p9 ?_);rw[vT,v9',z,nok]
    ·rintro σ H4 ⟨hall,s4,v6,v7,v8,v9,v10,rfl⟩;have:=go H4 (s13.trans s4);rw[decide_eq_true (nums_uniq sm n8 es hlen λi hi'=>hall i (by omega))]at this;exact this
   refine⟨_,rfl,rfl,_,rfl, ?_⟩;rw[<-ends_eq]at fin;have ex:=end_dec x3;have ey:=end_dec y3;rw[<-ey]at fin;rw[ex];cases hb:lo.isSome with
   | true=>
    rw[hb]at fin;exact iteP rfl ⟨_,rfl,rfl,fin⟩
   | false=>
    rw[hb]at fin;exact iteN rfl fin
end
end Lw
namespace Lw
open PySem PySem.Spec PyProof.Rows L2 LwQ
noncomputable def spScaled:Sp:=λvs H Q _=>∃(a q:Addr) (c:Nat->Rat) (m1 m2:Nat) (o u:Int),vs=[.ref a,.ref q]/\FrzP H a c (λ_=>m1)/\At2 H q o u/\0<u/\o.natAbs<2^m2/\u.natAbs<2^m2/\m1<=50000/\m2<=50000/\
 ∀(d:Addr) (H':Hp),H d=none->Same H H'->DictP H' d (λj=>c j*fv o u) (λ_=>m1+m2)->Q (.ref d) H'
noncomputable def strC(x y:Rat):Nat->Rat:=bump (bump (λ_=>0) 0 x) 1 y
noncomputable def spStraight:Sp:=λvs H Q _=>∃(p q:Addr) (t b o u:Int) (m:Nat),vs=[.ref p,.ref q]/\At2 H p t b/\At2 H q o u/\0<b/\0<u/\t.natAbs<2^m/\b.natAbs<2^m/\o.natAbs<2^m/\u.natAbs<2^m/\m<=1000/\
 ∀(d:Addr) (H':Hp),H d=none->Same H H'->DictP H' d (strC (fv t b) (fv o u)) (λ_=>m+1)->Q (.ref d) H'
section
variable{P:Program}{w:World}{K:PySem.W.Frag}{mg:Str->Option Value}{base:Heap}{f fd:_}
theorem scScaled:FnScope ["one","number","found","powers"] ["one","number"] (jO wB):=⟨rfl,rfl,rfl,by decide +kernel,rfl,by decide +kernel,by decide +kernel⟩
theorem ok_scaled{fM:Addr}{fdM:FuncData}(F:Fun K "_law_scaled" "_law_scaled" wB f fd)(DM:Df K mg "_law_mul" yT ["one","other"] fM fdM):FnOk P w K mg base CX0 2 f fd ["one","number"] spScaled:=by
 have GM:FnOk P w K mg base CX0 1 fM fdM ["one","other"] spLMul:=wP DM.F;refine F.ok scScaled (λvs H Q E h=>?_) (λcdv A outer s H vs Q E hr h=>?_)
 ·obtain⟨a,q,c,m1,m2,o,u,rfl,_⟩:=h
  rfl
 ·obtain⟨a,q,c,m1,m2,o,u,rfl,⟨EE,ob,ha,R⟩,hq,u0,bo,bu,l1,l2,go⟩:=h;have hu:_+1<cLine:=Nat.lt_of_le_of_lt (Nat.add_le_add_left (by decide:1<=64) _) hr.units;refine⟨_,jB (jI (i:=2) scScaled.nd rfl (Or.inl rfl) (xX))
   (jB (kW PassesOwn.never rfl (LwD.zI (pv 0)) (jH (i:=3) scScaled.nd rfl (Or.inl rfl))
    (jF (jX (jR uM (jT jU (pv 1) jD (λ_ _=>rfl)) jD (jS _))
     (jF (ps_dput hu (pv 2) (pv 3) (jG GM hr rfl DM.m DM.F.kp DM.b .nil jL (jA (xO hu (pv 0) (pv 3) (λ_ _=>rfl)) (jA (pv 1) jC))) rfl)) jP)))
   (jF (jN (pv 2)))), ?_⟩
  intro d nd;have s1:Same H (upd H d (.dT [])):=kH _ nd;generalize hH1:upd H d (.dT [])=H1 at s1;have e1:H1 d=some (.dT []):=hH1▸jK;have bH:∀{H3},But d H1 H3->Same H H3:=fun {H3} bt x y hx=>bt _ _ (s1 _ _ hx) λz=>by rw[z,nd]at hx;cases hx
  refine⟨_,rfl,a,ob,_,rfl,s1 _ _ ha,λp hp=>?_,λks hk=>?_⟩
  ·obtain⟨e,he,rfl⟩:=List.mem_map.mp hp;exact⟨_,rfl⟩
  have lk:ks.length=EE.length:=by rw[hk.1,List.length_map]
  have up:∀{z:Int} {m:Nat},z.natAbs<2^m->m<=50000->z.natAbs<2^50000:=λh k=>jE h k;refine LwD.yZ (xs:=ks) (λi σ H3=>(∃v,σ=[some (.ref a),some (.ref q),some (.ref d),v])/\But d H1 H3/\∃E',H3 d=some (.dT (E'.map Ent.kv))/\(∀n∈E'.map Ent.n,n∈(EE.take i).map Ent.n)/\RepE H3 E' (λj=>ptR EE c i j*fv o u) (λ_=>m1+m2))
   ⟨⟨_,rfl⟩,But.refl _ _,[],e1,(λ_ h=>nomatch h), ?_⟩ (λi σ H3 h=>bH h.2.1 _ _ ha) ?_ ?_
  ·have:(λj=>ptR EE c 0 j*fv o u)=λ_=>0:=by
    funext j
    unfold ptR;simp [Rat.zero_mul]
   rw[this];exact zH _
  ·rintro i x σ H3 hx ⟨⟨v,rfl⟩,b3,E',ed,hn,RR⟩;obtain⟨e,kb,he,rfl,hkb⟩:=yA hk hx;have eE:=List.mem_of_getElem? he;have s3:=bH b3;have R3:=R.map (H':=H3) λ_ _ q=>s3 _ _ q;have ee:=R3.each e eE;have stp:bump (λj=>ptR EE c i j*fv o u) e.n (c e.n*fv o u)=λj=>ptR EE c (i+1) j*fv o u:=by
    have:=gX (a:=λ_=>0) (c:=c) (x:=c e.n) R.nd he rfl
    funext j
    have:=congrFun this j;unfold bump at this ⊢;have:ptR EE c i j+(if j=e.n then c e.n else 0)=ptR EE c (i+1) j:=by
     have t2:(0+ptR EE c i j)+(if j=e.n then c e.n else 0)=0+ptR EE c (i+1) j:=this
     rwa [Rat.zero_add,Rat.zero_add]at t2
    rw[<-this];by_cases y:j=e.n
    ·rw[if_pos y,if_pos y,Rat.add_mul]
    ·rw[if_neg y,if_neg y,Rat.add_zero,Rat.add_zero]
   refine⟨_,rfl,q,_,_,_,rfl,rfl,SqT.of (s3 _ _ hq),rfl,rfl,_,rfl, ?_⟩;by_cases oz:o=0
   ·subst oz;refine iteN rfl ?_;refine⟨⟨_,rfl⟩,b3,E',ed,λn hn'=>?_, ?_⟩
    ·rw[vW he];exact .inl (hn n hn')
    ·have z0:fv 0 u=0:=by
      unfold fv;have:((0:Int):Rat)=0:=rfl;rw[this]
      grind
     rw[<-stp,z0];rw[z0]at RR;have:bump (λj=>ptR EE c i j*0) e.n (c e.n*0)=λj=>ptR EE c i j*0:=by
      funext j
      show ptR EE c i j*0+(if j=e.n then c e.n*0 else 0)=ptR EE c i j*0;rw[Rat.mul_zero,Rat.mul_zero];split<;>rw[Rat.add_zero]
     rw[this];exact RR
   ·refine iteP (by rw[vV,decide_eq_false oz];rfl) ?_;have g:=zL (s3 _ _ ha) R3 eE (b3 _ _ hkb (λz=>by rw[z,e1]at hkb;cases hkb));refine⟨_,rfl,_,rfl,a,_,rfl,g,_,rfl,e.c,q,e.t,e.b,o,u,rfl,ee.at',s3 _ _ hq,up ee.st l1,up ee.sb l1,up bo l2,up bu l2,λr H4 n4 s4 e4=>?_⟩;have kb4:H4 kb=some (.tup ((LwD.ik [(e.n:Int)]).map kV)):=by
     rw[LwD.xM];exact s4 _ _ (b3 _ _ hkb (λz=>by rw[z,e1]at hkb;cases hkb))
    have ti:e.n∉E'.map Ent.n:=λy=>yN R.nd he (hn _ y);have kz:(E'.map Ent.kv).length<sizeLine:=by rw[List.length_map];exact Nat.lt_of_le_of_lt RR.few (by decide)
    refine⟨_,rfl,_,rfl,d,_,rfl,DPut.t (k:=LwD.ik [(e.n:Int)]) (s4 _ _ ed) kb4 kz,⟨_,rfl⟩,(b3.trans (But.of s4)).trans (But.upd _ _ _),E'++[⟨e.n,r,e.t*o,e.b*u⟩], ?_,λn hn'=>?_, ?_⟩
    ·rw[jK,put_out (xK ti),List.map_append]
     rfl
    ·rw[List.map_append]at hn';rw[vW he];rcases List.mem_append.mp hn' with y | y
     ·exact .inl (hn n y)
     ·exact .inr (by simpa using y)
    ·rw[<-stp];have vv:fv (e.t*o) (e.b*u)=c e.n*fv o u:=by rw[uI ee.pos u0,ee.val]
     rw[<-vv];refine rep_new RR ee.lt (λg' hg' z=>ti (List.mem_map.mpr ⟨g',hg',z⟩)) (λa' xs q'=>?_) ?_ (Int.mul_pos ee.pos u0) (Int.mul_ne_zero ee.nz oz) (jW ee.st bo) (jW ee.sb bu)
     ·rw[jQ (λy=>by rw[y,ed]at q';cases q')];exact s4 _ _ q'
     ·unfold At2;rw[jQ (λy=>by
       have:=s4 _ _ ed;rw[<-y]at this;unfold At2 at e4;rw[e4]at this;cases this)]
      exact e4
  ·rintro σ H3 ⟨⟨v,rfl⟩,b3,E',ed,hn,RR⟩;rw[lk,ptR_all R]at RR;exact⟨_,rfl,go d H3 nd (bH b3) ⟨E',ed,RR⟩⟩
theorem scStraight:FnScope ["first","second","found"] ["first","second"] (jO xV):=⟨rfl,rfl,rfl,by decide +kernel,rfl,by decide +kernel,by decide +kernel⟩
theorem ok_straight{fP fS:Addr}{fdP fdS:FuncData}(F:Fun K "_law_straight" "_law_straight" xV f fd)(DP:Df K mg "_law_put" sPut ["found","powers","number"] fP fdP)(DS:Df K mg "_law_plus" xH ["one","other"] fS fdS):FnOk P w K mg base CX0 3 f fd ["first","second"] spStraight:=by
 have GP:FnOk P w K mg base CX0 2 fP fdP ["found","powers","number"] spPut:=ok_put DP.F DS;refine F.ok scStraight (λvs H Q E h=>?_) (λcdv A outer s H vs Q E hr h=>?_)
 ·obtain⟨p,q,t,b,o,u,m,rfl,_⟩:=h
  rfl
 ·obtain⟨p,q,t,b,o,u,m,rfl,hp,hq,b0,u0,h1,h2,h3,h4,hm,go⟩:=h;refine⟨_,jB (jI (i:=2) scStraight.nd rfl (Or.inl rfl) (xX))
   (jB (xD (jG GP hr rfl DP.m DP.F.kp DP.b .nil jL (jA (pv 2) (jA (jV (jA jD jC)) (jA (pv 0) jC)))))
   (jB (xD (jG GP hr rfl DP.m DP.F.kp DP.b .nil jL (jA (pv 2) (jA (jV (jA jD jC)) (jA (pv 1) jC)))))
   (jF (jN (pv 2))))), ?_⟩
  intro d nd;have s1:Same H (upd H d (.dT [])):=kH _ nd;generalize hH1:upd H d (.dT [])=H1 at s1;have e1:H1 d=some (.dT []):=hH1▸jK;have D1:DictP H1 d (λ_=>0) (λ_=>0):=⟨[],e1,zH _⟩;have nq:∀{y:Addr} {xs:List V},H y=some (.tup xs)->y≠d:=λh z=>by rw[z,nd]at h;cases h
  refine⟨_,rfl,(by show 1<=sizeLine;decide),λk1 H2 n2 s2 e2=>?_⟩;have s12:=s1.trans s2;refine⟨_,rfl,d,k1,p,0,m,t,b,_,_,rfl,D1.same s2,e2,by decide,s12 _ _ hp,b0,h1,h2,by omega,by show 0<=50000;decide,λH3 b3 D3=>?_⟩;have hp3:At2 H3 q o u:=b3 _ _ (s12 _ _ hq) (nq hq);refine⟨_,rfl,(by show 1<=sizeLine;decide),λk2 H4 n4 s4 e4=>?_⟩;refine⟨_,rfl,d,k2,q,1,m,o,u,_,_,rfl,D3.same s4,e4,by decide,s4 _ _ hp3,u0,h3,h4,by omega, ?_,λH5 b5 D5=>?_⟩
  ·show 0+(if (1:Nat)=0 then m+1 else 0)<=50000;simp
  ·refine⟨_,rfl,go d H5 nd (λy ob hy=>?_) ?_⟩
   ·have ny:y≠d:=λz=>by rw[z,nd]at hy;cases hy
    exact b5 _ _ (s4 _ _ (b3 _ _ (s12 _ _ hy) ny)) ny
   ·refine D5.mono λj=>?_;unfold xB;by_cases j0:j=0
    ·subst j0;simp
    ·by_cases j1:j=1
     ·subst j1;simp
     ·show 0+(if j=0 then m+1 else 0)+(if j=1 then m+1 else 0)<=m+1;rw[if_neg j0,if_neg j1];omega
end
end Lw
namespace Lw
open PySem PySem.Spec PyProof.Rows L2 LwQ
noncomputable def ndD(r:Rat):PyData:=.tuple [.int r.num,.int r.den]
noncomputable def endD:Option Rat->PyData
 | none=>.none
 | some r=>ndD r
theorem NumT.dec{H:Hp}{x:V}{r:Rat}(h:NumT H x r):DecV H x (ndD r):=by
 obtain⟨a,rfl,e⟩:=h;exact .tup e (.cons (.int _) (.cons (.int _) .nil))
theorem EndT.dec{H:Hp}{x:V}{o:Option Rat}(h:EndT H x o):DecV H x (endD o):=by
 cases o with
 | none=>cases (show x=.non from h);exact .non
 | some r=>exact NumT.dec h
theorem rat_eq{a b:Rat}(h1:a.num=b.num)(h2:(a.den:Int)=b.den):a=b:=by
 rw[<-kE a,<-kE b,h1,h2]
theorem nd_eqv(a b:Rat):PyData.eqv (ndD a) (ndD b)=decide (a=b):=by
 show((a.num==b.num)&&(((a.den:Int)==(b.den:Int))&&true))=_;by_cases h:a=b
 ·subst h;simp
 ·rw[decide_eq_false h,Bool.and_true];refine Bool.eq_false_iff.mpr λz=>h ?_;rw[Bool.and_eq_true]at z;exact rat_eq (by simpa using z.1) (by simpa using z.2)
theorem zM(a b:Option Rat):PyData.eqv (endD a) (endD b)=decide (a=b):=by
 cases a with
 | none=>
  cases b with
  | none=>rfl
  | some b=>rw[decide_eq_false (λz=>nomatch z)];rfl
 | some a=>
  cases b with
  | none=>rw[decide_eq_false (λz=>nomatch z)];rfl
  | some b=>
   show PyData.eqv (ndD a) (ndD b)=_;rw[nd_eqv];by_cases h:a=b
   ·rw[h];simp
   ·rw[decide_eq_false h,decide_eq_false λz=>h (Option.some.inj z)]
theorem nd_ok(a:Rat):DataOk (ndD a):=⟨rfl,by show max 0 (max 0 0)+1<=60;decide⟩
theorem xN(a:Option Rat):DataOk (endD a):=by
 cases a with
 | none=>exact⟨rfl,Nat.zero_le _⟩
 | some a=>exact nd_ok a
theorem mI{α:Type} [DecidableEq α]{D:α->PyData}(h:∀a b,PyData.eqv (D a) (D b)=decide (a=b)):∀xs ys:List α,PyData.eqvAll (xs.map D) (ys.map D)=decide (xs=ys)
 | [],[]=>rfl
 | [],_::_=>by rw[decide_eq_false (λz=>nomatch z)];rfl
 | _::_,[]=>by rw[decide_eq_false (λz=>nomatch z)];rfl
 | x::xs,y::ys=>by
  show(PyData.eqv (D x) (D y)&&PyData.eqvAll (xs.map D) (ys.map D))=_;rw[h,mI h xs ys];by_cases e1:x=y
  ·by_cases e2:xs=ys
   ·simp [e1,e2]
   ·simp [e1,e2]
  ·simp [e1]
theorem yH{α:Type}{R:V->α->Prop}{D:α->PyData}{H:Hp}(h:∀x a,R x a->DecV H x (D a)):∀{xs:List V} {as:List α},Paired R xs as->DecVs H xs (as.map D)
 | _,_,.nil=>.nil
 | _,_,.cons p t=>.cons (h _ _ p) (yH h t)
theorem list_ok{α:Type}{D:α->PyData}{k:Nat}(h:∀a,(D a).canLay0=true/\(D a).depth<=k)(hk:k+1<=60)(as:List α):DataOk (.list (as.map D)):=by
 have:PyData.canLayAll0 (as.map D)=true/\PyData.depthAll (as.map D)<=k:=by
  induction as with
  | nil=>exact⟨rfl,Nat.zero_le _⟩
  | cons a as ih=>
   refine⟨?_, ?_⟩
   ·show((D a).canLay0&&PyData.canLayAll0 (as.map D))=true;rw[(h a).1,ih.1];rfl
   ·show max (D a).depth (PyData.depthAll (as.map D))<=k;exact Nat.max_le.mpr ⟨(h a).2,ih.2⟩
 refine⟨this.1, ?_⟩;have e:(PyData.list (as.map D)).depth=PyData.depthAll (as.map D)+1:=rfl;omega
end Lw
namespace Lw
open PySem PySem.Spec PyProof.Rows L2 LwQ
noncomputable def strB:Option Rat->Option Rat->Bool
 | some l,some h=>decide (l<h)
 | none,none=>false
 | _,_=>true
noncomputable def Es(o:Option Rat):Prop:=∀r,o=some r->Sd r
theorem es_ok{lo hi:Option Rat}(h1:Es lo)(h2:Es hi)(h:strB lo hi=true):EndOk lo hi:=by
 cases lo with
 | none=>
  cases hi with
  | none=>cases h
  | some r=>exact h2 r rfl
 | some l=>
  cases hi with
  | none=>exact h1 l rfl
  | some r=>exact⟨h1 l rfl,h2 r rfl⟩
theorem bes_lt(l h:Rat):decide (besI l.num l.den h.num h.den<0)=decide (l<h):=by
 have k:=Rat.lt_iff (a:=l) (b:=h);unfold besI;by_cases z:l.num*(h.den:Int)<h.num*(l.den:Int)
 ·rw[if_pos z,decide_eq_true (k.mpr z)]
  rfl
 ·rw[if_neg z,decide_eq_false (λy=>z (k.mp y))];split<;>rfl
theorem Sd.fits{r:Rat}(h:Sd r):r.num.natAbs<2^50000/\((r.den:Int)).natAbs<2^50000:=⟨jE h.2 (by decide),jE h.den (by decide)⟩
noncomputable def spIsStr:Sp:=λvs H Q _=>∃(x y:V) (lo hi:Option Rat),vs=[x,y]/\EndT H x lo/\EndT H y hi/\Es lo/\Es hi/\Q (.bl (strB lo hi)) H
noncomputable def spHas:Sp:=λvs H Q _=>∃(p l:Addr) (x y:V) (xs:List V) (c:Nat->Rat) (lo hi:Option Rat) (n:Nat) (rs:List Rat),vs=[.ref p,x,y,.ref l]/\SumC H p c/\Sm c/\IsDeg c n/\EndT H x lo/\EndT H y hi/\EndOk lo hi/\H l=some (.lst xs)/\Paired (NumT H) xs rs/\Ns rs/\
 ∀H',Same H H'->Q (.bl (decide (rs=qG (cL c n) lo hi))) H'
theorem keep3{x y v:Option V}{r:L2.St} :Keep (none::none::none::r) (x::y::v::r):=λi v h=>by
 match i,h with
 | 0,h=>cases h
 | 1,h=>cases h
 | 2,h=>cases h
 | i+3,h=>exact h
noncomputable def lkB(B:Int):List Int->List Rat->List Bool
 | t::ts,r::rs=>decide (V.int (t*(r.den:Int))=V.int (r.num*B))::lkB B ts rs
 | _,_=>[]
theorem lkB_get{B:Int} :∀{ts:List Int} {rs:List Rat} {i:Nat} {t:Int} {r:Rat},ts[i]? = some t->rs[i]? = some r->(lkB B ts rs)[i]? = some (decide (V.int (t*(r.den:Int))=V.int (r.num*B)))
 | [],_,i,_,_,h,_=>by simp at h
 | _::_,[],i,_,_,_,h=>by simp at h
 | t::ts,r::rs,0,_,_,h1,h2=>by
  cases (Option.some.inj h1);cases (Option.some.inj h2)
  rfl
 | t::ts,r::rs,i+1,_,_,h1,h2=>lkB_get (ts:=ts) (rs:=rs) (i:=i) (by simpa using h1) (by simpa using h2)
theorem lkB_len{B:Int} :∀{ts:List Int} {rs:List Rat},ts.length=rs.length->(lkB B ts rs).length=rs.length
 | [],[],_=>rfl
 | [],_::_,h=>by cases h
 | _::_,[],h=>by cases h
 | t::ts,r::rs,h=>by show(lkB B ts rs).length+1=rs.length+1;rw[lkB_len (by simpa using h)]
theorem like_fv{t B:Int}{r:Rat}(hB:0<B):(t*(r.den:Int)=r.num*B)↔r=fv t B:=by
 constructor
 ·intro h;rw[<-kE r];exact nM (jZ r).1 hB h.symm
 ·intro h;exact(cross hB h).symm
theorem lkB_all{B:Int}(hB:0<B):∀{ts:List Int} {rs:List Rat},ts.length=rs.length->(lkB B ts rs).all id=decide (rs=ts.map λt=>fv t B)
 | [],[],_=>rfl
 | [],_::_,h=>by cases h
 | _::_,[],h=>by cases h
 | t::ts,r::rs,h=>by
  show(decide (V.int (t*(r.den:Int))=V.int (r.num*B))&&(lkB B ts rs).all id)=_;rw[lkB_all hB (by simpa using h),vV,List.map_cons];by_cases e1:r=fv t B
  ·rw[decide_eq_true ((like_fv hB).mpr e1)];by_cases e2:rs=ts.map λt=>fv t B
   ·rw[decide_eq_true e2,decide_eq_true (by rw[<-e1,<-e2])];rfl
   ·rw[decide_eq_false e2,decide_eq_false (λz=>e2 (List.cons.inj z).2)];rfl
  ·rw[decide_eq_false (λz=>e1 ((like_fv hB).mp z)),decide_eq_false (λz=>e1 (List.cons.inj z).1)];rfl
section
variable{P:Program}{w:World}{K:PySem.W.Frag}{mg:Str->Option Value}{base:Heap}{f fd:_}
theorem scIsStr:FnScope ["low","high"] ["low","high"] (jO gT):=⟨rfl,rfl,rfl,by decide +kernel,rfl,by decide +kernel,by decide +kernel⟩
theorem ok_isstr{fB:Addr}{fdB:FuncData}(F:Fun K "is_stretch" "is_stretch" gT f fd)(DB:Df K mg "beside" wJ ["one","other"] fB fdB)(GB:FnOk P w K mg base CX0 1 fB fdB ["one","other"] (spBeside K)):FnOk P w K mg base CX0 2 f fd ["low","high"] spIsStr:=by
 refine F.ok scIsStr (λvs H Q E h=>?_) (λcdv A outer s H vs Q E hr h=>?_)
 ·obtain⟨x,y,lo,hi,rfl,_⟩:=h
  rfl
 ·obtain⟨x,y,lo,hi,rfl,hx,hy,el,eh,go⟩:=h;refine⟨_,jB (jX (PW.pt (xW (qF (xU (pv 0))) (vY (qF (xU (pv 1)))))) (jF (jN (vD (op_neD hr.units) (pv 0) (pv 1) (jS _)))) jP)
   (jF (jN (vD xZ (jG GB hr rfl DB.m DB.F.kp DB.b .nil jL (jA (pv 0) (jA (pv 1) jC))) jD (jS _)))), ?_⟩
  have ne:∀(lo hi:Option Rat),EndT H x lo->EndT H y hi->Q (.bl (!decide (lo=hi))) H->tOp rNeD (tVar 0) (tVar 1) [some x,some y] H Q:=λlo hi h1 h2 q=>⟨_,rfl,_,rfl,_,_,h1.dec,h2.dec,xN _,xN _,by rw[zM];exact q⟩;cases lo with
  | none=>
   have e:x=.non:=hx;refine⟨_,rfl,_,rfl,iteP (by rw[e];rfl) (iteT (ne none hi hx hy ?_))⟩;cases hi with
   | none=>exact go
   | some h=>exact go
  | some l=>
   obtain⟨a,rfl,ha⟩:=hx;refine⟨_,rfl,_,rfl,iteN rfl ?_⟩;cases hi with
   | none=>
    have e:y=.non:=hy;exact⟨_,rfl,_,rfl,iteP (by rw[e];rfl) (ne (some l) none ⟨a,rfl,ha⟩ hy go)⟩
   | some h=>
    obtain⟨b,rfl,hb⟩:=hy;have f1:=(el l rfl).fits;have f2:=(eh h rfl).fits;refine⟨_,rfl,_,rfl,iteN rfl ?_⟩;refine⟨_,rfl,_,rfl,a,b,l.num,l.den,h.num,h.den,rfl,SqT.of ha,SqT.of hb,f1.1,f1.2,f2.1,f2.2,_,_,rfl,rfl, ?_⟩;have:Q (.bl (decide (l<h))) H:=go;rw[<-bes_lt]at this;exact this
theorem scHas:FnScope ["one","low","high","some","tops","bottom"] ["one","low","high","some"] (jO sHas):=⟨rfl,rfl,rfl,by decide +kernel,rfl,by decide +kernel,by decide +kernel⟩
theorem ok_has{fR:Addr}{fdR:FuncData}(F:Fun K "has_numbers" "has_numbers" sHas f fd)(T:Txt mg)(DR:Df K mg "raw_numbers" sRaw ["one","low","high"] fR fdR)(GR:FnOk P w K mg base CX0 6 fR fdR ["one","low","high"] (spRaw K)):FnOk P w K mg base CX0 7 f fd ["one","low","high","some"] spHas:=by
 refine F.ok scHas (λvs H Q E h=>?_) (λcdv A outer s H vs Q E hr h=>?_)
 ·obtain⟨p,l,x,y,xs,c,lo,hi,n,rs,rfl,_⟩:=h
  rfl
 ·obtain⟨p,l,x,y,xs,c,lo,hi,n,rs,rfl,hS,sm,dg,hx,hy,ok,hl,hN,hns,go⟩:=h;refine⟨_,jB (qC (jG GR hr rfl DR.m DR.F.kp DR.b .nil jL (jA (pv 0) (jA (pv 1) (jA (pv 2) jC)))) (kU rfl (jM (jH (i:=4) scHas.nd rfl (Or.inl rfl)) (jM (jH (i:=5) scHas.nd rfl (Or.inr rfl)) kG))))
   (jB (jX (jR uM (kA kD (by rfl) T.len PySem.boot_len (jA (pv 4) jC)) (kA kD (by rfl) T.len PySem.boot_len (jA (pv 3) jC)) (jS _)) (jF (jN vF)) jP)
   (jF (jN (kA (mN rfl) (by rfl) T.all boot_all (jA
    (vG (own:=3) (idx:=[5]) (N:=["top","over","under","bottom"]) rfl rfl rfl (by decide +kernel) (by decide +kernel) (λ_ _ h=>h) (vS rfl) rfl (wN rfl ⟨rfl,rfl,rfl,rfl⟩)
     (pi_zipL (by rfl) T.zip (jA (pv 4) (jA (pv 3) jC)))
     (λC fp s2 H2=>show PG (kC _ ["top","over","under","bottom"] _ _ C fp s2 H2) _ (gTup K 2 (vP (kN 0) (vP (gTup K 2 (vP (kN 1) (vP (kN 2) gNil))) gNil)))from kU (X:=kC _ ["top","over","under","bottom"] _ _ C fp s2 H2) rfl (jM (jH (i:=0) (show List.Nodup (["top","over","under","bottom"]:List Str) by decide +kernel) rfl (Or.inl rfl) (Or.inr rfl)) (jM (kU (X:=kC _ ["top","over","under","bottom"] _ _ C fp s2 H2) rfl (jM (jH (i:=1) (show List.Nodup (["top","over","under","bottom"]:List Str) by decide +kernel) rfl (Or.inl rfl) (Or.inr rfl)) (jM (jH (i:=2) (show List.Nodup (["top","over","under","bottom"]:List Str) by decide +kernel) rfl (Or.inl rfl) (Or.inr rfl)) kG))) kG)))
     (λC fp s2 H2=>vD qP (jJ kB (pv 0) (pv 2)) (jJ kB (pv 1) (pv 3)) (jS _))) jC))))), ?_⟩
  try dsimp only
  refine⟨_,rfl,_,rfl,_,rfl,p,x,y,c,lo,hi,rfl,hS,sm,hx.v,hy.v,ok,λt q n' H1 n1 n2 s1 dg' e1 e2=>?_⟩;obtain rfl:=dg'.uniq dg;have n8:=yG sm dg';have bds:=gW (n:=n') sm n8 ok;have ln:=xJ sm n8 ok (c:=c) (n:=n');have l1:=s1 _ _ hl;have lx:=Paired.length hN;refine⟨t,_,rfl,SqT.of e1,rfl,_,_,rfl,_,_,rfl,rfl, ?_⟩;refine⟨_,rfl,q,_,rfl,.inl (SqL.of e2),_,rfl,l,_,rfl,.inl (SqL.of l1),rfl,_,rfl, ?_⟩;have nf:qG (cL c n') lo hi=(rawF (cL c n') lo hi).1.map λt=>fv t (rawF (cL c n') lo hi).2:=rfl;generalize rawF (cL c n') lo hi=rw' at *;obtain⟨ts,B⟩:=rw';dsimp only at *;rw[nf,List.length_map]at ln;by_cases hlen:ts.length=rs.length
  case neg=>
   refine iteP ?_ ?_
   ·show(!decide (V.int (((ts.map V.int).length:Nat):Int)=V.int ((xs.length:Nat):Int)))=true;rw[vV,List.length_map,decide_eq_false (by omega)]
    rfl
   ·have:=go H1 s1;rw[decide_eq_false (by intro z;rw[z,nf,List.length_map]at hlen;exact hlen rfl)]at this;exact this
  refine iteN ?_ ?_
  ·show(!decide (V.int (((ts.map V.int).length:Nat):Int)=V.int ((xs.length:Nat):Int)))=false;rw[vV,List.length_map,decide_eq_true (by omega)]
   rfl
  refine⟨_,rfl,_,rfl,q,l,rfl,⟨_,SqL.of e2⟩,⟨_,SqL.of l1⟩,λk H2 n3 s2 e3=>?_⟩;refine nS (K:=K) (a:=q) (b:=l) (ts:=ts.map V.int) (us:=xs) (λi ys H4=>Same H1 H4/\H4 k=some (.lst ys)/\ys=((lkB B ts rs).take i).map V.bl) (by rw[List.length_map];omega) (Nat.lt_of_le_of_lt (show xs.length<=24 by have:=hns.1;omega) (by decide)) ⟨s2,e3,rfl⟩ (λi ys H4 h=>⟨SqL.of (h.1 _ _ e2),SqL.of (h.1 _ _ l1),h.2.1⟩) ?_ ?_
  ·rintro i m ys x' y' z H4 hx' hy' hm hl' ⟨s4,e4,rfl⟩ nz;obtain⟨tt,ht,rfl⟩:∃tt,ts[i]? = some tt/\x'=.int tt:=by
    rw[List.getElem?_map]at hx';obtain⟨x'',h1,h2⟩:=Option.map_eq_some_iff.mp hx';exact⟨x'',h1,h2.symm⟩
   obtain⟨r,hr',a,rfl,at'⟩:=jY hN hy';have s5:Same H4 (upd H4 z (.tup [.int tt,.ref a])):=kH _ nz;have b1:=bds.1 tt (List.mem_of_getElem? ht);have b2:=hns.2 r (List.mem_of_getElem? hr');have at5:=s5 _ _ (s4 _ _ (s1 _ _ at'));refine⟨z,_,rfl,SqT.of jK,rfl,_,_,rfl,_,_,rfl,⟨a,_,rfl,SqT.of at5,rfl,_,_,rfl,_,_,rfl,rfl,rfl,keep3, ?_⟩⟩;refine⟨_,rfl,_,rfl,_,_,rfl,rfl,⟨jE b1 (by decide),jE b2.2 (by decide)⟩,_,rfl,_,rfl,_,_,rfl,rfl,⟨jE b2.1 (by decide),jE bds.2.2.1 (by decide)⟩,rfl, ?_⟩;refine kZ hy' hm hl' (s5 _ _ e4) ⟨kF (s4.trans s5) n3,jK, ?_⟩;rw[List.take_add_one,lkB_get ht hr',List.map_append]
   rfl
  ·rintro ys H4 hl' ⟨s4,e4,rfl⟩;have el:(lkB B ts rs).length=xs.length:=by rw[lkB_len hlen];omega
   rw[<-el,List.take_length]at e4;refine⟨k,_,rfl,SqL.of e4, ?_⟩;rw[lkB_all bds.2.1 hlen,<-nf];exact go H4 (s1.trans s4)
end
end Lw
namespace Lw
open PySem PySem.Spec PyProof.Rows L2 LwQ
structure Pc where
 lo:Option Rat
 hi:Option Rat
 rs:List Rat
structure PcP(H:Hp)(v:V)(p:Pc):Prop where
 ex:∃(r l:Addr) (x y:V) (xs:List V),v=.ref r/\H r=some (.tup [x,y,.ref l])/\EndT H x p.lo/\EndT H y p.hi/\H l=some (.lst xs)/\Paired (NumT H) xs p.rs
theorem PcP.same{H H':Hp}{v:V}{p:Pc}(h:PcP H v p)(s:Same H H'):PcP H' v p:=by
 obtain⟨r,l,x,y,xs,e,e1,e2,e3,e4,e5⟩:=h.ex;exact⟨r,l,x,y,xs,e,s _ _ e1,e2.same s,e3.same s,s _ _ e4,Paired.mono (λ_ _ k=>NumT.same k s) e5⟩
structure PcB(p:Pc):Prop where
 lo:Es p.lo
 hi:Es p.hi
 rs:Ns p.rs
theorem EndT.upd{H:Hp}{x:V}{o:Option Rat}{l:Addr}{ys:List V}{u:HO}(h:EndT H x o)(e:H l=some (.lst ys)):EndT (upd H l u) x o:=by
 cases o with
 | none=>exact h
 | some r=>exact NumT.upd h e
noncomputable def chP(lo hi:Option Rat)(L:List Pc):Bool:=!(decide (L.map Pc.hi=[])||(!decide ((L.map Pc.hi).getLast? = some hi)||(L.map Pc.hi).dropLast.any λo=>o.isNone))&&(decide (L.map Pc.lo=lo::(L.map Pc.hi).dropLast)&&L.all λp=>strB p.lo p.hi)
noncomputable def chR(hi:Option Rat):Option Rat->List Pc->Bool
 | _,[]=>false
 | e,p::r=>decide (p.lo=e)&&(strB p.lo p.hi&&(if r.isEmpty then decide (p.hi=hi)else p.hi.isSome&&chR hi p.hi r))
theorem chP_eq(hi:Option Rat):∀(L:List Pc) (lo:Option Rat),chP lo hi L=chR hi lo L
 | [],lo=>rfl
 | [p],lo=>by
  unfold chP chR;simp only[List.map_cons,List.map_nil,List.getLast?_singleton,List.dropLast_singleton,List.any_nil,List.all_cons,List.all_nil,List.isEmpty_nil,if_true,Bool.and_true,Bool.or_false];rw[decide_eq_false (show ¬[p.hi]=[] by simp),Bool.false_or,Bool.not_not];rw[show decide ([p.lo]=[lo])=decide (p.lo=lo) by simp,show decide (some p.hi=some hi)=decide (p.hi=hi) by simp];generalize decide (p.lo=lo)=a;generalize decide (p.hi=hi)=b;generalize strB p.lo p.hi=c;cases a<;>cases b<;>cases c<;>rfl
 | p::q::r,lo=>by
  have ih:=chP_eq hi (q::r) p.hi;unfold chR;rw[<-ih];unfold chP;rw[decide_eq_false (show ¬(p::q::r).map Pc.hi=[] by simp),decide_eq_false (show ¬(q::r).map Pc.hi=[] by simp)];rw[show((p::q::r).map Pc.hi).getLast? = ((q::r).map Pc.hi).getLast? by simp [List.getLast?_cons_cons],show((p::q::r).map Pc.hi).dropLast=p.hi::((q::r).map Pc.hi).dropLast by simp [List.dropLast_cons_cons]];generalize ((q::r).map Pc.hi).dropLast=D;rw[List.any_cons,List.all_cons];rw[show decide ((p::q::r).map Pc.lo=lo::p.hi::D)=(decide (p.lo=lo)&&decide ((q::r).map Pc.lo=p.hi::D)) by simp [Bool.decide_and]];rw[show(q::r).isEmpty=false from rfl,if_neg Bool.false_ne_true];rw[show p.hi.isSome = !p.hi.isNone by cases p.hi<;>rfl];generalize decide (p.lo=lo)=a;generalize p.hi.isNone=b;generalize strB p.lo p.hi=c;generalize D.any (λo=>o.isNone)=d;generalize decide ((List.map Pc.hi (q::r)).getLast? = some hi)=e;generalize decide ((q::r).map Pc.lo=p.hi::D)=g;generalize (q::r).all (λp=>strB p.lo p.hi)=k;cases a<;>cases b<;>cases c<;>cases d<;>cases e<;>cases g<;>cases k<;>rfl
theorem dCol{K:PySem.W.Frag}{a:Nat}{σ:L2.St}{H1:Hp}{ls:Addr}{xs:List V}{L:List Pc}{i:Int}{sel:Pc->Option Rat}{Q:VK}(e:σ[a]? = some (some (.ref ls)))(h:H1 ls=some (.lst xs))(pr:Paired (PcP H1) xs L)(hz:xs.length<=20)
  (hsel:∀v p,PcP H1 v p->∃(r:Addr) (zs:List V) (z:V),v=.ref r/\H1 r=some (.tup zs)/\atI zs i=some z/\EndT H1 z (sel p))
  (q:∀(l:Addr) (ys:List V) (H2:Hp),H1 l=none->Same H1 H2->H2 l=some (.lst ys)->Paired (EndT H2) ys (L.map sel)->Q (.ref l) H2):tCompF 1 [] (iList K (tVar a)) (kN 0) (tOp (rIxT K) (tVar 0) (tC (.int i))) σ H1 Q:=by
 have lx:=Paired.length pr;refine⟨_,e,ls,rfl,⟨xs,SqL.of h⟩,λk H2 n2 s2 e2=>?_⟩;refine vU (K:=K) (a:=ls) (xs:=xs) (λi ys H3=>Same H1 H3/\H3 k=some (.lst ys)/\Paired (EndT H3) ys ((L.take i).map sel)) (Nat.lt_of_le_of_lt hz (by decide)) ⟨s2,e2,.nil⟩ (λi ys H3 h3=>⟨SqL.of (h3.1 _ _ h),h3.2.1⟩) ?_ ?_
 ·rintro j m ys x' H3 hx' hm hy' ⟨s3,e3,p3⟩;obtain⟨p,hp,pp⟩:=jY pr hx';obtain⟨r,zs,z,rfl,e4,e5,e6⟩:=hsel _ _ pp;refine⟨nJ,_,rfl,r,zs,i,z,rfl,rfl,SqT.of (s3 _ _ e4),e5,kZ hx' hm hy' e3 ⟨kF s3 n2,jK, ?_⟩⟩;rw[List.take_succ,hp,List.map_append];exact Paired.snoc (Paired.mono (λ_ _ y=>y.upd e3) p3) ((e6.same s3).upd e3)
 ·rintro ys H3 hy' ⟨s3,e3,p3⟩;rw[lx,List.take_length]at p3;exact q k ys H3 n2 s3 e3 p3
theorem uJ(xs:List V)(h:xs≠[]):cutV xs none (some (-1))=xs.dropLast:=by
 unfold cutV;rw[HT.sIx_none,List.drop_zero];have:HT.sIx xs.length xs.length (some (-1))=xs.length-1:=by
  have hl:0<xs.length:=List.length_pos_iff.mpr h;unfold HT.sIx;dsimp only;rw[if_pos (by decide)];omega
 rw[this,Nat.sub_zero,List.dropLast_eq_take]
end Lw
namespace Lw
open PySem PySem.Spec PyProof.Rows L2 LwQ
noncomputable def spChained:Sp:=λvs H Q _=>∃(x y:V) (ls:Addr) (lo hi:Option Rat) (xs:List V) (L:List Pc),vs=[x,y,.ref ls]/\EndT H x lo/\EndT H y hi/\H ls=some (.lst xs)/\Paired (PcP H) xs L/\L.length<=20/\(∀p∈L,PcB p)/\∀H',Same H H'->Q (.bl (chR hi lo L)) H'
theorem dec_all{H:Hp}{ys:List V}{as:List (Option Rat)}(h:Paired (EndT H) ys as):∀z∈ys,z=.non∨∃a ds,z=.ref a/\DecV H z (.tuple ds)/\DataOk (.tuple ds):=by
 intro z hz;obtain⟨i,hi⟩:=List.mem_iff_getElem?.mp hz;obtain⟨o,_,ho⟩:=jY h hi;cases o with
 | none=>exact .inl ho
 | some r=>
  obtain⟨a,rfl,ha⟩:=ho;exact .inr ⟨a,_,rfl,NumT.dec ⟨a,rfl,ha⟩,nd_ok r⟩
theorem any_non{H:Hp} :∀{ys:List V} {as:List (Option Rat)},Paired (EndT H) ys as->(ys.any λz=>decide (z=.non))=as.any λo=>o.isNone
 | _,_,.nil=>rfl
 | _,_,.cons (b:=o) h t=>by
  rw[List.any_cons,List.any_cons,any_non t]
  congr 1
  cases o with
  | none=>rw[show _=V.non from h];rfl
  | some r=>obtain⟨a,rfl,_⟩:=h;rfl
theorem uZ(as:List (Option Rat)):DataOk (.list (as.map endD)):=list_ok (k:=1) (λa=>⟨(xN a).1,by cases a with | none=>exact Nat.zero_le _ | some r=>exact Nat.le_refl _⟩) (by decide) as
theorem vZ{α β:Type}{F:α->β->Prop} :∀{xs:List α} {ys:List β},Paired F xs ys->Paired F xs.dropLast ys.dropLast
 | _,_,.nil=>.nil
 | _,_,.cons _ .nil=>.nil
 | _,_,.cons h (.cons k t)=>.cons h (vZ (.cons k t))
theorem sel_lo{H:Hp}(v:V)(p:Pc)(h:PcP H v p):∃(r:Addr) (zs:List V) (z:V),v=.ref r/\H r=some (.tup zs)/\atI zs 0=some z/\EndT H z p.lo:=by
 obtain⟨r,l,x,y,xs,e,e1,e2,_⟩:=h.ex;exact⟨r,_,x,e,e1,rfl,e2⟩
theorem sel_hi{H:Hp}(v:V)(p:Pc)(h:PcP H v p):∃(r:Addr) (zs:List V) (z:V),v=.ref r/\H r=some (.tup zs)/\atI zs 1=some z/\EndT H z p.hi:=by
 obtain⟨r,l,x,y,xs,e,e1,_,e3,_⟩:=h.ex;exact⟨r,_,y,e,e1,rfl,e3⟩
section
variable{P:Program}{w:World}{K:PySem.W.Frag}{mg:Str->Option Value}{base:Heap}{f fd:_}
theorem scChained:FnScope ["low","high","some","ends"] ["low","high","some"] (jO yU):=⟨rfl,rfl,rfl,by decide +kernel,rfl,by decide +kernel,by decide +kernel⟩
theorem ok_chained{fI:Addr}{fdI:FuncData}(F:Fun K "are_chained" "are_chained" yU f fd)(T:Txt mg)(DI:Df K mg "is_stretch" gT ["low","high"] fI fdI)(GI:FnOk P w K mg base CX0 2 fI fdI ["low","high"] spIsStr):FnOk P w K mg base CX0 3 f fd ["low","high","some"] spChained:=by
 refine F.ok scChained (λvs H Q E h=>?_) (λcdv A outer s H vs Q E hr h=>?_)
 ·obtain⟨x,y,ls,lo,hi,xs,L,rfl,_⟩:=h
  rfl
 ·obtain⟨x,y,ls,lo,hi,xs,L,rfl,hx,hy,hl,pr,l20,ok,go⟩:=h;refine⟨_,jB (zT (i:=3) scChained.nd rfl (Or.inl rfl) (own:=1) (idx:=[]) (N:=["piece"]) rfl rfl rfl (by decide +kernel) (by decide +kernel) (λ_ _ h=>nomatch h) (vS rfl) rfl (λ_ _ _ h=>nomatch h) (vC (pv 2)) (λC fp s2 H2=>jH (i:=0) (show List.Nodup (["piece"]:List Str) by decide +kernel) rfl (Or.inl rfl) (Or.inr rfl)) (λC fp s2 H2=>jT (show IxR (kC _ ["piece"] _ _ C fp s2 H2) (rIxT K)from jU) (pv 0) jD (λ_ _=>rfl)))
   (jB (jX (PW.pt (xW (jR (op_eqD hr.units) (pv 3) (kR jC) (jS _)) (xW (jR (op_neD hr.units) (jT kQ (pv 3) (yW xG jD) (λ_ _=>rfl)) (pv 1) (jS _)) (vY (jR (op_inN hr.units) xI (kL kJ (pv 3) qA (kX (yW xG jD))) (by rfl)))))) (jF (jN vF)) jP)
   (jF (jN (pe_and (vD (op_eqD hr.units) (vG (own:=1) (idx:=[]) (N:=["piece"]) rfl rfl rfl (by decide +kernel) (by decide +kernel) (λ_ _ h=>nomatch h) (vS rfl) rfl (λ_ _ _ h=>nomatch h) (vC (pv 2)) (λC fp s2 H2=>jH (i:=0) (show List.Nodup (["piece"]:List Str) by decide +kernel) rfl (Or.inl rfl) (Or.inr rfl)) (λC fp s2 H2=>jT (show IxR (kC _ ["piece"] _ _ C fp s2 H2) (rIxT K)from jU) (pv 0) jD (λ_ _=>rfl))) (jJ qH (kR (jA (pv 0) jC)) (kL kJ (pv 3) qA (kX (yW xG jD)))) (jS _))
    (pe_one (kA (mN rfl) (by rfl) T.all boot_all (jA
     (vG (own:=1) (idx:=[]) (N:=["piece"]) rfl rfl rfl (by decide +kernel) (by decide +kernel) (λ_ _ h=>nomatch h) (vS rfl) rfl (λ_ _ _ h=>nomatch h) (vC (pv 2)) (λC fp s2 H2=>jH (i:=0) (show List.Nodup (["piece"]:List Str) by decide +kernel) rfl (Or.inl rfl) (Or.inr rfl))
      (λC fp s2 H2=>jG GI hr rfl DI.m DI.F.kp DI.b .nil jL (jA (jT (show IxR (kC _ ["piece"] _ _ C fp s2 H2) (rIxT K)from jU) (pv 0) jD (λ_ _=>rfl)) (jA (jT (show IxR (kC _ ["piece"] _ _ C fp s2 H2) (rIxT K)from jU) (pv 0) jD (λ_ _=>rfl)) jC)))) jC))))))), ?_⟩
  try dsimp only
  have lx:=Paired.length pr;have go':∀H',Same H H'->Q (.bl (chP lo hi L)) H':=λH' s'=>by rw[chP_eq];exact go H' s'
  refine dCol rfl hl pr (by omega) sel_hi λl1 ys H1 n1 s1 e1 pe=>?_;have ly:=Paired.length pe;rw[List.length_map]at ly;refine⟨_,rfl,(by show 0<=sizeLine;decide),λl2 H2 n2 s2 e2=>⟨_,_,.lst (s2 _ _ e1) (yH (D:=endD) (λ_ _ k=>(EndT.same k s2).dec) pe),.lst e2 .nil,uZ _,uZ [],_,rfl, ?_⟩⟩;have ev0:PyData.eqv (.list ((L.map Pc.hi).map endD)) (.list [])=decide (L.map Pc.hi=[]):=mI zM (L.map Pc.hi) [];rw[ev0];have s02:=s1.trans s2;by_cases h0:L.map Pc.hi=[]
  ·refine iteP (decide_eq_true h0) (iteT ?_);have:=go' H2 s02;unfold chP at this;rw[decide_eq_true h0]at this;exact this
  refine iteN (decide_eq_false h0) ?_;have ny:ys≠[]:=λz=>h0 (by rw[z]at ly;exact List.map_eq_nil_iff.mpr (List.length_eq_zero_iff.mp ly.symm));obtain⟨N,hN⟩:∃N,ys.length=N+1:=⟨ys.length-1,by have:=List.length_pos_iff.mpr ny;omega⟩;obtain⟨v,hv⟩:∃v,ys[N]? = some v:=⟨ys[N],by simp [hN]⟩;obtain⟨o,ho,hov⟩:=jY pe hv;have e12:=s2 _ _ e1;have gl:(L.map Pc.hi).getLast? = some o:=by rw[List.getLast?_eq_getElem?,List.length_map,<-ly,hN];exact ho
  refine⟨_,rfl,_,rfl,l1,_,_,v,rfl,rfl,SqL.of e12,at_last hN hv,_,rfl,_,_,(hov.same s2).dec,(hy.same s02).dec,xN _,xN _,_,rfl, ?_⟩;rw[zM];by_cases h1:o=hi
  case neg=>
   refine iteP (by rw[decide_eq_false h1];rfl) (iteT ?_);have:=go' H2 s02;unfold chP at this;rw[gl,decide_eq_false (show ¬some o=some hi from λz=>h1 (Option.some.inj z)),decide_eq_false h0]at this;exact this
  refine iteN (by rw[decide_eq_true h1];rfl) ?_;refine⟨_,rfl,_,rfl,_,rfl,l1,ys,rfl,SqL.of e12,λl3 H3 n3 s3 e3=>?_⟩;rw[uJ ys ny]at e3;have p3:=Paired.mono (λ_ _ (k:EndT H1 _ _)=>k.same (s2.trans s3)) (vZ pe);refine⟨l3,_,rfl,rfl,SqL.of e3,dec_all p3,_,rfl, ?_⟩;rw[any_non p3];have s03:=s02.trans s3;refine ite2 (λh2=>?_) (λh2=>?_)
  ·have:=go' H3 s03;unfold chP at this;rw[gl,h1,decide_eq_true rfl,decide_eq_false h0,h2]at this;exact this
  have h2':((L.map Pc.hi).dropLast.any λo=>o.isNone)=false:=Bool.eq_false_iff.mpr h2;have go2:∀H',Same H3 H'->Q (.bl (decide (L.map Pc.lo=lo::(L.map Pc.hi).dropLast)&&L.all λp=>strB p.lo p.hi)) H':=λH' s'=>by
   have:=go' H' (s03.trans s');unfold chP at this;rw[gl,h1,decide_eq_true rfl,decide_eq_false h0,h2']at this;exact this
  have pr3:Paired (PcP H3) xs L:=Paired.mono (λ_ _ k=>k.same s03) pr;refine dCol rfl (s03 _ _ hl) pr3 (by omega) sel_lo λl4 zs H4 n4 s4 e4 pz=>?_;refine⟨_,rfl,(by show 1<=sizeLine;decide),λl5 H5 n5 s5 e5=>⟨_,rfl,_,rfl,_,rfl,l1,ys,rfl,SqL.of (s5 _ _ (s4 _ _ (s3 _ _ e12))),λl6 H6 n6 s6 e6=>⟨l5,l6,_,_,rfl,rfl,s6 _ _ e5,e6, ?_,λl7 H7 n7 s7 e7=>?_⟩⟩⟩
  ·rw[uJ ys ny,List.length_dropLast];exact Nat.le_trans (show 1+(ys.length-1)<=21 by omega) (by decide)
  rw[uJ ys ny]at e7;have s47:=s5.trans (s6.trans s7);have s37:=s4.trans s47;have s07:=s03.trans s37;have pq:=Paired.mono (λ_ _ (k:EndT H1 _ _)=>k.same ((s2.trans s3).trans s37)) (vZ pe);have d7:DecV H7 (.ref l7) (.list ((lo::(L.map Pc.hi).dropLast).map endD)):=.lst e7 (.cons (hx.same s07).dec (yH (D:=endD) (λ_ _ k=>EndT.dec k) pq));refine⟨_,_,.lst (s47 _ _ e4) (yH (D:=endD) (λ_ _ k=>(EndT.same k s47).dec) pz),d7,uZ _,uZ _,_,rfl, ?_⟩;have ev1:PyData.eqv (.list ((L.map Pc.lo).map endD)) (.list ((lo::(L.map Pc.hi).dropLast).map endD))=decide (L.map Pc.lo=lo::(L.map Pc.hi).dropLast):=mI zM (L.map Pc.lo) (lo::(L.map Pc.hi).dropLast);rw[ev1];by_cases h3:L.map Pc.lo=lo::(L.map Pc.hi).dropLast
  case neg=>
   refine iteN (decide_eq_false h3) ?_;have:=go2 H7 s37;rw[decide_eq_false h3]at this;exact this
  refine iteP (decide_eq_true h3) ?_;refine⟨_,rfl,ls,rfl,⟨xs,SqL.of (s07 _ _ hl)⟩,λk H8 n8 s8 e8=>?_⟩;refine vU (K:=K) (a:=ls) (xs:=xs) (λi us H9=>Same H7 H9/\H9 k=some (.lst us)/\us=((L.take i).map λp=>strB p.lo p.hi).map V.bl) (Nat.lt_of_le_of_lt (show xs.length<=20 by omega) (by decide)) ⟨s8,e8,rfl⟩ (λi us H9 h9=>⟨SqL.of (h9.1 _ _ (s07 _ _ hl)),h9.2.1⟩) ?_ ?_
  ·rintro j m us x' H9 hx' hm hy' ⟨s9,e9,rfl⟩;obtain⟨p,hp,pp⟩:=jY pr hx';have bp:=ok p (List.mem_of_getElem? hp);have s09:=s07.trans s9;obtain⟨r,l,a,b,vs,rfl,q1,q2,q3,_⟩:=(pp.same s09).ex;refine⟨nJ,_,rfl,r,_,0,a,rfl,rfl,SqT.of q1,rfl,_,rfl,r,_,1,b,rfl,rfl,SqT.of q1,rfl,a,b,p.lo,p.hi,rfl,q2,q3,bp.lo,bp.hi, ?_⟩;refine kZ hx' hm hy' e9 ⟨kF s9 n8,jK, ?_⟩;rw[List.take_succ,hp,List.map_append,List.map_append]
   rfl
  ·rintro us H9 hy' ⟨s9,e9,rfl⟩;rw[lx,List.take_length]at e9;refine⟨k,_,rfl,SqL.of e9, ?_⟩;have:=go2 H9 (s37.trans s9);rw[decide_eq_true h3]at this;rw[List.all_map];exact this
end
end Lw
namespace Lw
open PySem PySem.Spec PyProof.Rows L2 LwQ
noncomputable def ngB(rs:List Rat):Bool:=rs.any λr=>decide (r.num<0)
noncomputable def rgB(c:Nat->Rat)(n:Nat)(p:Pc):Bool:=!ngB p.rs&&decide (p.rs=qG (cL c n) p.lo p.hi)
noncomputable def okB(c:Nat->Rat)(n:Nat)(lo hi:Option Rat)(L:List Pc):Bool:=chR hi lo L&&L.all (rgB c n)
theorem ch_str{hi:Option Rat} :∀{L:List Pc} {lo:Option Rat},chR hi lo L=true->∀p∈L,strB p.lo p.hi=true
 | [],_,_,p,h=>nomatch h
 | q::r,lo,h,p,hp=>by
  unfold chR at h;rw[Bool.and_eq_true,Bool.and_eq_true]at h;rcases List.mem_cons.mp hp with rfl | hp
  ·exact h.2.1
  ·have h2:=h.2.2;cases r with
   | nil=>cases hp
   | cons a r=>
    rw[if_neg (by simp),Bool.and_eq_true]at h2;exact ch_str h2.2 p hp
noncomputable def spArePcs:Sp:=λvs H Q _=>∃(p ls:Addr) (x y:V) (c:Nat->Rat) (n:Nat) (lo hi:Option Rat) (xs:List V) (L:List Pc),vs=[.ref p,x,y,.ref ls]/\SumC H p c/\Sm c/\IsDeg c n/\EndT H x lo/\EndT H y hi/\H ls=some (.lst xs)/\Paired (PcP H) xs L/\L.length<=20/\(∀p∈L,PcB p)/\∀H',Same H H'->Q (.bl (okB c n lo hi L)) H'
inductive ApI(H:Hp)(p ls:Addr)(x y:V)(c:Nat->Rat)(n:Nat)(L:List Pc)(i:Nat):L2.St->Hp->Prop where
 | mk {u4 u5 u6:Option V} {H':Hp} (s:Same H H') (a:(L.take i).all (rgB c n)=true):ApI H p ls x y c n L i [some (.ref p),some x,some y,some (.ref ls),u4,u5,u6] H'
theorem all_snoc{α:Type}{L:List α}{i:Nat}{p:α}{f:α->Bool}(h:L[i]? = some p)(a:(L.take i).all f=true)(b:f p=true):(L.take (i+1)).all f=true:=by
 rw[List.take_succ,h,List.all_append,a];simp [b]
theorem all_not{α:Type}{L:List α}{i:Nat}{p:α}{f:α->Bool}(h:L[i]? = some p)(b:f p=false):L.all f=false:=by
 refine Bool.eq_false_iff.mpr λz=>?_;rw[List.all_eq_true.mp z p (List.mem_of_getElem? h)]at b;cases b
theorem ng_map(rs:List Rat):(rs.map λr=>decide (r.num<0)).any id=ngB rs:=by
 unfold ngB;rw[List.any_map]
 rfl
section
variable{P:Program}{w:World}{K:PySem.W.Frag}{mg:Str->Option Value}{base:Heap}{f fd:_}
theorem scArePcs:FnScope ["one","low","high","some","begin","end","told"] ["one","low","high","some"] (jO sAre):=⟨rfl,rfl,rfl,by decide +kernel,rfl,by decide +kernel,by decide +kernel⟩
theorem ok_arepcs{fC fH:Addr}{fdC fdH:FuncData}(F:Fun K "are_pieces" "are_pieces" sAre f fd)(T:Txt mg)(DC:Df K mg "are_chained" yU ["low","high","some"] fC fdC)(GC:FnOk P w K mg base CX0 3 fC fdC ["low","high","some"] spChained)(DH:Df K mg "has_numbers" sHas ["one","low","high","some"] fH fdH)(GH:FnOk P w K mg base CX0 7 fH fdH ["one","low","high","some"] spHas):FnOk P w K mg base CX0 8 f fd ["one","low","high","some"] spArePcs:=by
 refine F.ok scArePcs (λvs H Q E h=>?_) (λcdv A outer s H vs Q E hr h=>?_)
 ·obtain⟨p,ls,x,y,c,n,lo,hi,xs,L,rfl,_⟩:=h
  rfl
 ·obtain⟨p,ls,x,y,c,n,lo,hi,xs,L,rfl,hS,sm,dg,hx,hy,hl,pr,l20,ok,go⟩:=h;have hr3:Room 3 _:=hr.mono (by decide);refine⟨_,jB (jX (vN (qM (jG GC hr3 rfl DC.m DC.F.kp DC.b .nil jL (jA (pv 1) (jA (pv 2) (jA (pv 3) jC)))))) (jF (jN vF)) jP)
   (jB (kW PassesOwn.never rfl (vC (pv 3)) (kU rfl (jM (jH (i:=4) scArePcs.nd rfl (Or.inl rfl)) (jM (jH (i:=5) scArePcs.nd rfl (Or.inl rfl)) (jM (jH (i:=6) scArePcs.nd rfl (Or.inl rfl)) kG))))
    (jF (jX (PW.pt (xW (qM (kA (call_any rfl) (by rfl) T.any boot_any (jA
     (vG (own:=2) (idx:=[]) (N:=["over","under"]) rfl rfl rfl (by decide +kernel) (by decide +kernel) (λ_ _ h=>nomatch h) (vS rfl) rfl (λ_ _ _ h=>nomatch h) (vC (pv 6))
      (λC fp s2 H2=>show PG (kC _ ["over","under"] _ _ C fp s2 H2) _ (gTup K 2 (vP (kN 0) (vP (kN 1) gNil)))from kU (X:=kC _ ["over","under"] _ _ C fp s2 H2) rfl (jM (jH (i:=0) (show List.Nodup (["over","under"]:List Str) by decide +kernel) rfl (Or.inl rfl) (Or.inr rfl)) (jM (jH (i:=1) (show List.Nodup (["over","under"]:List Str) by decide +kernel) rfl (Or.inl rfl) (Or.inr rfl)) kG)))
      (λC fp s2 H2=>vD xZ (pv 0) jD (jS _))) jC)))
     (vY (vN (qM (jG GH hr rfl DH.m DH.F.kp DH.b .nil jL (jA (pv 0) (jA (pv 4) (jA (pv 5) (jA (pv 6) jC)))))))))) (jF (jN vF)) jP)))
   (jF (jN vF))), ?_⟩
  try dsimp only
  have lx:=Paired.length pr;refine⟨_,rfl,_,rfl,_,rfl,x,y,ls,lo,hi,xs,L,rfl,hx,hy,hl,pr,l20,ok,λH1 s1=>⟨_,rfl, ?_⟩⟩;by_cases hc:chR hi lo L=true
  case neg=>
   rw[Bool.eq_false_iff.mpr hc];refine iteT ?_;have:=go H1 s1;unfold okB at this;rw[Bool.eq_false_iff.mpr hc]at this;exact this
  rw[hc];refine iteF ?_;have go2:∀H',Same H H'->Q (.bl (L.all (rgB c n))) H':=λH' s'=>by
   have:=go H' s';unfold okB at this;rw[hc]at this;exact this
  refine⟨_,rfl,ls,rfl,⟨xs,SqL.of (s1 _ _ hl)⟩, ?_⟩;refine wW (K:=K) (a:=ls) (xs:=xs) (ApI H p ls x y c n L) (.mk s1 rfl) (λi σ H2 _ h=>?_) (λi v σ H2 hv h=>?_) (fun σ H2 h=>?_)
  ·obtain⟨s2,_⟩:=h;exact SqL.of (s2 _ _ hl)
  ·obtain⟨s2,a2⟩:=h;obtain⟨pc,hp,pp⟩:=jY pr hv;have mem:=List.mem_of_getElem? hp;have bp:=ok pc mem;have st:=ch_str hc pc mem;obtain⟨r,l,a,b,us,rfl,q1,q2,q3,q4,q5⟩:=(pp.same s2).ex;refine⟨r,_,rfl,SqT.of q1,rfl,_,_,rfl,_,_,rfl,_,_,rfl,rfl, ?_⟩;have lu:=Paired.length q5;refine⟨_,rfl,l,rfl,⟨us,SqL.of q4⟩,λk H3 n3 s3 e3=>?_⟩;refine vU (K:=K) (a:=l) (xs:=us) (λj ys H4=>Same H2 H4/\H4 k=some (.lst ys)/\ys=((pc.rs.take j).map λr=>decide (r.num<0)).map V.bl) (Nat.lt_of_le_of_lt (show us.length<=24 by have:=bp.rs.1;omega) (by decide)) ⟨s3,e3,rfl⟩ (λj ys H4 h4=>⟨SqL.of (h4.1 _ _ q4),h4.2.1⟩) ?_ ?_
   ·rintro j m ys x' H4 hx' hm hy' ⟨s4,e4,rfl⟩;obtain⟨rr,hr',z,rfl,at'⟩:=jY q5 hx';refine⟨z,_,rfl,SqT.of (s4 _ _ at'),rfl,_,_,rfl,_,_,rfl,rfl,keep2,_,rfl,_,_,rfl,rfl, ?_⟩;refine kZ hx' hm hy' e4 ⟨kF s4 n3,jK, ?_⟩;rw[List.take_succ,hr',List.map_append,List.map_append]
    rfl
   ·rintro ys H4 hy' ⟨s4,e4,rfl⟩;rw[lu,List.take_length]at e4;refine⟨k,_,rfl,SqL.of e4,_,rfl, ?_⟩;rw[ng_map];have s04:=s2.trans s4;by_cases hn:ngB pc.rs=true
    ·refine iteP hn (iteT ?_);have:=go2 H4 s04;rw[all_not (f:=rgB c n) hp (by unfold rgB;rw[hn];rfl)]at this;exact this
    refine iteN (Bool.eq_false_iff.mpr hn) ?_;refine⟨_,rfl,_,rfl,_,rfl,_,rfl,p,l,a,b,us,c,pc.lo,pc.hi,n,pc.rs,rfl,hS.same s04,sm,dg,q2.same s4,q3.same s4,es_ok bp.lo bp.hi st,s4 _ _ q4,Paired.mono (λ_ _ y=>NumT.same y s4) q5,bp.rs,λH5 s5=>⟨_,rfl, ?_⟩⟩;by_cases hd:pc.rs=qG (cL c n) pc.lo pc.hi
    ·rw[decide_eq_true hd];refine iteF (.mk (s04.trans s5) (all_snoc hp a2 ?_));unfold rgB;rw[Bool.eq_false_iff.mpr hn,decide_eq_true hd]
     rfl
    ·rw[decide_eq_false hd];refine iteT ?_;have:=go2 H5 (s04.trans s5);rw[all_not (f:=rgB c n) hp (by unfold rgB;rw[decide_eq_false hd,Bool.and_false])]at this;exact this
  ·obtain⟨s2,a2⟩:=h;rw[lx,List.take_length]at a2;have:=go2 H2 s2;rw[a2]at this;exact this
end
end Lw
namespace Lw
open PySem PySem.Spec PyProof.Rows L2 LwQ
noncomputable def pcD(p:Pc):PyData:=.tuple [endD p.lo,endD p.hi,.list (p.rs.map ndD)]
theorem PcP.dec{H:Hp}{v:V}{p:Pc}(h:PcP H v p):DecV H v (pcD p):=by
 obtain⟨r,l,x,y,xs,rfl,e1,e2,e3,e4,e5⟩:=h.ex;exact .tup e1 (.cons e2.dec (.cons e3.dec (.cons (.lst e4 (yH (D:=ndD) (λ_ _ k=>NumT.dec k) e5)) .nil)))
theorem end_dep(o:Option Rat):(endD o).depth<=1:=by
 cases o with
 | none=>exact Nat.zero_le _
 | some r=>exact Nat.le_refl _
theorem nds_ok(rs:List Rat):(PyData.list (rs.map ndD)).canLay0=true/\(PyData.list (rs.map ndD)).depth<=2:=by
 refine⟨(list_ok (k:=1) (λa=>⟨(nd_ok a).1,Nat.le_refl _⟩) (by decide) rs).1, ?_⟩;have:PyData.depthAll (rs.map ndD)<=1:=by
  induction rs with
  | nil=>exact Nat.zero_le _
  | cons a as ih=>exact Nat.max_le.mpr ⟨Nat.le_refl _,ih⟩
 show PyData.depthAll (rs.map ndD)+1<=2;omega
theorem pc_lay(p:Pc):(pcD p).canLay0=true/\(pcD p).depth<=3:=by
 have a:=nds_ok p.rs;constructor
 ·show((endD p.lo).canLay0&&((endD p.hi).canLay0&&((PyData.list (p.rs.map ndD)).canLay0&&true)))=true;rw[(xN p.lo).1,(xN p.hi).1,a.1]
  rfl
 ·show max (endD p.lo).depth (max (endD p.hi).depth (max (PyData.list (p.rs.map ndD)).depth 0))+1<=3;have h1:=end_dep p.lo;have h2:=end_dep p.hi;have h3:=a.2;omega
theorem hG(L:List Pc):DataOk (.list (L.map pcD)):=list_ok (k:=3) pc_lay (by decide) L
theorem pcs_nil:∀L:List Pc,PyData.eqv (.list (L.map pcD)) (.list [])=L.isEmpty
 | []=>rfl
 | _::_=>rfl
noncomputable def spLPcs:Sp:=λvs H Q _=>∃(d ls:Addr) (x y:V) (c:Nat->Rat) (n:Nat) (lo hi:Option Rat) (xs:List V) (L:List Pc),vs=[.ref d,x,y,.ref ls]/\FrzP H d c (λ_=>1500)/\Sm c/\IsDeg c n/\EndT H x lo/\EndT H y hi/\H ls=some (.lst xs)/\Paired (PcP H) xs L/\L.length<=20/\(∀p∈L,PcB p)/\∀H',Same H H'->Q (.bl (okB c n lo hi L)) H'
noncomputable def gB(c:Nat->Rat)(n:Nat)(hi e:Option Rat)(r:List Pc):Bool:=if r.isEmpty then decide (e=hi)else chR hi e r&&r.all (rgB c n)
inductive LpI(H:Hp)(d ls:Addr)(x y:V)(c:Nat->Rat)(n:Nat)(hi:Option Rat)(L:List Pc)(R:Bool)(i:Nat):L2.St->Hp->Prop where
 | mk {ve:V} {e:Option Rat} {u5 u6 u7 u8:Option V} {H':Hp} (s:Same H H') (he:EndT H' ve e) (b:R=gB c n hi e (L.drop i)) (z:0<i->i<L.length->e.isSome=true):LpI H d ls x y c n hi L R i [some (.ref d),some x,some y,some (.ref ls),some ve,u5,u6,u7,u8] H'
theorem gB_step{c:Nat->Rat}{n:Nat}{hi e:Option Rat}{p:Pc}{r:List Pc} :gB c n hi e (p::r)=(decide (p.lo=e)&&((r.isEmpty||p.hi.isSome)&&(strB p.lo p.hi&&(rgB c n p&&gB c n hi p.hi r)))):=by
 unfold gB;rw[if_neg (by simp)]
 conv=>lhs;unfold chR
 rw[List.all_cons];cases r with
 | nil=>
  simp only[List.isEmpty_nil,if_true,List.all_nil,Bool.and_true,Bool.true_or,Bool.true_and];generalize decide (p.lo=e)=a;generalize decide (p.hi=hi)=b;generalize strB p.lo p.hi=k;generalize rgB c n p=g;cases a<;>cases b<;>cases k<;>cases g<;>rfl
 | cons q r=>
  rw[show(q::r).isEmpty=false from rfl,if_neg Bool.false_ne_true,if_neg Bool.false_ne_true,Bool.false_or];generalize decide (p.lo=e)=a;generalize p.hi.isSome=b;generalize strB p.lo p.hi=k;generalize rgB c n p=g;generalize chR hi p.hi (q::r)=m;generalize (q::r).all (rgB c n)=o;cases a<;>cases b<;>cases k<;>cases g<;>cases m<;>cases o<;>rfl
theorem drop_of{α:Type}{L:List α}{i:Nat}{p:α}(h:L[i]? = some p):L.drop i=p::L.drop (i+1):=by
 obtain⟨hi,e⟩:=List.getElem?_eq_some_iff.mp h;rw[<-e,List.drop_eq_getElem_cons hi]
theorem ng_min{rs:List Rat}{m:Int}(h1:m∈rs.map Rat.num)(h2:∀x∈rs.map Rat.num,m<=x):decide (m<0)=ngB rs:=by
 unfold ngB;by_cases h:m<0
 ·rw[decide_eq_true h];obtain⟨r,hr,rfl⟩:=List.mem_map.mp h1;exact(List.any_eq_true.mpr ⟨r,hr,decide_eq_true h⟩).symm
 ·rw[decide_eq_false h];refine(Bool.eq_false_iff.mpr λz=>?_).symm;obtain⟨r,hr,k⟩:=List.any_eq_true.mp z;have:=h2 _ (List.mem_map_of_mem hr);have:=of_decide_eq_true k;omega
theorem und_lt(l h:Rat):decide (l.num*(h.den:Int)<h.num*(l.den:Int))=decide (l<h):=by
 have k:=Rat.lt_iff (a:=l) (b:=h);by_cases z:l.num*(h.den:Int)<h.num*(l.den:Int)
 ·rw[decide_eq_true z,decide_eq_true (k.mpr z)]
 ·rw[decide_eq_false z,decide_eq_false (λy=>z (k.mp y))]
end Lw
namespace Lw
open PySem PySem.Spec PyProof.Rows L2 LwQ
section
variable{P:Program}{w:World}{K:PySem.W.Frag}{mg:Str->Option Value}{base:Heap}{f fd:_}
theorem scLPcs:FnScope ["one","low","high","some","end","at","begin","finish","told"] ["one","low","high","some"] (jO wF):=⟨rfl,rfl,rfl,by decide +kernel,rfl,by decide +kernel,by decide +kernel⟩
theorem ok_lpcs{fU fN:Addr}{fdU fdN:FuncData}(F:Fun K "_law_pieces" "_law_pieces" wF f fd)(T:Txt mg)(DU:Df K mg "_law_under" gM ["one","other"] fU fdU)(GU:FnOk P w K mg base CX0 1 fU fdU ["one","other"] (spUnder K))(DN:Df K mg "_law_numbers" gS ["one","low","high","told"] fN fdN)(GN:FnOk P w K mg base CX0 3 fN fdN ["one","low","high","told"] spLNums):FnOk P w K mg base CX0 4 f fd ["one","low","high","some"] spLPcs:=by
 refine F.ok scLPcs (λvs H Q E h=>?_) (λcdv A outer s H vs Q E hr h=>?_)
 ·obtain⟨d,ls,x,y,c,n,lo,hi,xs,L,rfl,_⟩:=h
  rfl
 ·obtain⟨d,ls,x,y,c,n,lo,hi,xs,L,rfl,hD,sm,dg,hx,hy,hl,pr,l20,ok,go⟩:=h;have hr1:Room 1 _:=hr.mono (by decide);refine⟨_,jB (jX (PW.pt (xW (vN (qM (yB uW T.isi T.lst boot_list (pv 3)))) (vY (jR (op_eqD hr.units) (pv 3) (kR jC) (jS _))))) (jF (jN vF)) jP)
   (jB (jI (i:=4) scLPcs.nd rfl (Or.inl rfl) (pv 1))
   (jB (kW PassesOwn.never rfl (gZ (by rfl) T.enum (jA (pv 3) jC)) (kU rfl (jM (jH (i:=5) scLPcs.nd rfl (Or.inl rfl)) (jM (kU rfl (jM (jH (i:=6) scLPcs.nd rfl (Or.inl rfl)) (jM (jH (i:=7) scLPcs.nd rfl (Or.inl rfl)) (jM (jH (i:=8) scLPcs.nd rfl (Or.inl rfl)) kG)))) kG)))
    (jB (jX (PW.pt (xW (jR (op_neD hr.units) (pv 6) (pv 4) (jS _)) (vY (PW.pt (qV (jR wM (pv 5) jD (jS _)) (qT (qF (xU (pv 6))))))))) (jF (jN vF)) jP)
    (jB (jX (PW.pt (qV (qF (xU (pv 7))) (qT (jR xZ (pv 5) (jJ qB (kA kD (by rfl) T.len PySem.boot_len (jA (pv 3) jC)) jD) (jS _))))) (jF (jN vF)) jP)
    (jB (jX (PW.pt (qV (qF (xU (pv 6))) (qT (qF (xU (pv 7)))))) (jF (jN vF)) jP)
    (jB (jX (PW.pt (qV (qF (vJ (pv 6))) (qT (qF (vJ (pv 7)))))) (jF (jX (vN (qM (jG GU hr1 rfl DU.m DU.F.kp DU.b .nil jL (jA (pv 6) (jA (pv 7) jC))))) (jF (jN vF)) jP)) jP)
    (jB (jX (vN (qM (jG GN hr rfl DN.m DN.F.kp DN.b .nil jL (jA (pv 0) (jA (pv 6) (jA (pv 7) (jA (pv 8) jC))))))) (jF (jN vF)) jP)
    (jB (jX (jR xZ (kA (call_min1 rfl) (by rfl) T.min boot_min (jA
     (vG (own:=1) (idx:=[]) (N:=["number"]) rfl rfl rfl (by decide +kernel) (by decide +kernel) (λ_ _ h=>nomatch h) (vS rfl) rfl (λ_ _ _ h=>nomatch h) (vC (pv 8))
      (λC fp s2 H2=>jH (i:=0) (show List.Nodup (["number"]:List Str) by decide +kernel) rfl (Or.inl rfl) (Or.inr rfl)) (λC fp s2 H2=>jT (show IxR (kC _ ["number"] _ _ C fp s2 H2) (rIxT K)from jU) (pv 0) jD (λ_ _=>rfl))) jC)) jD (jS _)) (jF (jN vF)) jP)
    (jF (jI (i:=4) scLPcs.nd rfl (Or.inl rfl) (pv 7))))))))))
   (jF (jN (vD (op_eqD hr.units) (pv 4) (pv 2) (jS _)))))), ?_⟩
  try dsimp only
  have lx:=Paired.length pr;refine⟨_,rfl,rfl,.lst,.lst hl,_,rfl,iteF ?_⟩;refine⟨_,rfl,(by show 0<=sizeLine;decide),λl1 H1 n1 s1 e1=>⟨_,_,.lst (s1 _ _ hl) (yH (D:=pcD) (λ_ _ k=>(PcP.same k s1).dec) pr),.lst e1 .nil,hG _,hG [],_,rfl, ?_⟩⟩;rw[pcs_nil];by_cases hL:L=[]
  ·subst hL;exact iteT (go H1 s1)
  have hLe:L.isEmpty=false:=by simpa using hL
  refine iteN hLe ?_;refine⟨_,rfl,_,rfl,ls,rfl,⟨xs,SqL.of (s1 _ _ hl)⟩, ?_⟩;have hR:okB c n lo hi L=gB c n hi lo (L.drop 0):=by
   unfold gB okB;rw[List.drop_zero,if_neg (by rw[hLe];exact Bool.false_ne_true)]
  generalize okB c n lo hi L=R at *;refine nN (K:=K) (a:=ls) (xs:=xs) (LpI H d ls x y c n hi L R) (.mk s1 (hx.same s1) hR (λh _=>absurd h (by decide))) (λi σ H2 _ h=>?_) (λi v pt σ H2 hv npt h=>?_) (fun σ H2 h=>?_)
  ·obtain⟨s2,_,_,_⟩:=h;exact SqL.of (s2 _ _ hl)
  ·obtain⟨s2,he,hb,hz⟩:=h;rename_i ve e u5 u6 u7 u8;obtain⟨pc,hp,pp⟩:=jY pr hv;have mem:=List.mem_of_getElem? hp;have bp:=ok pc mem;have hi':i<L.length:=(List.getElem?_eq_some_iff.mp hp).1;have s23:Same H2 (upd H2 pt (.tup [.int i,v])):=kH _ npt;have e3:(upd H2 pt (.tup [.int i,v])) pt=some (.tup [.int i,v]):=jK;generalize upd H2 pt (.tup [.int i,v])=H3 at s23 e3;have s3:=s2.trans s23;have he3:=he.same s23;obtain⟨r,l,a,b,us,rfl,q1,q2,q3,q4,q5⟩:=(pp.same s3).ex;have lu:=Paired.length q5;rw[drop_of hp,gB_step]at hb;have emp:(L.drop (i+1)).isEmpty=decide (L.length<=i+1):=by
    by_cases h:L.length<=i+1
    ·rw[decide_eq_true h,List.drop_eq_nil_of_le h]
     rfl
    ·rw[decide_eq_false h];cases hd:L.drop (i+1)with
     | nil=>exact absurd (List.drop_eq_nil_iff.mp hd) h
     | cons _ _=>rfl
   have goF:R=false->Q (.bl false) H3:=λh=>by rw[<-h];exact go H3 s3
   refine⟨pt,_,rfl,SqT.of e3,rfl,_,_,rfl,_,_,rfl,⟨r,_,rfl,SqT.of q1,rfl,_,_,rfl,_,_,rfl,_,_,rfl,rfl,rfl, ?_⟩⟩;dsimp only;have isn:∀(z:V) (o:Option Rat),EndT H3 z o->decide (z=.non)=o.isNone:=λz o h=>by
    cases o with
    | none=>rw[show z=.non from h];rfl
    | some q=>obtain⟨_,rfl,_⟩:=h;rfl
   refine kK (t:=tIfS _ _ _) (fun σ' H'=>(σ'=[some (.ref d),some x,some y,some (.ref ls),some ve,some (.int i),some a,some b,some (.ref l)]/\H'=H3)/\pc.lo=e) ?_ (λgo2=>?_)
   rotate_left
   ·refine⟨_,rfl,_,rfl,_,_,q2.dec,he3.dec,xN _,xN _,_,rfl, ?_⟩;rw[zM];by_cases h1:pc.lo=e
    case neg=>
     rw[decide_eq_false h1]at hb;exact iteP (by rw[decide_eq_false h1];rfl) (iteT (goF hb))
    refine iteN (by rw[decide_eq_true h1];rfl) ?_;refine⟨_,rfl,_,_,rfl,rfl,_,rfl, ?_⟩;refine ite2 (λg=>?_) (λg=>iteF (go2 _ _ ⟨⟨rfl,rfl⟩,h1⟩));have i0:0<i:=by have:=of_decide_eq_true g;omega
    refine⟨_,rfl,_,rfl,iteN ?_ (go2 _ _ ⟨⟨rfl,rfl⟩,h1⟩)⟩;rw[isn _ _ q2,h1];have:=hz i0 hi';cases e with
    | none=>cases this
    | some _=>rfl
   rintro σ' H' ⟨⟨rfl,rfl⟩,h1⟩;rw[decide_eq_true h1,Bool.true_and]at hb;refine kK (t:=tIfS _ _ _) (fun σ' H''=>(σ'=[some (.ref d),some x,some y,some (.ref ls),some ve,some (.int i),some a,some b,some (.ref l)]/\H''=H')/\((L.drop (i+1)).isEmpty||pc.hi.isSome)=true) ?_ (λgo2=>?_)
   rotate_left
   ·refine⟨_,rfl,_,rfl, ?_⟩;rw[isn _ _ q3];refine ite2 (λg=>?_) (λg=>iteF (go2 _ _ ⟨⟨rfl,rfl⟩, ?_⟩))
    ·refine⟨_,rfl,_,rfl,ls,xs,rfl,.inl (SqL.of (s3 _ _ hl)),_,_,rfl,rfl,_,_,rfl,rfl,_,rfl, ?_⟩;refine ite2 (λk=>?_) (λk=>go2 _ _ ⟨⟨rfl,rfl⟩, ?_⟩)
     ·have k':(i:Int)<(xs.length:Int)-1:=of_decide_eq_true k;have g1:pc.hi.isSome=false:=by
       cases h:pc.hi with
       | none=>rfl
       | some _=>rw[h]at g;cases g
      rw[emp,decide_eq_false (by omega),g1]at hb;exact goF hb
     ·have k':¬(i:Int)<(xs.length:Int)-1:=λz=>k (decide_eq_true z);rw[emp,decide_eq_true (by omega)]
      rfl
    ·cases h:pc.hi with
     | none=>rw[h]at g;exact absurd rfl g
     | some _=>exact Bool.or_true _
   rintro σ' H'' ⟨⟨rfl,rfl⟩,h2⟩;rw[h2,Bool.true_and]at hb;refine kK (t:=tIfS _ _ _) (fun σ' H'=>(σ'=[some (.ref d),some x,some y,some (.ref ls),some ve,some (.int i),some a,some b,some (.ref l)]/\H'=H'')/\¬(pc.lo=none/\pc.hi=none)) ?_ (λgo2=>?_)
   rotate_left
   ·refine⟨_,rfl,_,rfl, ?_⟩;rw[isn _ _ q2];refine ite2 (λg=>?_) (λg=>iteF (go2 _ _ ⟨⟨rfl,rfl⟩,λz=>g (by rw[z.1];rfl)⟩));refine⟨_,rfl,_,rfl, ?_⟩;rw[isn _ _ q3];refine ite2 (λk=>?_) (λk=>go2 _ _ ⟨⟨rfl,rfl⟩,λz=>k (by rw[z.2];rfl)⟩);have g1:pc.lo=none:=by
     cases h:pc.lo with
     | none=>rfl
     | some _=>rw[h]at g;cases g
    have g2:pc.hi=none:=by
     cases h:pc.hi with
     | none=>rfl
     | some _=>rw[h]at k;cases k
    refine goF ?_;rw[hb,g1,g2]
    rfl
   rintro σ' H' ⟨⟨rfl,rfl⟩,h3⟩;refine kK (t:=tIfS _ _ _) (fun σ' H''=>(σ'=[some (.ref d),some x,some y,some (.ref ls),some ve,some (.int i),some a,some b,some (.ref l)]/\H''=H')/\strB pc.lo pc.hi=true) ?_ (λgo2=>?_)
   rotate_left
   ·refine⟨_,rfl,_,rfl, ?_⟩;rw[isn _ _ q2];cases hlo:pc.lo with
    | none=>
     refine iteF (iteF (go2 _ _ ⟨⟨rfl,rfl⟩, ?_⟩));rw[hlo];cases hhi:pc.hi with
     | none=>exact absurd ⟨hlo,hhi⟩ h3
     | some _=>rfl
    | some lq=>
     refine iteT ⟨_,rfl,_,rfl, ?_⟩;rw[isn _ _ q3];cases hhi:pc.hi with
     | none=>
      refine iteF (go2 _ _ ⟨⟨rfl,rfl⟩, ?_⟩);rw[hlo,hhi]
      rfl
     | some hq=>
      rw[hlo]at q2;rw[hhi]at q3;obtain⟨a',rfl,qa⟩:=q2;obtain⟨b',rfl,qb⟩:=q3;have f1:=(bp.lo lq hlo).fits;have f2:=(bp.hi hq hhi).fits;refine iteT ⟨_,rfl,_,rfl,a',b',lq.num,lq.den,hq.num,hq.den,rfl,SqT.of qa,SqT.of qb,f1.1,f1.2,f2.1,f2.2,_,rfl, ?_⟩;rw[und_lt];by_cases lt:lq<hq
      ·rw[decide_eq_true lt];refine iteF (go2 _ _ ⟨⟨rfl,rfl⟩, ?_⟩);rw[hlo,hhi];exact decide_eq_true lt
      ·rw[decide_eq_false lt];refine iteT (goF ?_);rw[hb,hlo,hhi,show strB (some lq) (some hq)=false from decide_eq_false lt]
       rfl
   rintro σ' H'' ⟨⟨rfl,rfl⟩,h4⟩;rw[h4,Bool.true_and]at hb;refine⟨_,rfl,_,rfl,_,rfl,_,rfl,d,l,a,b,us,c,pc.lo,pc.hi,n,pc.rs,rfl,hD.same s3,sm,dg,q2,q3,es_ok bp.lo bp.hi h4,q4,q5,bp.rs,λH4 s4=>⟨_,rfl, ?_⟩⟩;have goG:∀{H'},Same H'' H'->R=false->Q (.bl false) H':=λs' h=>by rw[<-h];exact go _ (s3.trans s')
   by_cases hd:pc.rs=qG (cL c n) pc.lo pc.hi
   case neg=>
    rw[decide_eq_false hd];refine iteT (goG s4 ?_);rw[hb,show rgB c n pc=false by unfold rgB;rw[decide_eq_false hd,Bool.and_false]]
    rfl
   rw[decide_eq_true hd];refine iteF ?_;refine⟨_,rfl,l,rfl,⟨us,SqL.of (s4 _ _ q4)⟩,λk H5 n5 s5 e5=>?_⟩;refine vU (K:=K) (a:=l) (xs:=us) (λj ys H6=>Same H4 H6/\H6 k=some (.lst ys)/\ys=((pc.rs.take j).map Rat.num).map V.int) (Nat.lt_of_le_of_lt (show us.length<=24 by have:=bp.rs.1;omega) (by decide)) ⟨s5,e5,rfl⟩ (λj ys H6 h6=>⟨SqL.of (h6.1 _ _ (s4 _ _ q4)),h6.2.1⟩) ?_ ?_
   ·rintro j m ys x' H6 hx' hm hy' ⟨s6,e6,rfl⟩;obtain⟨rr,hr',z,rfl,at'⟩:=jY q5 hx';refine⟨nJ,_,rfl,z,_,0,_,rfl,rfl,SqT.of (s6 _ _ (s4 _ _ at')),rfl, ?_⟩;refine kZ hx' hm hy' e6 ⟨kF s6 n5,jK, ?_⟩;rw[List.take_succ,hr',List.map_append,List.map_append]
    rfl
   ·rintro ys H6 hy' ⟨s6,e6,rfl⟩;rw[lu,List.take_length]at e6;have s46:=s4.trans s6;have ln:=xJ sm (yG sm dg) (es_ok bp.lo bp.hi h4) (c:=c) (n:=n);refine⟨k,pc.rs.map Rat.num,rfl,e6, ?_,λm m1 m2=>⟨_,_,rfl,rfl,_,rfl, ?_⟩⟩
    ·intro z;have:=congrArg List.length z;rw[List.length_map,hd,ln]at this;cases this
    rw[ng_min m1 m2];by_cases hn:ngB pc.rs=true
    ·refine iteP hn (goG s46 ?_);rw[hb,show rgB c n pc=false by unfold rgB;rw[hn];rfl]
     rfl
    refine iteN (Bool.eq_false_iff.mpr hn) ?_;rw[show rgB c n pc=true by unfold rgB;rw[Bool.eq_false_iff.mpr hn,decide_eq_true hd];rfl,Bool.true_and]at hb;refine⟨_,rfl,.mk (s3.trans s46) (q3.same s46) hb λ_ h=>?_⟩;rw[emp,decide_eq_false (by omega),Bool.false_or]at h2;exact h2
  ·obtain⟨s2,he,hb,hz⟩:=h;rw[lx,List.drop_length]at hb;have hb':R=decide (_=hi):=hb;refine⟨_,rfl,_,rfl,_,_,he.dec,(hy.same s2).dec,xN _,xN _, ?_⟩;rw[zM,<-hb'];exact go H2 s2
end
end Lw
namespace Lw
open PySem PySem.Spec PyProof.Rows L2 LwQ
noncomputable def nic:Nat->PyData->Bool
 | _,.none=>true
 | _,.int _=>true
 | n+1,.list ds=>decide (ds.length<=24)&&ds.all (nic n)
 | n+1,.tuple ds=>decide (ds.length<=24)&&ds.all (nic n)
 | _,_=>false
noncomputable def hid(S:List Addr)(H:Hp):Hp:=λa=>if a∈S then none else H a
theorem zK{S:List Addr}{H:Hp}{a:Addr}{o:HO}(h:hid S H a=some o):a∉S/\H a=some o:=by
 unfold hid at h;split at h
 ·cases h
 ·exact⟨by assumption,h⟩
theorem uH{S:List Addr}{H:Hp}{a:Addr}{o:HO}(n:a∉S)(h:H a=some o):hid S H a=some o:=by
 unfold hid;rw[if_neg n];exact h
theorem hid_same{S:List Addr}{H H':Hp}(s:Same H H'):Same (hid S H) (hid S H'):=λa o h=>by
 obtain⟨n,e⟩:=zK h;exact uH n (s _ _ e)
theorem hid_more{S:List Addr}{H H':Hp}{k:Addr}(s:Same H H')(n:H k=none):Same (hid S H) (hid (k::S) H'):=λa o h=>by
 obtain⟨m,e⟩:=zK h;refine uH (λz=>?_) (s _ _ e);rcases List.mem_cons.mp z with rfl | z
 ·rw[n]at e;cases e
 ·exact m z
theorem hid_less{S:List Addr}{H:Hp}{k:Addr} :Same (hid (k::S) H) (hid S H):=λa o h=>by
 obtain⟨m,e⟩:=zK h;exact uH (λz=>m (List.mem_cons_of_mem _ z)) e
theorem hid_upd{S:List Addr}{H:Hp}{k:Addr}{o:HO} :hid (k::S) (upd H k o)=hid (k::S) H:=by
 funext a
 unfold hid;by_cases h:a∈k::S
 ·rw[if_pos h,if_pos h]
 ·rw[if_neg h,if_neg h,jQ (λz=>h (by rw[z];exact List.mem_cons_self ..))]
mutual
theorem DecV.same{H H':Hp}(s:Same H H'):∀{x:V} {d:PyData},DecV H x d->DecV H' x d
 | _,_,.non=>.non
 | _,_,.bl b=>.bl b
 | _,_,.int i=>.int i
 | _,_,.str x=>.str x
 | _,_,.lst e h=>.lst (s _ _ e) (DecVs.same s h)
 | _,_,.tup e h=>.tup (s _ _ e) (DecVs.same s h)
theorem DecVs.same{H H':Hp}(s:Same H H'):∀{xs:List V} {ds:List PyData},DecVs H xs ds->DecVs H' xs ds
 | _,_,.nil=>.nil
 | _,_,.cons h t=>.cons (DecV.same s h) (DecVs.same s t)
end
theorem decs_get{H:Hp} :∀{xs:List V} {ds:List PyData} {i:Nat} {x:V},DecVs H xs ds->xs[i]? = some x->∃d,ds[i]? = some d/\DecV H x d
 | _,_,i,_,.nil,h=>by simp at h
 | _,_,0,_,.cons k t,h=>by cases (Option.some.inj h);exact⟨_,rfl,k⟩
 | _,_,i+1,_,.cons k t,h=>decs_get (i:=i) t (by simpa using h)
theorem mJ{H:Hp} :∀{xs:List V} {ds:List PyData},DecVs H xs ds->xs.length=ds.length
 | _,_,.nil=>rfl
 | _,_,.cons _ t=>by rw[List.length_cons,List.length_cons,mJ t]
theorem nQ{H:Hp}{x:V}{d:PyData}(h:DecV H x d):∀{xs:List V} {ds:List PyData},DecVs H xs ds->DecVs H (xs++[x]) (ds++[d])
 | _,_,.nil=>.cons h .nil
 | _,_,.cons k t=>.cons k (nQ h t)
noncomputable def spCop(n:Nat):Sp:=λvs H Q _=>∃(v:V) (d:PyData) (S:List Addr),vs=[v]/\(∀a∈S,H a≠none)/\DecV (hid S H) v d/\nic n d=true/\∀(v':V) (H':Hp),Same H H'->DecV (hid S H') v' d->Q v' H'
theorem nic_each{n:Nat}{ds:List PyData}{i:Nat}{d:PyData}(h:ds.all (nic n)=true)(hd:ds[i]? = some d):nic n d=true:=List.all_eq_true.mp h d (List.mem_of_getElem? hd)
section
variable{P:Program}{w:World}{K:PySem.W.Frag}{mg:Str->Option Value}{base:Heap}{f fd:_}
theorem scCop:FnScope ["thing"] ["thing"] (jO wI):=⟨rfl,rfl,rfl,by decide +kernel,rfl,by decide +kernel,by decide +kernel⟩
theorem dCop{n:Nat}{H H1:Hp}{S:List Addr}{xs:List V}{ds:List PyData}{J:It}{Q:VK}{k:Addr}{H2:Hp}(hS:∀a∈S,H a≠none)(ex:DecVs (hid S H) xs ds)(s1:Same H H1)(nn:ds.all (nic n)=true)(l24:ds.length<=24)(hgo:∀i H3,Same H1 H3->i<xs.length->J.go i H3/\∀x H4,J.yld i H3 x H4->H4=H3/\xs[i]? = some x)(hst:∀H3,Same H1 H3->J.stop xs.length H3)
  (nk:H1 k=none) (s2:Same H1 H2) (e2:H2 k=some (.lst [])) (q:∀(ys:List V) (H3:Hp),Same H1 H3->H3 k=some (.lst ys)->DecVs (hid (k::S) H3) ys ds->Q (.ref k) H3) :
  CompGoF [none] J (kN 0) (zX (spCop n) [] E0 (kT (tVar 0) tNil)) Q k H2:=by
 have lx:=mJ ex;have nk0:H k=none:=s1.free nk;refine comp_by (xs:=xs) (λi ys H3=>Same H1 H3/\H3 k=some (.lst ys)/\DecVs (hid (k::S) H3) ys (ds.take i)) (Nat.lt_of_le_of_lt (show xs.length<=24 by omega) (by decide)) ⟨s2,e2,.nil⟩ (λi ys H3 h hi=>hgo i H3 h.1 hi) (λys H3 h=>hst H3 h.1) (λi ys H3 h=>h.2.1) ?_ ?_
 ·rintro i m ys x H3 hx hm hy ⟨s3,e3,d3⟩;obtain⟨d,hd,dx⟩:=decs_get ex hx;have s03:=s1.trans s3;refine⟨nJ,_,rfl,x,d,k::S,rfl,λa ha=>?_,dx.same (hid_more s03 nk0),nic_each nn hd,λv' H4 s4 dv=>?_⟩
  ·rcases List.mem_cons.mp ha with rfl | ha
   ·rw[e3];exact λz=>nomatch z
   ·intro z;cases e:H a with
    | none=>exact hS a ha e
    | some o=>rw[s03 _ _ e]at z;cases z
  ·refine kZ hx hm hy (s4 _ _ e3) ⟨kF (s3.trans s4) nk,jK, ?_⟩;rw[hid_upd,List.take_succ,hd];exact nQ dv (d3.same (hid_same s4))
 ·rintro ys H3 hy ⟨s3,e3,d3⟩;rw[lx,List.take_length]at d3;exact q ys H3 s3 e3 d3
end
end Lw
namespace Lw
open PySem PySem.Spec PyProof.Rows L2 LwQ
section
variable{P:Program}{w:World}{K:PySem.W.Frag}{mg:Str->Option Value}{base:Heap}{f fd:_}
theorem ok_cop(D:Df K mg "_law_copied" wI ["thing"] f fd)(T:Txt mg):∀n:Nat,FnOk P w K mg base CX0 (n+1) f fd ["thing"] (spCop n)
 | 0=>by
  refine D.F.ok scCop (λvs H Q E h=>?_) (λcdv A outer s H vs Q E hr h=>?_)
  ·obtain⟨v,d,S,rfl,_⟩:=h
   rfl
  ·obtain⟨v,d,S,rfl,hS,dv,nd,go⟩:=h;refine⟨_,jB (jX (qM (yB uW T.isi T.lst boot_list (pv 0))) uE jP) (jB (jX (qM (yB isi_tup T.isi T.tup boot_tuple (pv 0))) uE jP) (jF (jN (pv 0)))), ?_⟩;cases dv with
   | non=>exact⟨_,rfl,rfl,.non,.non,_,rfl,iteF ⟨_,rfl,rfl,.non,.non,_,rfl,iteF ⟨_,rfl,go _ H (Same.refl _) .non⟩⟩⟩
   | int i=>exact⟨_,rfl,rfl,.int,.int i,_,rfl,iteF ⟨_,rfl,rfl,.int,.int i,_,rfl,iteF ⟨_,rfl,go _ H (Same.refl _) (.int i)⟩⟩⟩
   | bl b=>cases nd
   | str x=>cases nd
   | lst e h=>cases nd
   | tup e h=>cases nd
 | n+1=>by
  have G:FnOk P w K mg base CX0 (n+1) f fd ["thing"] (spCop n):=ok_cop D T n;refine D.F.ok scCop (λvs H Q E h=>?_) (λcdv A outer s H vs Q E hr h=>?_)
  ·obtain⟨v,d,S,rfl,_⟩:=h
   rfl
  ·obtain⟨v,d,S,rfl,hS,dv,nd,go⟩:=h;refine⟨_,jB (jX (qM (yB uW T.isi T.lst boot_list (pv 0))) (jF (jN (vG (own:=1) (idx:=[]) (N:=["one"]) rfl rfl rfl (by decide +kernel) (by decide +kernel) (λ_ _ h=>nomatch h) (vS rfl) rfl (λ_ _ _ h=>nomatch h) (vC (pv 0)) (λC fp s2 H2=>jH (i:=0) (show List.Nodup (["one"]:List Str) by decide +kernel) rfl (Or.inl rfl) (Or.inr rfl)) (λC fp s2 H2=>jG G hr rfl D.m D.F.kp D.b .nil jL (jA (pv 0) jC))))) jP)
    (jB (jX (qM (yB isi_tup T.isi T.tup boot_tuple (pv 0))) (jF (jN (vL zQ (by rfl) T.tup boot_tuple (jA (vG (own:=1) (idx:=[]) (N:=["one"]) rfl rfl rfl (by decide +kernel) (by decide +kernel) (λ_ _ h=>nomatch h) (vS rfl) rfl (λ_ _ _ h=>nomatch h) (pi_tup (pv 0)) (λC fp s2 H2=>jH (i:=0) (show List.Nodup (["one"]:List Str) by decide +kernel) rfl (Or.inl rfl) (Or.inr rfl)) (λC fp s2 H2=>jG G hr rfl D.m D.F.kp D.b .nil jL (jA (pv 0) jC))) jC)))) jP)
    (jF (jN (pv 0)))), ?_⟩
   try dsimp only
   cases dv with
   | non=>exact⟨_,rfl,rfl,.non,.non,_,rfl,iteF ⟨_,rfl,rfl,.non,.non,_,rfl,iteF ⟨_,rfl,go _ H (Same.refl _) .non⟩⟩⟩
   | int i=>exact⟨_,rfl,rfl,.int,.int i,_,rfl,iteF ⟨_,rfl,rfl,.int,.int i,_,rfl,iteF ⟨_,rfl,go _ H (Same.refl _) (.int i)⟩⟩⟩
   | bl b=>cases nd
   | str x=>cases nd
   | lst e h=>
    rename_i a xs ds;have nd':(decide (ds.length<=24)&&ds.all (nic n))=true:=nd;rw[Bool.and_eq_true]at nd';have ea:=(zK e).2;refine⟨_,rfl,rfl,.lst,.lst ea,_,rfl,iteT ?_⟩;refine⟨_,rfl,a,rfl,⟨xs,SqL.of ea⟩,λk H2 nk s2 e2=>?_⟩;refine dCop (xs:=xs) (ds:=ds) hS h (Same.refl _) nd'.2 (of_decide_eq_true nd'.1) (λi H3 s3 hi=>⟨⟨xs,xs[i],SqL.of (s3 _ _ ea),by simp [hi]⟩,λx H4 y=>⟨y.1,y.2 xs (SqL.of (s3 _ _ ea))⟩⟩) (λH3 s3=>⟨xs,SqL.of (s3 _ _ ea),Nat.le_refl _⟩) nk s2 e2 λys H3 s3 e3 d3=>?_;have kS:k∉S:=λz=>hS k z nk;exact go _ H3 s3 (.lst (uH kS e3) (d3.same hid_less))
   | tup e h=>
    rename_i a xs ds;have nd':(decide (ds.length<=24)&&ds.all (nic n))=true:=nd;rw[Bool.and_eq_true]at nd';have ea:=(zK e).2;refine⟨_,rfl,rfl,.tup,.tup ea,_,rfl,iteF ⟨_,rfl,rfl,.tup,.tup ea,_,rfl,iteT ?_⟩⟩;refine⟨_,rfl,a,rfl,⟨xs,SqT.of ea⟩,λk H2 nk s2 e2=>?_⟩;refine dCop (xs:=xs) (ds:=ds) hS h (Same.refl _) nd'.2 (of_decide_eq_true nd'.1) (λi H3 s3 hi=>⟨⟨xs,xs[i],SqT.of (s3 _ _ ea),by simp [hi]⟩,λx H4 y=>⟨y.1,y.2 xs (SqT.of (s3 _ _ ea))⟩⟩) (λH3 s3=>⟨xs,SqT.of (s3 _ _ ea),Nat.le_refl _⟩) nk s2 e2 λys H3 s3 e3 d3=>?_;have ly:=mJ d3;refine⟨k,ys,rfl,.inl ⟨SqL.of e3,λl nl=>?_⟩⟩;have s34:Same H3 (upd H3 l (.tup ys)):=kH _ nl;have lS:l∉S:=λz=>by
     cases e':H l with
     | none=>exact hS l z e'
     | some o=>rw[s3 _ _ e']at nl;cases nl
    exact go _ _ (s3.trans s34) (.tup (uH lS jK) ((d3.same hid_less).same (hid_same s34)))
end
end Lw
namespace Lw
open PySem PySem.Spec PyProof.Rows L2 LwQ
theorem same_hid(H:Hp):Same H (hid [] H):=λa o h=>uH (λz=>nomatch z) h
theorem hid_nil(H:Hp):Same (hid [] H) H:=λa o h=>(zK h).2
theorem nic_end(n:Nat)(o:Option Rat):nic (n+1) (endD o)=true:=by
 cases o with
 | none=>rfl
 | some r=>cases n<;>rfl
theorem nic_pcs{L:List Pc}(h20:L.length<=20)(ok:∀p∈L,PcB p):nic 4 (.list (L.map pcD))=true:=by
 show(decide ((L.map pcD).length<=24)&&(L.map pcD).all (nic 3))=true;rw[List.length_map,decide_eq_true (by omega),Bool.true_and,List.all_eq_true];intro d hd;obtain⟨p,hp,rfl⟩:=List.mem_map.mp hd;have b:=(ok p hp).rs.1;show(decide (3<=24)&&(nic 2 (endD p.lo)&&(nic 2 (endD p.hi)&&(nic 2 (.list (p.rs.map ndD))&&true))))=true;rw[nic_end,nic_end];show(decide ((p.rs.map ndD).length<=24)&&(p.rs.map ndD).all (nic 1)&&true)=true;rw[List.length_map,decide_eq_true b,Bool.true_and,Bool.and_true,List.all_eq_true];intro e he;obtain⟨r,_,rfl⟩:=List.mem_map.mp he
 rfl
noncomputable def spTold:Sp:=λvs H Q _=>∃(d ls:Addr) (x y:V) (c:Nat->Rat) (n:Nat) (lo hi:Option Rat) (xs:List V) (L:List Pc),vs=[.ref d,x,y,.ref ls]/\FrzP H d c (λ_=>1500)/\Sm c/\IsDeg c n/\EndT H x lo/\EndT H y hi/\H ls=some (.lst xs)/\Paired (PcP H) xs L/\L.length<=20/\(∀p∈L,PcB p)/\∀H',Same H H'->Q (.bl true) H'
section
variable{P:Program}{w:World}{K:PySem.W.Frag}{mg:Str->Option Value}{base:Heap}{f fd:_}
theorem scTold:FnScope ["one","low","high","some","seen","found"] ["one","low","high","some"] (jO sTold):=⟨rfl,rfl,rfl,by decide +kernel,rfl,by decide +kernel,by decide +kernel⟩
theorem ok_told{fC fM fA fP:Addr}{fdC fdM fdA fdP:FuncData}(F:Fun K "_law_told" "_law_told" sTold f fd)(T:Txt mg)(DC:Df K mg "_law_copied" wI ["thing"] fC fdC)(DM:Df K mg "_law_sum" gR ["many","one"] fM fdM)(GM:FnOk P w K mg base CX0 2 fM fdM ["many","one"] spLSum)
  (DA:Df K mg "are_pieces" sAre ["one","low","high","some"] fA fdA) (GA:FnOk P w K mg base CX0 8 fA fdA ["one","low","high","some"] spArePcs) (DP:Df K mg "_law_pieces" wF ["one","low","high","some"] fP fdP) (GP:FnOk P w K mg base CX0 4 fP fdP ["one","low","high","some"] spLPcs):FnOk P w K mg base CX0 9 f fd ["one","low","high","some"] spTold:=by
 have GC:FnOk P w K mg base CX0 5 fC fdC ["thing"] (spCop 4):=ok_cop DC T 4;refine F.ok scTold (λvs H Q E h=>?_) (λcdv A outer s H vs Q E hr h=>?_)
 ·obtain⟨d,ls,x,y,c,n,lo,hi,xs,L,rfl,_⟩:=h
  rfl
 ·obtain⟨d,ls,x,y,c,n,lo,hi,xs,L,rfl,hD,sm,dg,hx,hy,hl,pr,l20,ok,go⟩:=h;have hr2:Room 2 _:=hr.mono (by decide);have hr4:Room 4 _:=hr.mono (by decide);have hr5:Room 5 _:=hr.mono (by decide);refine⟨_,jB (jI (i:=4) scTold.nd rfl (Or.inl rfl) (jG GC hr5 rfl DC.m DC.F.kp DC.b .nil jL (jA (pv 3) jC)))
   (jB (jI (i:=5) scTold.nd rfl (Or.inl rfl) (jG GA hr rfl DA.m DA.F.kp DA.b .nil jL (jA (jG GM hr2 rfl DM.m DM.F.kp DM.b .nil jL (jA jD (jA (pv 0) jC))) (jA (pv 1) (jA (pv 2) (jA (pv 3) jC))))))
   (jB (jX (PW.pt (xW (vN (qM (yB isi_bool T.isi T.bool boot_bool (pv 5)))) (vY (jR (op_neD hr.units) (pv 3) (pv 4) (jS _))))) (jF (jN vF)) jP)
   (jF (jN (vD qP (pv 5) (jG GP hr4 rfl DP.m DP.F.kp DP.b .nil jL (jA (pv 0) (jA (pv 1) (jA (pv 2) (jA (pv 3) jC))))) (jS _)))))), ?_⟩
  try dsimp only
  have dL:DecV H (.ref ls) (.list (L.map pcD)):=.lst hl (yH (D:=pcD) (λ_ _ k=>PcP.dec k) pr);refine⟨_,rfl,.ref ls,.list (L.map pcD),[],rfl,(λa h=>nomatch h),dL.same (same_hid H),nic_pcs l20 ok,λv' H1 s1 dv=>?_⟩;refine⟨_,rfl,d,c,_,rfl,hD.same s1,λ_=>(by show 1500<=8000;decide),λp H2 n2 s2 S2=>?_⟩;have s02:=s1.trans s2;refine⟨_,rfl,_,rfl,_,rfl,p,ls,x,y,c,n,lo,hi,xs,L,rfl,S2,sm,dg,hx.same s02,hy.same s02,s02 _ _ hl,Paired.mono (λ_ _ k=>k.same s02) pr,l20,ok,λH3 s3=>?_⟩;have s03:=s02.trans s3;refine⟨_,rfl,rfl,.bl,.bl _,_,rfl,iteF ?_⟩;refine⟨_,rfl,_,rfl,_,_,dL.same s03,(dv.same (hid_nil H1)).same (s2.trans s3),hG _,hG _,_,rfl, ?_⟩;rw[SeqAt.eqv_refl _ (hG _).1];refine iteF ?_;refine⟨_,rfl,_,rfl,_,rfl,_,rfl,_,rfl,d,ls,x,y,c,n,lo,hi,xs,L,rfl,hD.same s03,sm,dg,hx.same s03,hy.same s03,s03 _ _ hl,Paired.mono (λ_ _ k=>k.same s03) pr,l20,ok,λH4 s4=>⟨rfl, ?_⟩⟩;rw[decide_eq_true rfl];exact go H4 (s03.trans s4)
end
end Lw
namespace Lw
open PySem PySem.Spec PyProof.Rows L2 LwQ
noncomputable def spMoreR:Sp:=λvs H Q _=>∃(x y:V) (r q:Rat),vs=[x,y]/\NumT H x r/\NumT H y q/\r.num.natAbs<2^3900/\((r.den:Int)).natAbs<2^3900/\q.num.natAbs<2^3900/\((q.den:Int)).natAbs<2^3900/\∀(v:V) (H':Hp),Same H H'->NumT H' v (r+q)->Q v H'
structure Ovr(rs:List Rat):Prop where
 ex:∃(ts:List Int) (D:Int),rs=ts.map (λt=>fv t D)/\0<D/\D.natAbs<2^2601/\∀t∈ts,t.natAbs<2^3700
theorem nums_ovr{c:Nat->Rat}{n:Nat}{lo hi:Option Rat}(h:Sm c)(hn:n<=8)(e:EndOk lo hi):Ovr (qG (cL c n) lo hi):=by
 have b:=gW (n:=n) h hn e;exact⟨_,_,rfl,b.2.1,jE b.2.2.1 (by decide),b.1⟩
noncomputable def spRaised:Sp:=λvs H Q _=>∃(l:Addr) (xs:List V) (rs:List Rat),vs=[.ref l]/\H l=some (.lst xs)/\Paired (NumT H) xs rs/\Ovr rs/\1<=rs.length/\rs.length<=9/\
 ∀(l':Addr) (ys:List V) (qs:List Rat) (H':Hp),H l'=none->Same H H'->H' l'=some (.lst ys)->Paired (NumT H') ys qs->Ns qs->Q (.ref l') H'
theorem uY(t b o u:Int):fv (t*o) (b*u)=fv t b*fv o u:=by
 unfold fv;rw[Rat.intCast_mul,Rat.intCast_mul]
 grind
theorem fv_join{t s D m:Int}(hD:0<D)(hm:0<m):fv t (D*m)+fv s (D*m)=fv (t+s) (D*m):=by
 have h:=cne (Int.mul_pos hD hm);unfold fv;rw[Rat.intCast_add]
 grind
theorem small_ovr{t D m:Int}(hD:0<D)(hm:0<m)(h1:t.natAbs<2^3790)(h2:D.natAbs<2^2601)(h3:m.natAbs<2^5):(fv t (D*m)).num.natAbs<2^3800/\(((fv t (D*m)).den:Int)).natAbs<2^2700:=by
 have p:=Int.mul_pos hD hm;obtain⟨d,n⟩:=zN p (x:=fv t (D*m)) rfl;refine⟨Nat.lt_of_le_of_lt n (jE h1 (by decide)), ?_⟩;have k:=Int.le_of_dvd p d;have q:=jW h2 h3;refine Nat.lt_of_le_of_lt (show _<=(D*m).natAbs by omega) (jE q (by decide))
inductive RsI(H:Hp)(l f:Addr)(m:Nat)(i:Nat):L2.St->Hp->Prop where
 | mk {u3 u4:Option V} {H':Hp} {ys:List V} {qs:List Rat} (s:Same H H') (e:H' f=some (.lst ys)) (p:Paired (NumT H') ys qs) (n:∀r∈qs,r.num.natAbs<2^3800/\((r.den:Int)).natAbs<2^2700) (ll:qs.length=i):RsI H l f m i [some (.ref l),some (.int m),some (.ref f),u3,u4] H'
inductive RsJ(H1:Hp)(l f:Addr)(m i:Nat)(z:Rat)(k kt:Nat):L2.St->Hp->Prop where
 | mk {H':Hp} {tr:Addr} {T B:Int} (s:Same H1 H') (a:At2 H' tr T B) (p:0<B) (sb:B.natAbs<2^k) (st:T.natAbs<2^kt) (v:fv T B=z):RsJ H1 l f m i z k kt [some (.ref l),some (.int m),some (.ref f),some (.int (0+(i:Int))),some (.ref tr)] H'
section
variable{P:Program}{w:World}{K:PySem.W.Frag}{mg:Str->Option Value}{base:Heap}{f fd:_}
theorem ok_moreR{fP fL:Addr}{fdP fdL:FuncData}(F:Fun K "_law_more" "_law_more" wG f fd)(T:Txt mg)(DP:Df K mg "_law_plus" xH ["one","other"] fP fdP)(GP:FnOk P w K mg base CX0 1 fP fdP ["one","other"] spPlus)(DL:Df K mg "_law_low" sLow ["top","bottom"] fL fdL)(GL:FnOk P w K mg base CX0 1 fL fdL ["top","bottom"] spLow):FnOk P w K mg base CX0 2 f fd ["one","other"] spMoreR:=by
 refine F.ok scMore (λvs H Q E h=>?_) (λcdv A outer s H vs Q E hr h=>?_)
 ·obtain⟨x,y,r,q,rfl,_⟩:=h
  rfl
 ·obtain⟨x,y,rr,qq,rfl,⟨p,rfl,hp⟩,⟨q,rfl,hq⟩,h1,h2,h3,h4,go⟩:=h;refine⟨_,jB (jI (i:=2) scMore.nd rfl (Or.inl rfl) (jG GP hr rfl DP.m DP.F.kp DP.b .nil jL (jA (pv 0) (jA (pv 1) jC))))
   (jF (jN (jG GL hr rfl DL.m DL.F.kp DL.b .nil jL (jA (jT jU (pv 2) jD (λ_ _=>rfl)) (jA (jT jU (pv 2) jD (λ_ _=>rfl)) jC))))), ?_⟩
  have d1:=jZ rr;have d2:=jZ qq;refine⟨_,rfl,_,rfl,p,q,_,_,_,_,rfl,hp,hq,d1.1,d2.1,jE h1 (by decide),jE h2 (by decide),jE h3 (by decide),jE h4 (by decide),λr t' b' H1 n1 s1 e1 b1 lb eq=>?_⟩;have bb:b'.natAbs<2^7801:=by
   have:=jW h2 h4;rw[Int.natAbs_mul]at this;exact Nat.lt_of_le_of_lt lb (Nat.lt_of_lt_of_le this (Nat.pow_le_pow_right (by decide) (by decide)))
  refine⟨_,rfl,r,_,_,_,rfl,rfl,SqT.of e1,rfl,_,rfl,r,_,_,_,rfl,rfl,SqT.of e1,rfl,t',b',rfl,by omega,.inl (jE bb (by decide)),λr2 H2 n2 s2 e2=>?_⟩;exact go (.ref r2) H2 (s1.trans s2) ⟨r2,rfl,zE e2 b1 (by rw[vE d1.1 d2.1 b1 eq,kE,kE])⟩
end
end Lw
namespace Lw
open PySem PySem.Spec PyProof.Rows L2 LwQ
theorem ovr_get{rs:List Rat}{ts:List Int}{D:Int}{j:Nat}{r:Rat}(e:rs=ts.map λt=>fv t D)(h:rs[j]? = some r):∃t,ts[j]? = some t/\r=fv t D:=by
 rw[e,List.getElem?_map]at h;obtain⟨t,h1,h2⟩:=Option.map_eq_some_iff.mp h;exact⟨t,h1,h2.symm⟩
theorem shr_val{t D:Int}{r:Rat}{i m:Int}(hD:0<D)(h:r=fv t D):fv (r.num*i) ((r.den:Int)*m)=fv (t*i) (D*m):=by
 rw[uY,kE,uY,h]
section
variable{P:Program}{w:World}{K:PySem.W.Frag}{mg:Str->Option Value}{base:Heap}{f fd:_}
theorem scRaised:FnScope ["told","many","found","k","total"] ["told"] (jO wD):=⟨rfl,rfl,rfl,by decide +kernel,rfl,by decide +kernel,by decide +kernel⟩
theorem ok_raised{fP fM fL:Addr}{fdP fdM fdL:FuncData}(F:Fun K "_law_raised" "_law_raised" wD f fd)(T:Txt mg)(DP:Df K mg "_law_plus" xH ["one","other"] fP fdP)(GP:FnOk P w K mg base CX0 1 fP fdP ["one","other"] spPlus)(DM:Df K mg "_law_mul" yT ["one","other"] fM fdM)(GM:FnOk P w K mg base CX0 1 fM fdM ["one","other"] spLMul)
  (DL:Df K mg "_law_low" sLow ["top","bottom"] fL fdL) (GL:FnOk P w K mg base CX0 1 fL fdL ["top","bottom"] spLow):FnOk P w K mg base CX0 2 f fd ["told"] spRaised:=by
 refine F.ok scRaised (λvs H Q E h=>?_) (λcdv A outer s H vs Q E hr h=>?_)
 ·obtain⟨l,xs,rs,rfl,_⟩:=h
  rfl
 ·obtain⟨l,xs,rs,rfl,hl,pr,⟨ts,D,er,hD,bD,bt⟩,r1,r9,go⟩:=h;refine⟨_,jB (jI (i:=1) scRaised.nd rfl (Or.inl rfl) (kA kD (by rfl) T.len PySem.boot_len (jA (pv 0) jC))) (jB (jI (i:=2) scRaised.nd rfl (Or.inl rfl) (kR jC)) (jB (kW PassesOwn.never rfl (qD (by rfl) T.rng (jA (jJ kM (pv 1) jD) jC)) (jH (i:=3) scRaised.nd rfl (Or.inl rfl)) (jB (jI (i:=4) scRaised.nd rfl (Or.inl rfl) (jV (jA jD (jA jD jC)))) (jB (jX (jR wM (pv 3) jD (jS _)) (jF (jI (i:=4) scRaised.nd rfl (Or.inl rfl) (jG GP hr rfl DP.m DP.F.kp DP.b .nil jL (jA (pv 4) (jA (jG GM hr rfl DM.m DM.F.kp DM.b .nil jL (jA (jT kQ (pv 0) (jJ qB (pv 3) jD) (λ_ _=>rfl)) (jA (jV (jA (pv 3) (jA (pv 1) jC))) jC))) jC))))) jP) (jB (jX (jR xZ (pv 3) (pv 1) (jS _)) (jF (jI (i:=4) scRaised.nd rfl (Or.inl rfl) (jG GP hr rfl DP.m DP.F.kp DP.b .nil jL (jA (pv 4) (jA (jG GM hr rfl DM.m DM.F.kp DM.b .nil jL (jA (jT kQ (pv 0) (pv 3) (λ_ _=>rfl)) (jA (jV (jA (jJ qB (pv 1) (pv 3)) (jA (pv 1) jC))) jC))) jC))))) jP) (jF (xD (pe_bm PySem.F.plainAttrs_list PySem.F.slot_list_append PySem.F.type_list_append xF (pv 2) (jA (jG GL hr rfl DL.m DL.F.kp DL.b .nil jL (jA (jT jU (pv 4) jD (λ_ _=>rfl)) (jA (jT jU (pv 4) jD (λ_ _=>rfl)) jC))) jC)))))))) (jF (jN (pv 2))))), ?_⟩
  try dsimp only
  have lx:=Paired.length pr;have lt:ts.length=rs.length:=by rw[er,List.length_map]
  refine⟨_,rfl,l,xs,rfl,.inl (SqL.of hl), ?_⟩;refine⟨(by show 0<=sizeLine;decide),λfo H1 n1 s1 e1=>?_⟩;refine⟨_,rfl,_,_,rfl,rfl,_,rfl,by omega,by omega,qE (n:=((xs.length:Int)+1).toNat) (RsI H l fo xs.length) (.mk (qs:=[]) s1 e1 .nil (λr h=>nomatch h) rfl) (λi σ H2 hi h=>?_) (fun σ H2 h=>?_)⟩
  ·obtain⟨s2,e2,p2,b2,l2⟩:=h;rename_i u3 u4 ys qs;have hm:(0:Int)<(xs.length:Int):=by omega
   have sm5:((xs.length:Int)).natAbs<2^5:=by rw[Int.natAbs_natCast];exact Nat.lt_of_le_of_lt (show xs.length<=9 by omega) (by decide)
   have i5:((i:Int)).natAbs<2^5:=by rw[Int.natAbs_natCast];exact Nat.lt_of_le_of_lt (show i<=9 by omega) (by decide)
   have num:∀j,j<xs.length->∃(v:Addr) (r:Rat) (t:Int),xs[j]? = some (.ref v)/\At2 H v r.num r.den/\r=fv t D/\t.natAbs<2^3700/\r.num.natAbs<2^3700/\((r.den:Int)).natAbs<2^2601:=λj hj=>by
    obtain⟨x,hx⟩:∃x,xs[j]? = some x:=⟨xs[j],by simp [hj]⟩;obtain⟨r,hr',v,rfl,hv⟩:=jY pr hx;obtain⟨t,ht,rt⟩:=ovr_get er hr';have bt':=bt t (List.mem_of_getElem? ht);obtain⟨d1,d2⟩:=zN hD rt;have d3:=Int.le_of_dvd hD d1;exact⟨v,r,t,hx,hv,rt,bt',Nat.lt_of_le_of_lt d2 bt',Nat.lt_of_le_of_lt (show _<=D.natAbs by omega) bD⟩
   refine⟨(by show 2<=sizeLine;decide),λt0 H3 n3 s3 e3=>?_⟩;dsimp only;have up:∀{a:Int} {m n:Nat},a.natAbs<2^m->m<=n->a.natAbs<2^n:=λh k=>jE h k;have first:∃A:Int,A.natAbs<2^3710/\(i=0->A=0)/\(0<i->∃(v:Addr) (r:Rat) (t:Int),atI xs ((0+(i:Int))-1)=some (.ref v)/\At2 H v r.num r.den/\r=fv t D/\A=t*(i:Int)/\r.num.natAbs<2^3700/\((r.den:Int)).natAbs<2^2601):=by
    by_cases h0:i=0
    ·exact⟨0,by decide,λ_=>rfl,λz=>absurd h0 (by omega)⟩
    ·obtain⟨v,r,t,hx,hv,rt,b1,b3,b4⟩:=num (i-1) (by omega);exact⟨t*i,jE (jW b1 i5) (by decide),λz=>absurd z h0,λ_=>⟨v,r,t,zD (by omega) hx,hv,rt,rfl,b3,b4⟩⟩
   have second:∃A:Int,A.natAbs<2^3710/\(¬i<xs.length->A=0)/\(i<xs.length->∃(v:Addr) (r:Rat) (t:Int),atI xs (0+(i:Int))=some (.ref v)/\At2 H v r.num r.den/\r=fv t D/\A=t*((xs.length:Int)-(0+(i:Int)))/\r.num.natAbs<2^3700/\((r.den:Int)).natAbs<2^2601):=by
    by_cases h0:i<xs.length
    ·obtain⟨v,r,t,hx,hv,rt,b1,b3,b4⟩:=num i h0;have k5:((xs.length:Int)-(0+(i:Int))).natAbs<2^5:=Nat.lt_of_le_of_lt (show _<=9 by omega) (by decide);exact⟨t*((xs.length:Int)-(0+(i:Int))),jE (jW b1 k5) (by decide),λz=>absurd h0 z,λ_=>⟨v,r,t,zD (by omega) hx,hv,rt,rfl,b3,b4⟩⟩
    ·exact⟨0,by decide,λ_=>rfl,λz=>absurd z h0⟩
   obtain⟨A,sA,A0,A1⟩:=first
   obtain⟨C,sC,C0,C1⟩:=second;have hl2:=s2 _ _ hl;refine kK (t:=tIfS _ _ _) (RsJ H2 l fo xs.length i (fv A (D*xs.length)) 2700 3800) ?_ (λgo2=>?_)
   rotate_left
   ·refine⟨_,rfl,_,_,rfl,rfl,_,rfl,ite2 (λg=>?_) (λg=>?_)⟩
    ·have i0:0<i:=by have:=of_decide_eq_true g;omega
     obtain⟨v,r,t,hx,hv,rt,eA,b3,b4⟩:=A1 i0;refine⟨_,rfl,_,rfl,_,rfl,_,_,rfl,rfl,l,xs,_,_,rfl,rfl,SqL.of (s3 _ _ hl2),hx,_,rfl,_,rfl,(by show 2<=sizeLine;decide),λq4 H4 n4 s4 e4=>?_⟩;refine⟨v,q4,r.num,r.den,0+(i:Int),xs.length,rfl,s4 _ _ (s3 _ _ (s2 _ _ hv)),e4,up b3 (by decide),up b4 (by decide),up (show(0+(i:Int)).natAbs<2^5 by rw[Int.zero_add];exact i5) (by decide),up sm5 (by decide),λz5 H5 n5 s5 e5=>?_⟩;have d1:=jZ r;have m1:=jW b3 i5;have m2:=jW b4 sm5;rw[Int.zero_add]at e5;refine⟨t0,z5,0,1,_,_,rfl,s5 _ _ (s4 _ _ e3),e5,by decide,Int.mul_pos d1.1 hm,up (show(0:Int).natAbs<2^1 by decide) (by decide),up (show(1:Int).natAbs<2^1 by decide) (by decide),up m1 (by decide),up m2 (by decide),λw' t' b' H6 n6 s6 e6 pb lb eq=>?_⟩;refine go2 _ _ (.mk (s3.trans (s4.trans (s5.trans s6))) e6 pb ?_ ?_ ?_)
     ·refine Nat.lt_of_le_of_lt lb ?_;rw[show((1:Int)).natAbs=1 from rfl,Nat.one_mul];exact up m2 (by decide)
     ·have k:=qN (k:=1) (m:=3705) (by decide) (Int.mul_pos d1.1 hm) (by decide) (by decide) m1 (up m2 (by decide)) lb eq;exact up k.1 (by decide)
     ·rw[vE (by decide) (Int.mul_pos d1.1 hm) pb eq,fv_zero,Rat.zero_add,shr_val hD rt,eA]
    ·have i0:i=0:=by
      have:¬(0:Int)<0+(i:Int):=λz=>g (decide_eq_true z);omega
     refine go2 _ _ (.mk s3 e3 (by decide) (up (show(1:Int).natAbs<2^1 by decide) (by decide)) (up (show(0:Int).natAbs<2^1 by decide) (by decide)) ?_);rw[A0 i0,fv_zero];unfold fv;rw[show((0:Int):Rat)=0 from rfl]
     grind
   rintro σ4 H4 ⟨s4,a4,pB,bB,bT,vB⟩;rename_i tr T0 B0;refine kK (t:=tIfS _ _ _) (RsJ H2 l fo xs.length i (fv (A+C) (D*xs.length)) 5600 20000) ?_ (λgo2=>?_)
   rotate_left
   ·refine⟨_,rfl,_,rfl,_,_,rfl,rfl,_,rfl,ite2 (λg=>?_) (λg=>?_)⟩
    ·have i0:i<xs.length:=by have:=of_decide_eq_true g;omega
     obtain⟨v,r,t,hx,hv,rt,eC,b3,b4⟩:=C1 i0;refine⟨_,rfl,_,rfl,_,rfl,l,xs,_,_,rfl,rfl,SqL.of (s4 _ _ hl2),hx,_,rfl,_,rfl,_,_,rfl,rfl,_,rfl,(by show 2<=sizeLine;decide),λq4 H5 n5 s5 e5=>?_⟩;have k5:((xs.length:Int)-(0+(i:Int))).natAbs<2^5:=Nat.lt_of_le_of_lt (show _<=9 by omega) (by decide);refine⟨v,q4,r.num,r.den,(xs.length:Int)-(0+(i:Int)),xs.length,rfl,s5 _ _ (s4 _ _ (s2 _ _ hv)),e5,up b3 (by decide),up b4 (by decide),up k5 (by decide),up sm5 (by decide),λz5 H6 n6 s6 e6=>?_⟩;have d1:=jZ r;have m1:=jW b3 k5;have m2:=jW b4 sm5;refine⟨tr,z5,T0,B0,_,_,rfl,s6 _ _ (s5 _ _ a4),e6,pB,Int.mul_pos d1.1 hm,up bT (by decide),up bB (by decide),up m1 (by decide),up m2 (by decide),λw' t' b' H7 n7 s7 e7 pb lb eq=>?_⟩;refine go2 _ _ (.mk (s4.trans (s5.trans (s6.trans s7))) e7 pb ?_ ?_ ?_)
     ·have:=jW bB m2;rw[Int.natAbs_mul]at this;exact Nat.lt_of_le_of_lt lb (Nat.lt_of_lt_of_le this (Nat.pow_le_pow_right (by decide) (by decide)))
     ·have k:=qN (k:=3800) (m:=3705) pB (Int.mul_pos d1.1 hm) bT (up bB (by decide)) m1 (up m2 (by decide)) lb eq;exact up k.1 (by decide)
     ·rw[vE pB (Int.mul_pos d1.1 hm) pb eq,vB,shr_val hD rt,<-eC,fv_join hD hm]
    ·have i0:¬i<xs.length:=λz=>g (decide_eq_true (by omega));refine go2 _ _ (.mk s4 a4 pB (up bB (by decide)) (up bT (by decide)) ?_);rw[C0 i0,Int.add_zero];exact vB
   rintro σ5 H5 ⟨s5,a5,pB5,bB5,bT5,vB5⟩;rename_i tr5 T5 B5;refine⟨_,rfl,.inl ⟨rfl,_,SqL.of (s5 _ _ e2)⟩,_,rfl,tr5,_,_,_,rfl,rfl,SqT.of a5,rfl,_,rfl,tr5,_,_,_,rfl,rfl,SqT.of a5,rfl,T5,B5,rfl,by omega,.inl (up bB5 (by decide)),λz6 H6 n6 s6 e6=>?_⟩;have s26:=s5.trans s6;have e26:=s26 _ _ e2;have ly:ys.length<=20:=by
    have:=Paired.length p2;clear A1 C1 num;omega
   refine⟨fo,_,_,rfl,rfl,e26,Nat.lt_of_le_of_lt ly (by decide), ?_⟩;have nz:NumT H6 (.ref z6) (fv (A+C) (D*xs.length)):=⟨z6,rfl,zE e6 pB5 vB5⟩;refine .mk (qs:=qs++[fv (A+C) (D*xs.length)]) (kF (s2.trans s26) n1) jK (Paired.snoc (Paired.mono (λ_ _ k=>(NumT.same k s26).upd e26) p2) (nz.upd e26)) (λr hr'=>?_) (by rw[List.length_append,l2];rfl);rcases List.mem_append.mp hr' with hr' | hr'
   ·exact b2 r hr'
   ·rw[List.mem_singleton.mp hr'];exact small_ovr hD hm (up (yK sA sC) (by decide)) bD sm5
  ·obtain⟨s2,e2,p2,b2,l2⟩:=h;refine⟨_,rfl,go fo _ _ H2 n1 s2 e2 p2 ⟨?_,b2⟩⟩;rw[l2];omega
end
end Lw
namespace Lw
open PySem PySem.Spec PyProof.Rows L2 LwQ
theorem NumT.but{cl tp:Addr}{H H':Hp}{B:Int}{x:V}{r:Rat}(h:NumT H x r)(b:But tp H H')(T:Tape cl H tp B):NumT H' x r:=by
 obtain⟨a,rfl,e⟩:=h;obtain⟨ns,spot,rest,left,z,_⟩:=T;exact⟨a,rfl,b _ _ e λy=>by rw[y]at e;rw[show H tp=_ from e]at z;cases z⟩
theorem EndT.but{cl tp:Addr}{H H':Hp}{B:Int}{x:V}{o:Option Rat}(h:EndT H x o)(b:But tp H H')(T:Tape cl H tp B):EndT H' x o:=by
 cases o with
 | none=>exact h
 | some r=>exact NumT.but h b T
noncomputable def Adj(os:List (Option Rat)):Prop:=∀j,os[j]? = some none->os[j+1]? = some none->False
theorem adj_put{os:List (Option Rat)}{at':Nat}{r:Rat}(h:Adj os)(ha:at'<=os.length):Adj (os.take at'++[some r]++os.drop at'):=by
 intro j h1 h2;have lt:(os.take at').length=at':=by rw[List.length_take];omega
 rw[List.append_assoc]at h1 h2;by_cases c1:j+1<at'
 ·rw[List.getElem?_append_left (by rw[lt];omega),List.getElem?_take_of_lt (by omega)]at h1;rw[List.getElem?_append_left (by rw[lt];omega),List.getElem?_take_of_lt (by omega)]at h2;exact h j h1 h2
 by_cases c2:j+1=at'
 ·rw[List.getElem?_append_right (by rw[lt];omega),lt,show j+1-at'=0 by omega]at h2;cases h2
 by_cases c3:j=at'
 ·rw[List.getElem?_append_right (by rw[lt];omega),lt,show j-at'=0 by omega]at h1;cases h1
 ·rw[List.getElem?_append_right (by rw[lt];omega),lt,show j-at'=(j-at'-1)+1 by omega]at h1;rw[List.getElem?_append_right (by rw[lt];omega),lt,show j+1-at'=(j-at'-1+1)+1 by omega]at h2;have h1':(os.drop at')[j-at'-1]? = some none:=h1;have h2':(os.drop at')[j-at'-1+1]? = some none:=h2;rw[List.getElem?_drop]at h1' h2';exact h (at'+(j-at'-1)) h1' (by rw[show at'+(j-at'-1)+1=at'+(j-at'-1+1) by omega];exact h2')
structure Plc(k:Nat)(os:List (Option Rat)):Prop where
 ex:∃L:Int,0<L/\L.natAbs<2^(14+k)/\∀o∈os,En L (2^17+2*k) o
 adj:Adj os
 len:os.length<=3+k
 two:2<=os.length
theorem Plc.sd{k:Nat}{os:List (Option Rat)}(h:Plc k os)(hk:k<=2):∀o∈os,Es o:=λo ho r hr=>by
 obtain⟨L,L0,L1,e⟩:=h.ex;obtain⟨w,b⟩:=e o ho r hr;refine sd_en w L0 (Nat.le_trans (Nat.le_of_lt L1) (Nat.pow_le_pow_right (by decide) (by omega))) b ?_;exact Nat.le_trans (show 2^17+2*k<=2^18 by omega) (by decide)
theorem Plc.put{k:Nat}{os:List (Option Rat)}{at':Nat}{r:Rat}(h:Plc k os)(ha:at'<=os.length)(hr:∀L:Int,0<L->(∀o∈os,En L (2^17+2*k) o)->Wh (L*2) r/\Bd (2^17+2*k+2) r):Plc (k+1) (os.take at'++[some r]++os.drop at'):=by
 obtain⟨L,L0,L1,e⟩:=h.ex;have ll:(os.take at'++[some r]++os.drop at').length=os.length+1:=by
  rw[List.length_append,List.length_append,List.length_take,List.length_drop];show min at' os.length+1+(os.length-at')=_;omega
 refine⟨⟨L*2,by omega, ?_,λo ho=>?_⟩,adj_put h.adj ha,by rw[ll];have:=h.len;omega,by rw[ll];have:=h.two;omega⟩
 ·rw[Int.natAbs_mul,show 14+(k+1)=(14+k)+1 by omega,Nat.pow_succ];show L.natAbs*2<_;omega
 ·have old:∀o∈os,En (L*2) (2^17+2*(k+1)) o:=λo ho=>(e o ho).mono 2 (by omega);rcases List.mem_append.mp ho with ho | ho
  ·rcases List.mem_append.mp ho with ho | ho
   ·exact old o (List.mem_of_mem_take ho)
   ·rw[List.mem_singleton.mp ho];obtain⟨w,b⟩:=hr L L0 e;exact gC w b
  ·exact old o (List.mem_of_mem_drop ho)
noncomputable def spCuts:Sp:=λvs H Q _=>∃(tp:Addr) (x y:V) (lo hi:Option Rat) (L B:Int),vs=[.ref tp,x,y]/\EndT H x lo/\EndT H y hi/\0<L/\L.natAbs<2^14/\En L (2^17) lo/\En L (2^17) hi/\∃cl,Tape cl H tp B/\B<2^30/\
 ∀(p:Addr) (vs:List V) (os:List (Option Rat)) (H':Hp),H p=none->But tp H H'->Tape cl H' tp (B+10)->H' p=some (.lst vs)->Paired (EndT H') vs os->Plc 2 os->Q (.ref p) H'
inductive CuI(H:Hp)(cl tp:Addr)(x y:V)(B:Int)(i:Nat):L2.St->Hp->Prop where
 | mk {u4 u5 u6 u7 u8:Option V} {H':Hp} {p:Addr} {vs:List V} {os:List (Option Rat)} (n:H p=none) (b:But tp H H') (T:Tape cl H' tp (B+1+2*i)) (e:H' p=some (.lst vs)) (pr:Paired (EndT H') vs os) (pl:Plc i os):CuI H cl tp x y B i [some (.ref tp),some x,some y,some (.ref p),u4,u5,u6,u7,u8] H'
theorem Plc.up{k:Nat}{os:List (Option Rat)}(h:Plc k os):Plc (k+1) os:=by
 obtain⟨L,L0,L1,e⟩:=h.ex;exact⟨⟨L*1,by omega,by rw[Int.mul_one];exact Nat.lt_of_lt_of_le L1 (Nat.pow_le_pow_right (by decide) (by omega)),λo ho=>(e o ho).mono 1 (by omega)⟩,h.adj,by have:=h.len;omega,h.two⟩
theorem Plc.ups{k:Nat}{os:List (Option Rat)}(h:Plc k os):∀j,Plc (k+j) os
 | 0=>h
 | j+1=>(Plc.ups h j).up
theorem qI{α β:Type}{F:α->β->Prop} :∀{a:List α} {b:List β} (j:Nat),Paired F a b->Paired F (a.take j) (b.take j)
 | _,_,0,_=>.nil
 | _,_,_+1,.nil=>.nil
 | _,_,j+1,.cons k t=>.cons k (qI j t)
theorem qJ{α β:Type}{F:α->β->Prop} :∀{a:List α} {b:List β} (j:Nat),Paired F a b->Paired F (a.drop j) (b.drop j)
 | _,_,0,h=>h
 | _,_,_+1,.nil=>.nil
 | _,_,j+1,.cons _ t=>qJ j t
theorem kI{α β:Type}{F:α->β->Prop} :∀{a c:List α} {b d:List β},Paired F a b->Paired F c d->Paired F (a++c) (b++d)
 | _,_,_,_,.nil,h=>h
 | _,_,_,_,.cons k t,h=>.cons k (kI t h)
theorem kP(xs:List V)(i:Nat)(h:i<=xs.length):cutV xs none (some (i:Int))=xs.take i:=by
 unfold cutV;rw[HT.sIx_nat,HT.sIx_none,Nat.min_eq_left h,List.drop_zero,Nat.sub_zero]
theorem vK(xs:List V)(i:Nat)(h:i<=xs.length):cutV xs (some (i:Int)) none=xs.drop i:=by
 unfold cutV;rw[HT.sIx_nat,HT.sIx_none,Nat.min_eq_left h];exact List.take_of_length_le (by rw[List.length_drop];omega)
theorem half_ok{a b:Rat}{L:Int}{R:Nat}(ha:Wh L a/\Bd R a)(hb:Wh L b/\Bd R b)(z:Rat)(hz:z=(a+b)*fv 1 2):Wh (L*2) z/\Bd R z:=by
 subst hz;refine⟨(ha.1.add hb.1).mul (Wh.of (by decide)), ?_⟩;have h:=ha.2.add hb.2;have k:=jZ ((a+b)*fv 1 2);have e:(a+b)*fv 1 2=fv (a+b).num ((a+b).den*2):=by
  conv=>lhs;rw[<-kE (a+b)]
  rw[<-uY,Int.mul_one]
 refine uQ (t:=(a+b).num) (b:=(a+b).den*2) (by have:=(jZ (a+b)).1;omega) e ?_;have h':(a+b).num.natAbs<=(R+R)*(a+b).den:=h;rw[Int.natAbs_mul,Int.natAbs_natCast];show _<=R*((a+b).den*2);rw[Nat.mul_comm (a+b).den 2,<-Nat.mul_assoc,Nat.mul_two];exact h'
end Lw
namespace Lw
open PySem PySem.Spec PyProof.Rows L2 LwQ
theorem wZ{tp:Addr}{many B:Int}{cl:Addr}{H:Hp}{Q:VK}{σ:L2.St}{a:Nat}(e:σ[a]? = some (some (.ref tp)))(hT:Tape cl H tp B)(h1:B<2^40)(h2:0<many)(h3:many<2^100)(k:∀(r:Int) (H':Hp),0<=r->r<many->Tape cl H' tp (B+1)->But tp H H'->Q (.int r) H'):zX spDraw [] E0 (kT (tVar a) (kT (tC (.int many)) tNil)) σ H Q:=⟨_,e,tp,many,B,rfl,cl,hT,h1,h2,h3,k⟩
inductive CuJ(H2:Hp)(cl tp p:Addr)(x y vo vt:V)(at':Nat)(k i:Nat)(B:Int)(os:List (Option Rat)):L2.St->Hp->Prop where
 | mk {H':Hp} {vm:V} {r:Rat} (b:But tp H2 H') (T:Tape cl H' tp B) (m:NumT H' vm r) (h:∀L:Int,0<L->(∀o∈os,En L (2^17+2*k) o)->Wh (L*2) r/\Bd (2^17+2*k+2) r):CuJ H2 cl tp p x y vo vt at' k i B os [some (.ref tp),some x,some y,some (.ref p),some (.int (0+(i:Int))),some (.int at'),some vo,some vt,some vm] H'
theorem wh_two{L t:Int} :Wh (L*2) (fv t 2):=(Wh.of (t:=t) (b:=2) (by decide)).of_dvd (Int.dvd_mul_left ..)
theorem bd_two{t:Int}(h:t.natAbs<=4):Bd 2 (fv t 2):=uQ (by decide) rfl h
theorem mZ{t:Int}(h:t.natAbs<=4):(fv t 2).num.natAbs<2^200/\(((fv t 2).den:Int)).natAbs<2^200:=by
 obtain⟨d,n⟩:=zN (x:=fv t 2) (t:=t) (b:=2) (by decide) rfl;have k:=Int.le_of_dvd (by decide) d;refine⟨Nat.lt_of_le_of_lt (Nat.le_trans n h) ?_, ?_⟩
 ·exact Nat.lt_of_lt_of_le (show 4<2^3 by decide) (Nat.pow_le_pow_right (by decide) (by decide))
 ·have:(((fv t 2).den:Int)).natAbs<=2:=by omega
  exact Nat.lt_of_le_of_lt this (Nat.lt_of_lt_of_le (show 2<2^2 by decide) (Nat.pow_le_pow_right (by decide) (by decide)))
section
variable{P:Program}{w:World}{K:PySem.W.Frag}{mg:Str->Option Value}{base:Heap}{f fd:_}
theorem scCuts:FnScope ["tape","low","high","places","k","at","one","other","middle"] ["tape","low","high"] (jO sCuts):=⟨rfl,rfl,rfl,by decide +kernel,rfl,by decide +kernel,by decide +kernel⟩
theorem ok_cuts{fD fL fO fP fM:Addr}{fdD fdL fdO fdP fdM:FuncData}(F:Fun K "_law_cuts" "_law_cuts" sCuts f fd)(T:Txt mg)(DD:Df K mg "_law_draw" yL ["tape","many"] fD fdD)(GD:FnOk P w K mg base CX0 1 fD fdD ["tape","many"] spDraw)(DL:Df K mg "_law_low" sLow ["top","bottom"] fL fdL)(GL:FnOk P w K mg base CX0 1 fL fdL ["top","bottom"] spLow)
  (DO:Df K mg "_law_more" wG ["one","other"] fO fdO) (GO:FnOk P w K mg base CX0 2 fO fdO ["one","other"] spMore) (DP:Df K mg "_law_plus" xH ["one","other"] fP fdP) (GP:FnOk P w K mg base CX0 1 fP fdP ["one","other"] spPlus) (DM:Df K mg "_law_mul" yT ["one","other"] fM fdM) (GM:FnOk P w K mg base CX0 1 fM fdM ["one","other"] spLMul):FnOk P w K mg base CX0 3 f fd ["tape","low","high"] spCuts:=by
 refine F.ok scCuts (λvs H Q E h=>?_) (λcdv A outer s H vs Q E hr h=>?_)
 ·obtain⟨tp,x,y,lo,hi,L,B,rfl,_⟩:=h
  rfl
 ·obtain⟨tp,x,y,lo,hi,L,B,rfl,hx,hy,L0,L1,el,eh,cl,hT,hB,go⟩:=h;have hr1:Room 1 _:=hr.mono (by decide);have p30:(2:Int)^30+1000<2^40:=by decide
  refine⟨_,jB (jI (i:=3) scCuts.nd rfl (Or.inl rfl) (kR (jA (pv 1) (jA (pv 2) jC)))) (jB (jX (PW.pt (qV (qF (xU (pv 1))) (qT (qF (xU (pv 2)))))) (jF (jI (i:=3) scCuts.nd rfl (Or.inl rfl) (kR (jA (pv 1) (jA (jV (jA jD (jA jD jC))) (jA (pv 2) jC)))))) jP) (jB (kW PassesOwn.never rfl (qD (by rfl) T.rng (jA (jG GD hr1 rfl DD.m DD.F.kp DD.b .nil jL (jA (pv 0) (jA jD jC))) jC)) (jH (i:=4) scCuts.nd rfl (Or.inl rfl)) (jB (jI (i:=5) scCuts.nd rfl (Or.inl rfl) (jJ kM jD (jG GD hr1 rfl DD.m DD.F.kp DD.b .nil jL (jA (pv 0) (jA (jJ qB (kA kD (by rfl) T.len PySem.boot_len (jA (pv 3) jC)) jD) jC))))) (jB (jI (i:=6) scCuts.nd rfl (Or.inl rfl) (jT kQ (pv 3) (jJ qB (pv 5) jD) (λ_ _=>rfl))) (jB (jI (i:=7) scCuts.nd rfl (Or.inl rfl) (jT kQ (pv 3) (pv 5) (λ_ _=>rfl))) (jB (jX (qF (xU (pv 6))) (jB (jI (i:=8) scCuts.nd rfl (Or.inl rfl) (jG GL hr1 rfl DL.m DL.F.kp DL.b .nil jL (jA (jJ qB (jJ qB jD jD) (jG GD hr1 rfl DD.m DD.F.kp DD.b .nil jL (jA (pv 0) (jA jD jC)))) (jA jD jC)))) (jF (jI (i:=8) scCuts.nd rfl (Or.inl rfl) (jG GO hr rfl DO.m DO.F.kp DO.b .nil jL (jA (pv 7) (jA (pv 8) jC)))))) (jF (jX (qF (xU (pv 7))) (jF (jI (i:=8) scCuts.nd rfl (Or.inl rfl) (jG GO hr rfl DO.m DO.F.kp DO.b .nil jL (jA (pv 6) (jA (jG GL hr1 rfl DL.m DL.F.kp DL.b .nil jL (jA (jJ kM jD (jG GD hr1 rfl DD.m DD.F.kp DD.b .nil jL (jA (pv 0) (jA jD jC)))) (jA jD jC))) jC))))) (jB (jI (i:=8) scCuts.nd rfl (Or.inl rfl) (jG GM hr1 rfl DM.m DM.F.kp DM.b .nil jL (jA (jG GP hr1 rfl DP.m DP.F.kp DP.b .nil jL (jA (pv 6) (jA (pv 7) jC))) (jA (jV (jA jD (jA jD jC))) jC)))) (jF (jI (i:=8) scCuts.nd rfl (Or.inl rfl) (jG GL hr1 rfl DL.m DL.F.kp DL.b .nil jL (jA (jT jU (pv 8) jD (λ_ _=>rfl)) (jA (jT jU (pv 8) jD (λ_ _=>rfl)) jC))))))))) (jF (jI (i:=3) scCuts.nd rfl (Or.inl rfl) (jJ qH (jJ qH (kL kJ (pv 3) qA (kX (pv 5))) (kR (jA (pv 8) jC))) (kL kJ (pv 3) (kX (pv 5)) qA))))))))) (jF (jN (pv 3))))), ?_⟩
  try dsimp only
  refine⟨_,rfl,_,rfl,(by show 2<=sizeLine;decide),λp1 H1 n1 s1 e1=>?_⟩;have isn:∀(H:Hp) (z:V) (o:Option Rat),EndT H z o->decide (z=.non)=o.isNone:=λH z o h=>by
   cases o with
   | none=>rw[show z=.non from h];rfl
   | some q=>obtain⟨_,rfl,_⟩:=h;rfl
  have z1:Wh L (fv 0 1)/\Bd (2^17) (fv 0 1):=by rw[fv_zero];exact⟨Wh.zero _,zO _⟩
  dsimp only[kN];refine kK (t:=tIfS _ _ _) (fun σ H'=>∃(p:Addr) (vs:List V) (os:List (Option Rat)),σ=[some (.ref tp),some x,some y,some (.ref p),none,none,none,none,none]/\H p=none/\Same H H'/\H' p=some (.lst vs)/\Paired (EndT H') vs os/\Plc 0 os) ?_ (λgo2=>?_)
  rotate_left
  ·refine⟨_,rfl,_,rfl, ?_⟩;rw[isn H _ _ hx];cases hlo:lo with
   | some a=>
    refine iteF (iteF (go2 _ _ ⟨p1,_,[lo,hi],rfl,n1,s1,e1,.cons (hx.same s1) (.cons (hy.same s1) .nil),⟨L,L0,L1,λo ho=>?_⟩, ?_,by show 2<=3;decide,Nat.le_refl _⟩))
    ·rcases List.mem_cons.mp ho with rfl | ho
     ·exact el
     ·rw[List.mem_singleton.mp ho];exact eh
    ·intro j h1 h2
     match j,h1,h2 with
     | 0,h1,_=>rw[hlo]at h1;cases h1
     | 1,_,h2=>cases h2
     | j+2,h1,_=>cases h1
   | none=>
    refine iteT ⟨_,rfl,_,rfl, ?_⟩;rw[isn H _ _ hy];cases hhi:hi with
    | some b=>
     refine iteF (go2 _ _ ⟨p1,_,[lo,hi],rfl,n1,s1,e1,.cons (hx.same s1) (.cons (hy.same s1) .nil),⟨L,L0,L1,λo ho=>?_⟩, ?_,by show 2<=3;decide,Nat.le_refl _⟩)
     ·rcases List.mem_cons.mp ho with rfl | ho
      ·exact el
      ·rw[List.mem_singleton.mp ho];exact eh
     ·intro j h1 h2
      match j,h1,h2 with
      | 0,_,h2=>rw[hhi]at h2;cases h2
      | 1,_,h2=>cases h2
      | j+2,h1,_=>cases h1
    | none=>
     refine iteT ⟨_,rfl,(by show 2<=sizeLine;decide),λt2 H2 n2 s2 e2=>⟨_,rfl,(by show 3<=sizeLine;decide),λp3 H3 n3 s3 e3=>?_⟩⟩;have s13:=s1.trans (s2.trans s3);have nt:NumT H3 (.ref t2) (fv 0 1):=⟨t2,rfl,by rw[fv_zero];exact s3 _ _ e2⟩;refine go2 _ _ ⟨p3,_,[lo,some (fv 0 1),hi],rfl,(s1.trans s2).free n3,s13,e3,.cons (hx.same s13) (.cons nt (.cons (hy.same s13) .nil)),⟨L,L0,L1,λo ho=>?_⟩, ?_,Nat.le_refl _,by show 2<=3;decide⟩
     ·rcases List.mem_cons.mp ho with rfl | ho
      ·exact el
      ·rcases List.mem_cons.mp ho with rfl | ho
       ·exact gC z1.1 z1.2
       ·rw[List.mem_singleton.mp ho];exact eh
     ·intro j h1 h2
      match j,h1,h2 with
      | 0,_,h2=>cases h2
      | 1,h1,_=>cases h1
      | 2,_,h2=>cases h2
      | j+3,h1,_=>cases h1
  rintro σ H4 ⟨p4,vs4,os4,rfl,n4,s4,e4,pr4,pl4⟩;have T4:=hT.mono s4 (Int.le_refl _);refine wZ rfl T4 (by omega) (by decide) (by decide) λc H5 c0 c1 T5 b5=>⟨_,rfl,by omega,by omega, ?_⟩;have p4t:p4≠tp:=vM hT n4;refine qE (n:=c.toNat) (CuI H cl tp x y B) (.mk n4 ((But.of s4).trans b5) (T5.mono (Same.refl _) (by omega)) (b5 _ _ e4 p4t) (Paired.mono (λ_ _ k=>EndT.but k b5 T4) pr4) pl4) (λi σ H6 hi h=>?_) (fun σ H6 h=>?_)
  ·obtain⟨n6,b6,T6,e6,pr6,pl6⟩:=h;rename_i u4 u5 u6 u7 u8 p vs os;have i2:i<2:=by omega
   have pt:p≠tp:=vM hT n6;have lv:=Paired.length pr6;have two:=pl6.two;have len:=pl6.len;refine⟨_,rfl,_,rfl,p,vs,rfl,.inl (SqL.of e6),_,_,rfl,rfl,tp,(vs.length:Int)-1,_,rfl,cl,T6,by omega,by omega, ?_,λr H7 r0 r1 T7 b7=>⟨_,_,rfl,rfl, ?_⟩⟩
   ·exact Int.lt_of_le_of_lt (show(vs.length:Int)-1<=9 by omega) (by decide)
   obtain⟨j,rfl⟩:=Int.eq_ofNat_of_zero_le r0;have ej:(1:Int)+(j:Int)=((j+1:Nat):Int):=by omega
   dsimp only[kN];rw[ej];have hj:j+1<vs.length:=by omega
   obtain⟨vo,hvo⟩:∃v,vs[j]? = some v:=⟨vs[j],by simp [show j<vs.length by omega]⟩;obtain⟨vt,hvt⟩:∃v,vs[j+1]? = some v:=⟨vs[j+1],by simp [hj]⟩;obtain⟨oo,hoo,eo⟩:=jY pr6 hvo;obtain⟨ot,hot,et⟩:=jY pr6 hvt;have moo:=List.mem_of_getElem? hoo;have mot:=List.mem_of_getElem? hot;have so:=pl6.sd (by omega) oo moo;have st:=pl6.sd (by omega) ot mot;have e7:=b7 _ _ e6 pt;have eo7:=eo.but b7 T6;have et7:=et.but b7 T6;refine⟨_,rfl,_,rfl,_,_,rfl,rfl,p,vs,_,vo,rfl,rfl,SqL.of e7,zD (show((j+1:Nat):Int)-1=(j:Int) by omega) hvo, ?_⟩;refine⟨_,rfl,_,rfl,p,vs,_,vt,rfl,rfl,SqL.of e7,xR hvt, ?_⟩;dsimp only[kN];have T7':Tape cl H7 tp (B+1+2*i+1):=T7;refine kK (t:=tIfS _ _ _) (CuJ H7 cl tp p x y vo vt (j+1) i i (B+1+2*((i+1:Nat):Int)) os) ?_ (λgo2=>?_)
   ·rintro σ H8 ⟨b8,T8,m8,h8⟩;rename_i vm r;have e8:=b8 _ _ e7 pt;have pr8:Paired (EndT H8) vs os:=Paired.mono (λ_ _ k=>EndT.but (EndT.but k b7 T6) b8 T7) pr6;refine⟨_,rfl,_,rfl,_,rfl,p,vs,rfl,SqL.of e8,λl9 H9 n9 s9 e9=>⟨_,rfl,(by show 1<=sizeLine;decide),λl10 H10 n10 s10 e10=>⟨l9,l10,_,_,rfl,rfl,s10 _ _ e9,e10, ?_,λl11 H11 n11 s11 e11=>⟨_,rfl,_,rfl,_,rfl,p,vs,rfl,SqL.of (s11 _ _ (s10 _ _ (s9 _ _ e8))),λl12 H12 n12 s12 e12=>⟨l11,l12,_,_,rfl,rfl,s12 _ _ e11,e12, ?_,λl13 H13 n13 s13 e13=>?_⟩⟩⟩⟩⟩
    ·rw[kP vs (j+1) (by omega),List.length_take];exact Nat.le_trans (show min (j+1) vs.length+1<=9 by omega) (by decide)
    ·rw[kP vs (j+1) (by omega),vK vs (j+1) (by omega),List.length_append,List.length_take,List.length_drop];exact Nat.le_trans (show min (j+1) vs.length+1+(vs.length-(j+1))<=9 by omega) (by decide)
    rw[kP vs (j+1) (by omega),vK vs (j+1) (by omega)]at e13;have s813:=s9.trans (s10.trans (s11.trans (s12.trans s13)));have B8:But tp H H8:=(b6.trans b7).trans b8;have n13':H8 l13=none:=(s9.trans (s10.trans (s11.trans s12))).free n13;refine .mk (mP B8 (vM T8 n13') n13') (B8.trans (But.of s813)) (T8.mono s813 (Int.le_refl _)) e13 ?_ (Plc.put (at':=j+1) pl6 (by omega) h8);refine Paired.mono (λ_ _ k=>EndT.same k s813) (kI (kI (qI (j+1) pr8) (.cons m8 .nil)) (qJ (j+1) pr8))
   ·refine⟨_,rfl,_,rfl, ?_⟩;rw[isn H7 _ _ eo7];cases hoo':oo with
    | none=>
     cases hot':ot with
     | none=>exact(pl6.adj j (by rw[hoo,hoo']) (by rw[hot,hot'])).elim
     | some rt=>
      rw[hot']at et7 st mot;obtain⟨at2,rfl,hat⟩:=et7;have sd:=(st rt rfl).bits;refine iteT ⟨_,_,rfl,rfl,wZ rfl T7' (by omega) (by decide) (by decide) λd H8 d0 d1 T8 b8=>⟨_,_,rfl,rfl,0-1-d,2,rfl,by decide,.inl (by decide),λm9 H9 n9 s9 e9=>?_⟩⟩;have t4:(0-1-d).natAbs<=4:=by omega
      have a9:=zE e9 (by decide) rfl;have k2:=mZ t4;have nl:=jZ (fv (0-1-d) 2);have dn:=jZ rt;have hat9:NumT H9 (.ref at2) rt:=NumT.same (NumT.but ⟨at2,rfl,hat⟩ b8 T7') s9;obtain⟨_,eq,hat9⟩:=hat9;cases eq;refine⟨_,rfl,_,rfl,at2,m9,_,_,_,_,rfl,hat9,a9,dn.1,nl.1,jE sd.1 (by decide),jE sd.2 (by decide),k2.1,k2.2,λr H10 n10 s10 e10=>?_⟩;rw[kE,kE]at e10;refine go2 _ _ (.mk (b8.trans ((But.of s9).trans (But.of s10))) ((T8.mono (s9.trans s10) (by omega))) ⟨r,rfl,e10⟩ λL' L0' hL=>?_);obtain⟨w',b'⟩:=hL _ mot rt rfl;exact⟨(w'.up 2).add wh_two,b'.add (bd_two t4)⟩
    | some ro=>
     rw[hoo']at eo7 so moo;obtain⟨ao,rfl,hao⟩:=eo7;have sdo:=(so ro rfl).bits;have dno:=jZ ro;refine iteF ⟨_,rfl,_,rfl, ?_⟩;rw[isn H7 _ _ et7];cases hot':ot with
     | none=>
      refine iteT ⟨_,rfl,wZ rfl T7' (by omega) (by decide) (by decide) λd H8 d0 d1 T8 b8=>⟨_,_,rfl,rfl,1+d,2,rfl,by decide,.inl (by decide),λm9 H9 n9 s9 e9=>?_⟩⟩;have t4:(1+d).natAbs<=4:=by omega
      have a9:=zE e9 (by decide) rfl;have k2:=mZ t4;have nl:=jZ (fv (1+d) 2);have hao9:NumT H9 (.ref ao) ro:=NumT.same (NumT.but ⟨ao,rfl,hao⟩ b8 T7') s9;obtain⟨_,eq,hao9⟩:=hao9;cases eq;refine⟨ao,m9,_,_,_,_,rfl,hao9,a9,dno.1,nl.1,jE sdo.1 (by decide),jE sdo.2 (by decide),k2.1,k2.2,λr H10 n10 s10 e10=>?_⟩;rw[kE,kE]at e10;refine go2 _ _ (.mk (b8.trans ((But.of s9).trans (But.of s10))) ((T8.mono (s9.trans s10) (by omega))) ⟨r,rfl,e10⟩ λL' L0' hL=>?_);obtain⟨w',b'⟩:=hL _ moo ro rfl;exact⟨(w'.up 2).add wh_two,b'.add (bd_two t4)⟩
     | some rt=>
      rw[hot']at et7 st mot;obtain⟨at2,rfl,hat⟩:=et7;have sdt:=(st rt rfl).bits;have dnt:=jZ rt;refine iteF ⟨_,rfl,_,rfl,ao,at2,_,_,_,_,rfl,hao,hat,dno.1,dnt.1,jE sdo.1 (by decide),jE sdo.2 (by decide),jE sdt.1 (by decide),jE sdt.2 (by decide),λr8 t' b' H8 n8 s8 e8 pb lb eq=>?_⟩;have bits:=qN dno.1 dnt.1 sdo.1 sdo.2 sdt.1 sdt.2 lb eq;refine⟨(by show 2<=sizeLine;decide),λh9 H9 n9 s9 e9=>⟨r8,h9,t',b',1,2,rfl,s9 _ _ e8,e9,jE bits.1 (by decide),jE bits.2 (by decide),jE (show(1:Int).natAbs<2^1 by decide) (by decide),jE (show(2:Int).natAbs<2^2 by decide) (by decide),λm10 H10 n10 s10 e10=>?_⟩⟩;refine⟨_,rfl,m10,_,_,_,rfl,rfl,SqT.of e10,rfl,_,rfl,m10,_,_,_,rfl,rfl,SqT.of e10,rfl,t'*1,b'*2,rfl,by omega,.inl (jE (jW bits.2 (show(2:Int).natAbs<2^2 by decide)) (by decide)),λr11 H11 n11 s11 e11=>?_⟩;have vv:fv (t'*1) (b'*2)=(ro+rt)*fv 1 2:=by rw[uY,vE dno.1 dnt.1 pb eq,kE,kE]
      have s711:=s8.trans (s9.trans (s10.trans s11));refine go2 _ _ (.mk (But.of s711) (T7'.mono s711 (by omega)) ⟨r11,rfl,zE e11 (by omega) vv⟩ λL' L0' hL=>?_);have k:=half_ok (hL _ moo ro rfl) (hL _ mot rt rfl) _ rfl;exact⟨k.1,k.2.mono (by omega)⟩
  ·obtain⟨n6,b6,T6,e6,pr6,pl6⟩:=h;rename_i p vs os;refine⟨_,rfl,go p vs os H6 n6 b6 (T6.mono (Same.refl _) (by omega)) e6 pr6 ?_⟩;have:=pl6.ups (2-c.toNat);rw[show c.toNat+(2-c.toNat)=2 by omega]at this;exact this
end
end Lw
namespace Lw
open PySem PySem.Spec PyProof.Rows L2 LwQ
structure Co(N d k:Nat)(c:Nat->Rat):Prop where
 z:∀j,N<=j->c j=0
 dn:∃D:Int,0<D/\D.natAbs<2^d/\∀j,Wh D (c j)
 bd:∀j,Bd (2^k) (c j)
theorem mQ{t b:Int}{k:Nat}(hb:0<b)(h:t.natAbs<=2^k):Bd (2^k) (fv t b):=uQ hb rfl (Nat.le_trans h (Nat.le_mul_of_pos_right _ (by omega)))
theorem Co.drawn{c:Nat->Rat}{m:Nat}(h:Drawn c m)(hm:m<=4):Co m 28 14 c:=by
 obtain⟨z,f⟩:=h;obtain⟨t0,u0,p0,a0,b0,e0⟩:=f 0;obtain⟨t1,u1,p1,a1,b1,e1⟩:=f 1;obtain⟨t2,u2,p2,a2,b2,e2⟩:=f 2;obtain⟨t3,u3,p3,a3,b3,e3⟩:=f 3;have q:=Int.mul_pos (Int.mul_pos p0 p1) (Int.mul_pos p2 p3);refine⟨z,⟨u0*u1*(u2*u3),q,jE (jW (jW b0 b1) (jW b2 b3)) (by decide),λj=>?_⟩,λj=>?_⟩
 ·match j with
  | 0=>rw[e0];exact(Wh.of p0).of_dvd (Int.dvd_trans (Int.dvd_mul_right u0 u1) (Int.dvd_mul_right _ _))
  | 1=>rw[e1];exact(Wh.of p1).of_dvd (Int.dvd_trans (Int.dvd_mul_left u0 u1) (Int.dvd_mul_right _ _))
  | 2=>rw[e2];exact(Wh.of p2).of_dvd (Int.dvd_trans (Int.dvd_mul_right u2 u3) (Int.dvd_mul_left _ _))
  | 3=>rw[e3];exact(Wh.of p3).of_dvd (Int.dvd_trans (Int.dvd_mul_left u2 u3) (Int.dvd_mul_left _ _))
  | j+4=>rw[z (j+4) (by omega)];exact Wh.zero _
 ·obtain⟨t,u,p,a,b,e⟩:=f j;rw[e];exact mQ p (Nat.le_of_lt a)
theorem sumF_wh{D:Int}{F:Nat->Rat}(h:∀n,Wh D (F n)):∀l:List Nat,Wh D (sumF F l)
 | []=>Wh.zero _
 | n::r=>(h n).add (sumF_wh h r)
theorem sumF_bd{R:Nat}{F:Nat->Rat}(h:∀n,Bd R (F n)):∀l:List Nat,Bd (l.length*R) (sumF F l)
 | []=>zO _
 | n::r=>by
  rw[List.length_cons,Nat.succ_mul,Nat.add_comm];exact(h n).add (sumF_bd h r)
theorem sumF_z{F:Nat->Rat} :∀{l:List Nat},(∀n∈l,F n=0)->sumF F l=0
 | [],_=>rfl
 | n::r,h=>by
  show F n+sumF F r=0;rw[h n (List.mem_cons_self ..),sumF_z λm hm=>h m (List.mem_cons_of_mem _ hm),Rat.add_zero]
theorem Co.conv{N1 N2 d1 d2 k1 k2:Nat}{c1 c2:Nat->Rat}(h1:Co N1 d1 k1 c1)(h2:Co N2 d2 k2 c2)(n1:1<=N1):Co (N1+N2-1) (d1+d2) (k1+k2+5) (conv c1 c2):=by
 obtain⟨D1,p1,b1,w1⟩:=h1.dn;obtain⟨D2,p2,b2,w2⟩:=h2.dn;have term:∀j n,Wh (D1*D2) (sh n (c1 n) c2 j)/\Bd (2^k1*2^k2) (sh n (c1 n) c2 j):=λj n=>by
  unfold sh;split
  ·exact⟨(w1 n).mul (w2 _),(h1.bd n).mul (h2.bd _)⟩
  ·exact⟨Wh.zero _,zO _⟩
 refine⟨λj hj=>?_,⟨D1*D2,Int.mul_pos p1 p2,jW b1 b2,λj=>sumF_wh (λn=>(term j n).1) _⟩,λj=>?_⟩
 ·refine sumF_z λn _=>?_;unfold sh;split
  ·by_cases hn:N1<=n
   ·rw[h1.z n hn,Rat.zero_mul]
   ·rw[h2.z (j-n) (by omega),Rat.mul_zero]
  ·rfl
 ·have:=sumF_bd (λn=>(term j n).2) (List.range 24);refine this.mono ?_;rw[List.length_range,Nat.pow_add,Nat.pow_add,Nat.mul_comm];exact Nat.mul_le_mul_left _ (by decide)
theorem Co.str{x y:Rat}{L:Int}{d k:Nat}(L0:0<L)(L1:L.natAbs<2^d)(hx:Wh L x/\Bd (2^k) x)(hy:Wh L y/\Bd (2^k) y):Co 2 d k (strC x y):=by
 have val:∀j,strC x y j=if j=0 then x else if j=1 then y else 0:=λj=>by
  show(0+if j=0 then x else 0)+(if j=1 then y else 0)=_
  match j with
  | 0=>simp [Rat.zero_add,Rat.add_zero]
  | 1=>simp [Rat.zero_add]
  | j+2=>simp [Rat.add_zero]
 refine⟨λj hj=>?_,⟨L,L0,L1,λj=>?_⟩,λj=>?_⟩
 ·rw[val,if_neg (by omega),if_neg (by omega)]
 ·rw[val];split
  ·exact hx.1
  ·split
   ·exact hy.1
   ·exact Wh.zero _
 ·rw[val];split
  ·exact hx.2
  ·split
   ·exact hy.2
   ·exact zO _
theorem Co.scl{N d k e m:Nat}{c:Nat->Rat}{o u:Int}(h:Co N d k c)(hu:0<u)(su:u.natAbs<2^e)(so:o.natAbs<=2^m):Co N (d+e) (k+m) (λj=>c j*fv o u):=by
 obtain⟨D,p,b,w⟩:=h.dn;refine⟨λj hj=>by show c j*_=0;rw[h.z j hj,Rat.zero_mul],⟨D*u,Int.mul_pos p hu,jW b su,λj=>(w j).mul (Wh.of hu)⟩,λj=>?_⟩;rw[Nat.pow_add];exact(h.bd j).mul (mQ hu so)
theorem Co.add{N d1 d2 k:Nat}{c1 c2:Nat->Rat}(h1:Co N d1 k c1)(h2:Co N d2 k c2):Co N (d1+d2) (k+1) (λj=>c1 j+c2 j):=by
 obtain⟨D1,p1,b1,w1⟩:=h1.dn;obtain⟨D2,p2,b2,w2⟩:=h2.dn;refine⟨λj hj=>by show c1 j+c2 j=0;rw[h1.z j hj,h2.z j hj,Rat.add_zero],⟨D1*D2,Int.mul_pos p1 p2,jW b1 b2,λj=>?_⟩,λj=>?_⟩
 ·exact((w1 j).up D2).add (by rw[Int.mul_comm];exact(w2 j).up D1)
 ·rw[Nat.pow_succ,Nat.mul_two];exact(h1.bd j).add (h2.bd j)
theorem Co.up{N N' d d' k k':Nat}{c:Nat->Rat}(h:Co N d k c)(hN:N<=N')(hd:d<=d')(hk:k<=k'):Co N' d' k' c:=by
 obtain⟨D,p,b,w⟩:=h.dn;exact⟨λj hj=>h.z j (by omega),⟨D,p,jE b hd,w⟩,λj=>(h.bd j).mono (Nat.pow_le_pow_right (by decide) hk)⟩
theorem Co.nil:Co 9 1 0 (λ_=>0):=⟨λ_ _=>rfl,⟨1,by decide,by decide,λ_=>Wh.zero _⟩,λ_=>zO _⟩
theorem Co.sm{c:Nat->Rat}(h:Co 9 299 180 c):Sm c:=by
 obtain⟨D,p,b,w⟩:=h.dn;have dv:∀j,((c j).den:Int)∣D:=λj=>wh_den (w j);refine⟨h.z,⟨D,p,Nat.le_of_lt (jE b (by decide)),dv⟩,λj=>?_⟩;have d:=Int.le_of_dvd p (dv j);have d2:(c j).den<=2^299:=by omega
 have:(c j).num.natAbs<=2^(180+299):=by
  rw[Nat.pow_add];exact Nat.le_trans (h.bd j) (Nat.mul_le_mul_left _ d2)
 exact Nat.lt_of_le_of_lt this (Nat.pow_lt_pow_right (by decide) (by decide))
end Lw
namespace Lw
open PySem PySem.Spec PyProof.Rows L2 LwQ
theorem yF{H:Hp}{d:Addr}{c:Nat->Rat}{s:Nat->Nat}{E:List Ent}{o:Obj}(e:H d=some (.dT (E.map Ent.kv)))(r:RepE H E c s):FrzP (upd H d (.frz o (.dT (E.map Ent.kv)))) d c s:=
 ⟨E,o,jK,r.map λa xs h=>by rw[jQ λz=>by rw[z,e]at h;cases h];exact h⟩
theorem put_but{p l:Addr}{H H':Hp}{o:HO}(b:But p H H')(n:H l=none):But p H (upd H' l o):=λc u h hc=>by
 rw[jQ (λz=>by rw[z,n]at h;cases h)];exact b c u h hc
theorem tape_put{cl tp d:Addr}{H H1:Hp}{B B':Int}{o:HO}(T0:Tape cl H tp B)(n:H d=none)(T:Tape cl H1 tp B'):Tape cl (upd H1 d o) tp B':=by
 obtain⟨_,_,_,_,h1,h2,_⟩:=T0;obtain⟨ns,a,b,c,e1,e2,e3⟩:=T;exact⟨ns,a,b,c,by rw[jQ (λz=>by rw[<-z,h1]at n;cases n)];exact e1,by rw[jQ (λz=>by rw[<-z,h2]at n;cases n)];exact e2,e3⟩
theorem FrzP.butT{cl tp:Addr}{H H':Hp}{d:Addr}{c:Nat->Rat}{z:Nat->Nat}{B:Int}(h:FrzP H d c z)(b:But tp H H')(T:Tape cl H tp B):FrzP H' d c z:=by
 obtain⟨ns,_,_,_,e,_⟩:=T;exact h.but b λa u ha nl _ y=>by rw[y,e]at ha;exact nl _ (Option.some.inj ha).symm
theorem DictP.butT{cl tp:Addr}{H H':Hp}{d:Addr}{c:Nat->Rat}{z:Nat->Nat}{B:Int}(h:DictP H d c z)(b:But tp H H')(T:Tape cl H tp B):DictP H' d c z:=by
 obtain⟨E,e,r⟩:=h;obtain⟨ns,_,_,_,q,_⟩:=T;exact⟨E,b _ _ e (λy=>by rw[y,q]at e;cases e),r.map λa xs ha=>b _ _ ha (λy=>by rw[y,q]at ha;cases ha)⟩
theorem DictP.same'{H H':Hp}{d:Addr}{c:Nat->Rat}{z:Nat->Nat}(h:DictP H d c z)(s:Same H H'):DictP H' d c z:=by
 obtain⟨E,e,r⟩:=h;exact⟨E,s _ _ e,r.map λa xs ha=>s _ _ ha⟩
noncomputable def spGood:Sp:=λvs H Q _=>∃(tp:Addr) (x y:V) (lo hi:Option Rat) (L B:Int),vs=[.ref tp,x,y]/\EndT H x lo/\EndT H y hi/\0<L/\L.natAbs<2^14/\En L (2^17) lo/\En L (2^17) hi/\∃cl,Tape cl H tp B/\B<2^29/\
 ∀(d:Addr) (c:Nat->Rat) (H':Hp),H d=none->But tp H H'->Tape cl H' tp (B+1000)->DictP H' d c (λ_=>1354)->Co 9 183 93 c->Q (.ref d) H'
inductive GoI(H:Hp)(cl tp:Addr)(x y:V)(B:Int)(i:Nat):L2.St->Hp->Prop where
 | mk {u4 u5 u6 u7:Option V} {H':Hp} {d:Addr} {c:Nat->Rat} (n:H d=none) (b:But tp H H') (T:Tape cl H' tp (B+1+300*i)) (D:DictP H' d c (λ_=>677*i)) (co:Co 9 (1+91*i) (91+i) c):GoI H cl tp x y B i [some (.ref tp),some x,some y,some (.ref d),u4,u5,u6,u7] H'
inductive GoJ(H1:Hp)(cl tp:Addr)(x y:V)(d:Addr)(m N e k:Nat)(B:Int):L2.St->Hp->Prop where
 | mk {u4 u5 u7:Option V} {H':Hp} {g:Addr} {c:Nat->Rat} (b:But tp H1 H') (T:Tape cl H' tp B) (F:FrzP H' g c (λ_=>m)) (co:Co N e k c):GoJ H1 cl tp x y d m N e k B [some (.ref tp),some x,some y,some (.ref d),u4,u5,some (.ref g),u7] H'
theorem en_bits{L:Int}{r:Rat}(L0:0<L)(L1:L.natAbs<2^14)(h:Wh L r/\Bd (2^17) r):r.num.natAbs<2^31/\((r.den:Int)).natAbs<2^31:=by
 have d:=Int.le_of_dvd L0 (wh_den h.1);have d2:r.den<2^14:=by omega
 refine⟨?_,by rw[Int.natAbs_natCast];exact Nat.lt_of_lt_of_le d2 (Nat.pow_le_pow_right (by decide) (by decide))⟩;have e:(2:Nat)^31=2^17*2^14:=by rw[<-Nat.pow_add]
 rw[e];exact Nat.lt_of_le_of_lt h.2 (Nat.mul_lt_mul_of_pos_left d2 (Nat.two_pow_pos _))
theorem four_at{r:Int}(h0:0<=r)(h1:r<4):∃m:Nat,(m=1∨m=3)/\atI [V.int 1,.int 1,.int 1,.int 3] r=some (V.int m):=by
 have:r=0∨r=1∨r=2∨r=3:=by omega
 rcases this with rfl | rfl | rfl | rfl
 ·exact⟨1,.inl rfl,rfl⟩
 ·exact⟨1,.inl rfl,rfl⟩
 ·exact⟨1,.inl rfl,rfl⟩
 ·exact⟨3,.inr rfl,rfl⟩
theorem co_lt{N1 N2 d1 d2 k1 k2:Nat}{c1 c2:Nat->Rat}(h1:Co N1 d1 k1 c1)(h2:Co N2 d2 k2 c2)(h:N1+N2<=24):∀i j,c1 i≠0->c2 j≠0->i+j<24:=λi j a b=>by
 have:i<N1:=Classical.byContradiction λz=>a (h1.z i (by omega));have:j<N2:=Classical.byContradiction λz=>b (h2.z j (by omega));omega
theorem wh_one(L:Int):Wh L (fv 1 1)/\Wh L (fv (0-1) 1):=⟨(Wh.of (t:=1) (b:=1) (by decide)).of_dvd (Int.one_dvd _),(Wh.of (t:=0-1) (b:=1) (by decide)).of_dvd (Int.one_dvd _)⟩
section
variable{P:Program}{w:World}{K:PySem.W.Frag}{mg:Str->Option Value}{base:Heap}{f fd:_}
theorem scGood:FnScope ["tape","low","high","found","k","line","some","weight"] ["tape","low","high"] (jO sGood):=⟨rfl,rfl,rfl,by decide +kernel,rfl,by decide +kernel,by decide +kernel⟩
theorem ok_good{fD fY fX fS fI fN fA fC:Addr}{fdD fdY fdX fdS fdI fdN fdA fdC:FuncData}(F:Fun K "_law_good" "_law_good" sGood f fd)(T:Txt mg)(DD:Df K mg "_law_draw" yL ["tape","many"] fD fdD)(GD:FnOk P w K mg base CX0 1 fD fdD ["tape","many"] spDraw)(DY:Df K mg "_law_poly" nA ["tape","most"] fY fdY)(GY:FnOk P w K mg base CX0 3 fY fdY ["tape","most"] spPoly)
  (DX:Df K mg "_law_product" yQ ["one","other"] fX fdX) (GX:FnOk P w K mg base CX0 3 fX fdX ["one","other"] spProd) (DS:Df K mg "_law_straight" xV ["first","second"] fS fdS) (GS:FnOk P w K mg base CX0 3 fS fdS ["first","second"] spStraight) (DI:Df K mg "_law_minus" yS ["number"] fI fdI) (GI:FnOk P w K mg base CX0 1 fI fdI ["number"] spMinus)
  (DN:Df K mg "_law_number" xC ["tape"] fN fdN) (GN:FnOk P w K mg base CX0 2 fN fdN ["tape"] (zF 6 (2^38))) (DA:Df K mg "_law_added" wH ["one","other"] fA fdA) (GA:FnOk P w K mg base CX0 3 fA fdA ["one","other"] spLAdd) (DC:Df K mg "_law_scaled" wB ["one","number"] fC fdC) (GC:FnOk P w K mg base CX0 2 fC fdC ["one","number"] spScaled):FnOk P w K mg base CX0 4 f fd ["tape","low","high"] spGood:=by
 refine F.ok scGood (λvs H Q E h=>?_) (λcdv A outer s H vs Q E hr h=>?_)
 ·obtain⟨tp,x,y,lo,hi,L,B,rfl,_⟩:=h
  rfl
 ·obtain⟨tp,x,y,lo,hi,L,B,rfl,hx,hy,L0,L1,el,eh,cl,hT,hB,go⟩:=h;have hr1:Room 1 _:=hr.mono (by decide);have hr2:Room 2 _:=hr.mono (by decide);have p29:(2:Int)^29+2000<2^30:=by decide
  have p30:(2:Int)^30<2^38:=by decide
  have p38:(2:Int)^38<2^40:=by decide
  refine⟨_,jB (jI (i:=3) scGood.nd rfl (Or.inl rfl) (xX)) (jB (kW PassesOwn.never rfl (qD (by rfl) T.rng (jA (jJ kM jD (jG GD hr1 rfl DD.m DD.F.kp DD.b .nil jL (jA (pv 0) (jA jD jC)))) jC)) (jH (i:=4) scGood.nd rfl (Or.inl rfl)) (jB (jI (i:=5) scGood.nd rfl (Or.inl rfl) (LwD.yC (jG GY hr rfl DY.m DY.F.kp DY.b .nil jL (jA (pv 0) (jA (jT kQ (kR (jA jD (jA jD (jA jD (jA jD jC))))) (jG GD hr1 rfl DD.m DD.F.kp DD.b .nil jL (jA (pv 0) (jA jD jC))) (λ_ _=>rfl)) jC))))) (jB (jI (i:=6) scGood.nd rfl (Or.inl rfl) (LwD.yC (jG GX hr rfl DX.m DX.F.kp DX.b .nil jL (jA (pv 5) (jA (pv 5) jC))))) (jB (jX (PW.pt (qV (qF (vJ (pv 1))) (qT (jR qP (jG GD hr1 rfl DD.m DD.F.kp DD.b .nil jL (jA (pv 0) (jA jD jC))) jD (jS _))))) (jF (jI (i:=6) scGood.nd rfl (Or.inl rfl) (LwD.yC (jG GX hr rfl DX.m DX.F.kp DX.b .nil jL (jA (pv 6) (jA (LwD.yC (jG GS hr rfl DS.m DS.F.kp DS.b .nil jL (jA (jG GI hr1 rfl DI.m DI.F.kp DI.b .nil jL (jA (pv 1) jC)) (jA (jV (jA jD (jA jD jC))) jC)))) jC)))))) jP) (jB (jX (PW.pt (qV (qF (vJ (pv 2))) (qT (jR qP (jG GD hr1 rfl DD.m DD.F.kp DD.b .nil jL (jA (pv 0) (jA jD jC))) jD (jS _))))) (jF (jI (i:=6) scGood.nd rfl (Or.inl rfl) (LwD.yC (jG GX hr rfl DX.m DX.F.kp DX.b .nil jL (jA (pv 6) (jA (LwD.yC (jG GS hr rfl DS.m DS.F.kp DS.b .nil jL (jA (pv 2) (jA (jV (jA (jJ qB jD jD) (jA jD jC))) jC)))) jC)))))) jP) (jB (jI (i:=7) scGood.nd rfl (Or.inl rfl) (jG GN hr2 rfl DN.m DN.F.kp DN.b .nil jL (jA (pv 0) jC))) (jF (jI (i:=3) scGood.nd rfl (Or.inl rfl) (jG GA hr rfl DA.m DA.F.kp DA.b .nil jL (jA (pv 3) (jA (LwD.yC (jG GC hr2 rfl DC.m DC.F.kp DC.b .nil jL (jA (pv 6) (jA (jV (jA (kA mO (by rfl) T.abs boot_abs (jA (jT jU (pv 7) jD (λ_ _=>rfl)) jC)) (jA (jT jU (pv 7) jD (λ_ _=>rfl)) jC))) jC)))) jC))))))))))) (jF (jN (pv 3)))), ?_⟩
  try dsimp only
  intro d0 n0;have T0:Tape cl (upd H d0 (.dT [])) tp B:=tape_put hT n0 hT;have b0:But tp H (upd H d0 (.dT [])):=put_but (But.refl _ _) n0;have D0:DictP (upd H d0 (.dT [])) d0 (λ_=>0) (λ_=>677*0):=⟨[],jK,zH _⟩;generalize upd H d0 (.dT [])=H1 at T0 b0 D0;refine wZ rfl T0 (by omega) (by decide) (by decide) λc H2 c0 c1 T2 b2=>⟨_,_,rfl,rfl,_,rfl,by omega,by omega, ?_⟩;have isn:∀(H:Hp) (z:V) (o:Option Rat),EndT H z o->decide (z=.non)=o.isNone:=λH z o h=>by
   cases o with
   | none=>rw[show z=.non from h];rfl
   | some q=>obtain⟨_,rfl,_⟩:=h;rfl
  refine qE (n:=(1+c).toNat) (GoI H cl tp x y B) (.mk n0 (b0.trans b2) (T2.mono (Same.refl _) (by omega)) (D0.butT b2 T0) (Co.nil.up (Nat.le_refl _) (Nat.le_refl _) (Nat.zero_le _))) (λi σ H3 hii h=>?_) (fun σ H3 h=>?_)
  ·obtain⟨n3,b3,T3,D3,co3⟩:=h;rename_i u4 u5 u6 u7 d cc;have i2:i<2:=by omega
   have x3:=hx.but b3 hT;have y3:=hy.but b3 hT;refine⟨_,rfl,(by show 4<=sizeLine;decide),λl4 H4 n4 s4 e4=>wZ rfl (T3.mono s4 (Int.le_refl _)) (by omega) (by decide) (by decide) λr H5 r0 r1 T5 b5=>?_⟩;obtain⟨m,hm,am⟩:=four_at r0 r1;refine⟨l4,_,r,_,rfl,rfl,SqL.of (b5 _ _ e4 (vM T3 n4)),am, ?_⟩;refine⟨tp,m,_,rfl,by omega,cl,T5,by omega,λld cL' H6 n6 b6 T6 D6 dr=>?_⟩;obtain⟨E6,e6,R6⟩:=D6;refine⟨ld,_,rfl,e6,λo6=>?_⟩;have F6:=yF (o:=o6) e6 R6;have T6':=tape_put (o:=.frz o6 (.dT (E6.map Ent.kv))) T5 n6 T6;have b6':But tp H5 _:=put_but (o:=.frz o6 (.dT (E6.map Ent.kv))) b6 n6;generalize upd H6 ld (.frz o6 (.dT (E6.map Ent.kv)))=H7 at F6 T6' b6';have b37:But tp H3 H7:=((But.of s4).trans b5).trans b6';have coL:Co 4 28 14 cL':=(Co.drawn dr (by omega)).up (by omega) (Nat.le_refl _) (Nat.le_refl _);refine⟨_,rfl,_,rfl,ld,ld,cL',cL',14,14,rfl,F6,F6,by decide,co_lt coL coL (by decide),4,.inl coL.z,by decide,λsq H8 n8 s8 D8=>?_⟩;obtain⟨E8,e8,R8⟩:=D8;refine⟨sq,_,rfl,e8,λo8=>?_⟩;have F8:=yF (o:=o8) e8 R8;have s8':Same H7 _:=kF (o:=.frz o8 (.dT (E8.map Ent.kv))) s8 n8;generalize upd H8 sq (.frz o8 (.dT (E8.map Ent.kv)))=H9 at F8 s8';have b39:But tp H3 H9:=b37.trans (But.of s8');have T9:Tape cl H9 tp (B+1+300*i+210):=T6'.mono s8' (by omega);have co8:Co 7 56 33 (conv cL' cL'):=coL.conv coL (by decide);dsimp only[kN];refine kK (t:=tIfS _ _ _) (GoJ H3 cl tp x y d 298 8 70 55 (B+1+300*i+211)) ?_ (λgo2=>?_)
   rotate_left
   ·refine⟨_,rfl,_,rfl, ?_⟩;have x9:=x3.but b39 T3;rw[isn H9 _ _ x9];cases hlo:lo with
    | none=>exact iteF (iteF (go2 _ _ (.mk b39 (T9.mono (Same.refl _) (by omega)) (F8.mono λ_=>by show 4*(14+14+1)<=298;decide) (co8.up (by decide) (by decide) (by decide)))))
    | some lq=>
     rw[hlo]at x9 el;obtain⟨ax,rfl,hax⟩:=x9;have ln:=el lq rfl;have bits:=en_bits L0 L1 ln;have nl:=jZ lq;refine iteT (wZ rfl T9 (by omega) (by decide) (by decide) λq H10 q0 q1 T10 b10=>⟨rfl,_,rfl, ?_⟩);have b310:=b39.trans b10;have F10:=F8.butT b10 T9;refine ite2 (λ_=>?_) (λ_=>go2 _ _ (.mk b310 (T10.mono (Same.refl _) (by omega)) (F10.mono λ_=>by show 4*(14+14+1)<=298;decide) (co8.up (by decide) (by decide) (by decide))));obtain⟨_,eq,hax10⟩:=NumT.but ⟨ax,rfl,hax⟩ b10 T9;cases eq;refine⟨_,rfl,_,rfl,ax,_,_,rfl,hax10,λmn H11 n11 s11 e11=>⟨(by show 2<=sizeLine;decide),λon H12 n12 s12 e12=>?_⟩⟩;have on12:At2 H12 on 1 1:=e12;have neg:fv (0-lq.num) lq.den = -lq:=by rw[mF nl.1,kE]
     refine⟨mn,on,_,_,1,1,31,rfl,s12 _ _ e11,on12,nl.1,by decide,by rw[Int.zero_sub,Int.natAbs_neg];exact bits.1,bits.2,by decide,by decide,by decide,λsd H13 n13 s13 D13=>?_⟩;obtain⟨E13,e13,R13⟩:=D13;refine⟨sd,_,rfl,e13,λo13=>?_⟩;have F13:=yF (o:=o13) e13 R13;have s13':Same H12 _:=kF (o:=.frz o13 (.dT (E13.map Ent.kv))) s13 n13;generalize upd H13 sd (.frz o13 (.dT (E13.map Ent.kv)))=H14 at F13 s13';have s1014:=s11.trans (s12.trans s13');rw[neg]at F13;have coS:Co 2 14 17 (strC (-lq) (fv 1 1)):=Co.str L0 L1 ⟨by have:=(Wh.zero L).sub ln.1;rw[Rat.sub_eq_add_neg,Rat.zero_add]at this;exact this,ln.2.neg⟩ ⟨(wh_one L).1,mQ (by decide) (by decide)⟩;refine⟨sq,sd,_,_,116,32,rfl,F10.same s1014,F13,by decide,co_lt co8 coS (by decide),2,.inr coS.z,by decide,λpr H15 n15 s15 D15=>?_⟩;obtain⟨E15,e15,R15⟩:=D15;refine⟨pr,_,rfl,e15,λo15=>?_⟩;have F15:=yF (o:=o15) e15 R15;have s15':Same H14 _:=kF (o:=.frz o15 (.dT (E15.map Ent.kv))) s15 n15;generalize upd H15 pr (.frz o15 (.dT (E15.map Ent.kv)))=H16 at F15 s15';exact go2 _ _ (.mk (b310.trans (But.of (s1014.trans s15'))) (T10.mono (s1014.trans s15') (by omega)) F15 (co8.conv coS (by decide)))
   rintro σ10 H10 ⟨b10,T10,F10,co10⟩;rename_i u4' u5' u7' g10 c10;refine kK (t:=tIfS _ _ _) (GoJ H3 cl tp x y d 662 9 84 77 (B+1+300*i+212)) ?_ (λgo2=>?_)
   rotate_left
   ·refine⟨_,rfl,_,rfl, ?_⟩;have x9:=y3.but b10 T3;rw[isn H10 _ _ x9];cases hlo:hi with
    | none=>exact iteF (iteF (go2 _ _ (.mk b10 (T10.mono (Same.refl _) (by omega)) (F10.mono λ_=>by decide) (co10.up (by decide) (by decide) (by decide)))))
    | some lq=>
     rw[hlo]at x9 eh;obtain⟨ax,rfl,hax⟩:=x9;have ln:=eh lq rfl;have bits:=en_bits L0 L1 ln;have nl:=jZ lq;refine iteT (wZ rfl T10 (by omega) (by decide) (by decide) λq H11 q0 q1 T11 b11=>⟨rfl,_,rfl, ?_⟩);have b311:=b10.trans b11;have F11:=F10.butT b11 T10;refine ite2 (λ_=>?_) (λ_=>go2 _ _ (.mk b311 (T11.mono (Same.refl _) (by omega)) (F11.mono λ_=>by decide) (co10.up (by decide) (by decide) (by decide))));obtain⟨_,eq,hax11⟩:=NumT.but ⟨ax,rfl,hax⟩ b11 T10;cases eq;refine⟨_,rfl,_,rfl,_,_,rfl,rfl,(by show 2<=sizeLine;decide),λon H12 n12 s12 e12=>?_⟩;have on12:At2 H12 on (0-1) 1:=e12;refine⟨ax,on,_,_,0-1,1,31,rfl,s12 _ _ hax11,on12,nl.1,by decide,bits.1,bits.2,by decide,by decide,by decide,λsd H13 n13 s13 D13=>?_⟩;obtain⟨E13,e13,R13⟩:=D13;refine⟨sd,_,rfl,e13,λo13=>?_⟩;have F13:=yF (o:=o13) e13 R13;have s13':Same H12 _:=kF (o:=.frz o13 (.dT (E13.map Ent.kv))) s13 n13;generalize upd H13 sd (.frz o13 (.dT (E13.map Ent.kv)))=H14 at F13 s13';have s1114:=s12.trans s13';rw[kE]at F13;have coS:Co 2 14 17 (strC lq (fv (0-1) 1)):=Co.str L0 L1 ln ⟨(wh_one L).2,mQ (by decide) (by decide)⟩;refine⟨g10,sd,_,_,298,32,rfl,F11.same s1114,F13,by decide,co_lt co10 coS (by decide),2,.inr coS.z,by decide,λpr H15 n15 s15 D15=>?_⟩;obtain⟨E15,e15,R15⟩:=D15;refine⟨pr,_,rfl,e15,λo15=>?_⟩;have F15:=yF (o:=o15) e15 R15;have s15':Same H14 _:=kF (o:=.frz o15 (.dT (E15.map Ent.kv))) s15 n15;generalize upd H15 pr (.frz o15 (.dT (E15.map Ent.kv)))=H16 at F15 s15'
     exact go2 _ _ (.mk (b311.trans (But.of (s1114.trans s15'))) (T11.mono (s1114.trans s15') (by omega)) F15 (co10.conv coS (by decide)))
   rintro σ11 H11 ⟨b11,T11,F11,co11⟩;rename_i v4 v5 v7 g11 c11;refine⟨_,rfl,tp,_,rfl,cl,T11,by omega,λnr nt nb H12 fr e12 rne T12 b12 _=>?_⟩;have b312:=b11.trans b12;have F12:=F11.butT b12 T11;have D12:=D3.butT b312 T3;refine⟨_,rfl,_,rfl,_,rfl,nr,_,_,_,rfl,rfl,SqT.of e12,rfl,nt,rfl,_,rfl,nr,_,_,_,rfl,rfl,SqT.of e12,rfl,(by show 2<=sizeLine;decide),λwa H13 n13 s13 e13=>?_⟩;have ab:(if nt<0 then -nt else nt).natAbs=nt.natAbs:=by split<;>omega
   have e13':At2 H13 wa (if nt<0 then -nt else nt) nb:=e13;generalize (if nt<0 then -nt else nt)=wt at e13' ab;refine⟨g11,wa,c11,662,14,wt,nb,rfl,F12.same s13,e13',fr.pos,by rw[ab];exact fr.st,jE fr.sb (by decide),by decide,by decide,λsc H14 n14 s14 D14=>?_⟩;obtain⟨E14,e14,R14⟩:=D14;refine⟨sc,_,rfl,e14,λo14=>?_⟩;have F14:=yF (o:=o14) e14 R14;have s14':Same H13 _:=kF (o:=.frz o14 (.dT (E14.map Ent.kv))) s14 n14;generalize upd H14 sc (.frz o14 (.dT (E14.map Ent.kv)))=H15 at F14 s14';have s1215:=s13.trans s14';refine⟨d,sc,cc,_,_,_,rfl,(D12.same' s1215).rd,F14,λ_=>by omega,λ_=>by decide,λnd H16 n16 s16 D16=>?_⟩;have s1216:=s1215.trans s16;have coW:Co 9 91 91 (λj=>c11 j*fv wt nb):=co11.scl (e:=7) (m:=14) fr.pos fr.sb (by rw[ab];exact Nat.le_of_lt fr.st);have B12:But tp H H12:=b3.trans b312;have n16':H12 nd=none:=s1215.free n16;refine .mk (mP B12 (vM T12 n16') n16') (B12.trans (But.of s1216)) (T12.mono s1216 (by omega)) (D16.mono λj=>by show 677*i+(662+14+1)<=677*(i+1);omega) ?_;have:=Co.add co3 (coW.up (Nat.le_refl _) (Nat.le_refl _) (show 91<=91+i by omega));exact this.up (Nat.le_refl _) (by omega) (by omega)
  ·obtain⟨n3,b3,T3,D3,co3⟩:=h;rename_i d cc;exact⟨_,rfl,go d cc H3 n3 b3 (T3.mono (Same.refl _) (by omega)) (D3.mono λ_=>by show 677*(1+c).toNat<=1354;omega) (co3.up (Nat.le_refl _) (by omega) (by omega))⟩
end
end Lw
namespace Lw
open PySem PySem.Spec PyProof.Rows L2 LwQ
theorem PcP.map{H H':Hp}{v:V}{q:Pc}(h:PcP H v q)(k1:∀a xs,H a=some (.tup xs)->H' a=some (.tup xs))(k2:∀a us rs,H a=some (.lst us)->Paired (NumT H) us rs->H' a=some (.lst us)):PcP H' v q:=by
 obtain⟨r,l,x,y,xs,e,e1,e2,e3,e4,e5⟩:=h.ex;have en:∀{z:V} {o:Option Rat},EndT H z o->EndT H' z o:=fun {z o} h=>by
  cases o with
  | none=>exact h
  | some r=>obtain⟨a,e,q⟩:=h;exact⟨a,e,k1 _ _ q⟩
 exact⟨r,l,x,y,xs,e,k1 _ _ e1,en e2,en e3,k2 _ _ _ e4 e5,Paired.mono (λ_ _ ⟨a,e,q⟩=>⟨a,e,k1 _ _ q⟩) e5⟩
theorem xP{cl tp a:Addr}{H:Hp}{B:Int}{us:List V}{rs:List Rat}(T:Tape cl H tp B)(e:H a=some (.lst us))(h:Paired (NumT H) us rs):a≠tp:=λz=>by
 obtain⟨ns,_,_,_,t1,t2,_⟩:=T;rw[z,t1]at e;cases (Option.some.inj e);cases h with
 | cons k _=>
  obtain⟨b,eb,q⟩:=k;cases eb;rw[show H cl=_ from q]at t2;cases t2
theorem nl_pcs{p a:Addr}{H:Hp}{us xs:List V}{rs:List Rat}{L:List Pc}(hp:H p=some (.lst xs))(pr:Paired (PcP H) xs L)(ne:xs≠[])(e:H a=some (.lst us))(h:Paired (NumT H) us rs):a≠p:=λz=>by
 rw[z,hp]at e;cases (Option.some.inj e);cases pr with
 | nil=>exact ne rfl
 | cons k _=>
  cases h with
  | cons m _=>
   obtain⟨b,eb,q⟩:=m;obtain⟨r,l,x,y,us,er,e1,_⟩:=k.ex;rw[eb]at er;cases er;rw[show H b=_ from q]at e1;cases e1
theorem PcP.butT{cl tp:Addr}{H H':Hp}{B:Int}{v:V}{q:Pc}(h:PcP H v q)(b:But tp H H')(T:Tape cl H tp B):PcP H' v q:=
 h.map (λa xs e=>b _ _ e λz=>by obtain⟨ns,_,_,_,t1,_⟩:=T;rw[z,t1]at e;cases e) λa us rs e k=>b _ _ e (xP T e k)
theorem PcP.put{p:Addr}{H:Hp}{xs:List V}{L:List Pc}{o:HO}{v:V}{q:Pc}(h:PcP H v q)(hp:H p=some (.lst xs))(pr:Paired (PcP H) xs L)(ne:xs≠[]):PcP (upd H p o) v q:=
 h.map (λa us e=>by rw[jQ λz=>by rw[z,hp]at e;cases e];exact e) λa us rs e k=>by rw[jQ (nl_pcs hp pr ne e k)];exact e
structure PcO(c:Nat->Rat)(n:Nat)(q:Pc):Prop where
 rs:q.rs=qG (cL c n) q.lo q.hi
 ok:EndOk q.lo q.hi
 en:∃L:Int,0<L/\L.natAbs<2^16/\En L (2^18) q.lo/\En L (2^18) q.hi
theorem en_sd{L:Int}{R:Nat}{o:Option Rat}(L0:0<L)(L1:L.natAbs<2^30)(hR:R<=2^60)(h:En L R o):Es o:=λr hr=>by
 obtain⟨w,b⟩:=h r hr;exact sd_en w L0 (Nat.le_trans (Nat.le_of_lt L1) (Nat.pow_le_pow_right (by decide) (by decide))) b (Nat.le_trans hR (Nat.pow_le_pow_right (by decide) (by decide)))
theorem nums_ns{c:Nat->Rat}{n:Nat}{lo hi:Option Rat}(h:Sm c)(hn:n<=8)(e:EndOk lo hi):Ns (qG (cL c n) lo hi):=by
 refine⟨by rw[xJ h hn e];omega,λr hr=>?_⟩;have:=nums_sz h hn e r hr;exact⟨jE this.1 (by decide),jE this.2 (by decide)⟩
theorem PcO.b{c:Nat->Rat}{n:Nat}{q:Pc}(h:PcO c n q)(sm:Sm c)(hn:n<=8):PcB q:=by
 obtain⟨L,L0,L1,e1,e2⟩:=h.en;have L1':L.natAbs<2^30:=Nat.lt_of_lt_of_le L1 (Nat.pow_le_pow_right (by decide) (by decide));exact⟨en_sd L0 L1' (by decide) e1,en_sd L0 L1' (by decide) e2,by rw[h.rs];exact nums_ns sm hn h.ok⟩
noncomputable def spRemade:Sp:=λvs H Q _=>∃(tp d p:Addr) (at' way:Nat) (c:Nat->Rat) (n:Nat) (xs:List V) (L:List Pc) (B:Int),vs=[.ref tp,.ref d,.ref p,.int at',.int way]/\FrzP H d c (λ_=>1500)/\Sm c/\IsDeg c n/\H p=some (.lst xs)/\Paired (PcP H) xs L/\at'<L.length/\L.length<=6/\(∀q∈L,PcO c n q)/\∃cl,Tape cl H tp B/\B<2^29/\p≠tp/\p≠cl/\
 ∀(p':Addr) (ys:List V) (L':List Pc) (H':Hp),(∀a o,H a=some o->a≠tp->a≠p->H' a=some o)->Tape cl H' tp (B+1)->H' p'=some (.lst ys)->Paired (PcP H') ys L'->L'.length<=20->(∀q∈L',PcB q)->Q (.ref p') H'
theorem hJ{α β:Type}{F:α->β->Prop}{x:α}{y:β}(h:F x y):∀{a:List α} {b:List β} (j:Nat),Paired F a b->Paired F (a.set j x) (b.set j y)
 | _,_,_,.nil=>.nil
 | _,_,0,.cons _ t=>.cons h t
 | _,_,j+1,.cons k t=>.cons k (hJ h j t)
theorem zC{cl tp p d q:Addr}{H H5:Hp}{B:Int}{at':Nat}{xs:List V}{L:List Pc}{pc:Pc}{c:Nat->Rat}{n:Nat}(sm:Sm c)(hn:n<=8)(hp:H5 p=some (.lst xs))(pr:Paired (PcP H5) xs L)(ha:at'<L.length)(l6:L.length<=6)(ok:∀q∈L,PcO c n q)(T:Tape cl H5 tp B)(pt:p≠tp)(pcl:p≠cl)(k:∀a o,H a=some o->a≠tp->a≠p->H5 a=some o)(hq:PcP H5 (.ref q) pc)(bq:PcB pc) :
  (∀a o,H a=some o->a≠tp->a≠p->(upd H5 p (.lst (xs.set at' (.ref q)))) a=some o)/\Tape cl (upd H5 p (.lst (xs.set at' (.ref q)))) tp B/\∃ys L',(upd H5 p (.lst (xs.set at' (.ref q)))) p=some (.lst ys)/\Paired (PcP (upd H5 p (.lst (xs.set at' (.ref q))))) ys L'/\L'.length<=20/\∀q∈L',PcB q:=by
 have ne:xs≠[]:=λz=>by have:=Paired.length pr;rw[z]at this;have:L.length=0:=this.symm;omega
 refine⟨λa o e h1 h2=>by rw[jQ h2];exact k a o e h1 h2, ?_,_,L.set at' pc,jK,hJ (hq.put hp pr ne) at' (Paired.mono (λ_ _ m=>m.put hp pr ne) pr),by rw[List.length_set];omega,λx hx=>?_⟩
 ·obtain⟨ns,a,b,c',e1,e2,e3⟩:=T;exact⟨ns,a,b,c',by rw[jQ (Ne.symm pt)];exact e1,by rw[jQ (Ne.symm pcl)];exact e2,e3⟩
 ·rcases List.mem_or_eq_of_mem_set hx with hx | rfl
  ·exact(ok x hx).b sm hn
  ·exact bq
theorem three_at(x y z:V)(way:Nat):∃v,atI [x,y,z] ((way:Int)%3)=some v/\(v=x∨v=y∨v=z):=by
 have:(way:Int)%3=0∨(way:Int)%3=1∨(way:Int)%3=2:=by omega
 rcases this with e | e | e<;>rw[e]
 ·exact⟨x,rfl,.inl rfl⟩
 ·exact⟨y,rfl,.inr (.inl rfl)⟩
 ·exact⟨z,rfl,.inr (.inr rfl)⟩
theorem ns_sub{rs qs:List Rat}(h:Ns rs)(l:qs.length<=24)(k:∀r∈qs,r∈rs∨r=fv 0 1):Ns qs:=⟨l,λr hr=>by
 rcases k r hr with m | rfl
 ·exact h.2 r m
 ·rw[fv_zero];exact⟨Nat.lt_of_lt_of_le (show(0:Rat).num.natAbs<2^1 by decide) (Nat.pow_le_pow_right (by decide) (by decide)),Nat.lt_of_lt_of_le (show(((0:Rat).den:Int)).natAbs<2^1 by decide) (Nat.pow_le_pow_right (by decide) (by decide))⟩⟩
end Lw
namespace Lw
open PySem PySem.Spec PyProof.Rows L2 LwQ
theorem ref_num{H:Hp}{v:V}{r:Rat}(h:NumT H v r):∃a,v=.ref a:=let ⟨a,e,_⟩:=h;⟨a,e⟩
theorem NumT.at2{H:Hp}{a:Addr}{r:Rat}(h:NumT H (.ref a) r):At2 H a r.num r.den:=by
 obtain⟨b,e,q⟩:=h;cases e;exact q
theorem vA(xs:List V)(i:Nat)(z:Int)(e:z=i)(h:i<=xs.length):cutV xs (some z) none=xs.drop i:=by rw[e];exact vK xs i h
section
variable{P:Program}{w:World}{K:PySem.W.Frag}{mg:Str->Option Value}{base:Heap}{f fd:_}
theorem scRemade:FnScope ["tape","one","found","at","way","low","high","told","beyond","whole","back","two","spot","some"] ["tape","one","found","at","way"] (jO wC):=⟨rfl,rfl,rfl,by decide +kernel,rfl,by decide +kernel,by decide +kernel⟩
theorem ok_remade{fD fO fI fM fN fR:Addr}{fdD fdO fdI fdM fdN fdR:FuncData}(F:Fun K "_law_remade" "_law_remade" wC f fd)(T:Txt mg)(DD:Df K mg "_law_draw" yL ["tape","many"] fD fdD)(GD:FnOk P w K mg base CX0 1 fD fdD ["tape","many"] spDraw)(DO:Df K mg "_law_more" wG ["one","other"] fO fdO)(GO:FnOk P w K mg base CX0 2 fO fdO ["one","other"] spMoreR)(DI:Df K mg "_law_minus" yS ["number"] fI fdI)(GI:FnOk P w K mg base CX0 1 fI fdI ["number"] spMinus)
  (DM:Df K mg "_law_sum" gR ["many","one"] fM fdM) (GM:FnOk P w K mg base CX0 2 fM fdM ["many","one"] spLSum) (DN:Df K mg "numbers" nB ["one","low","high"] fN fdN) (GN:FnOk P w K mg base CX0 7 fN fdN ["one","low","high"] (spNums K)) (DR:Df K mg "_law_raised" wD ["told"] fR fdR) (GR:FnOk P w K mg base CX0 2 fR fdR ["told"] spRaised):FnOk P w K mg base CX0 8 f fd ["tape","one","found","at","way"] spRemade:=by
 refine F.ok scRemade (λvs H Q E h=>?_) (λcdv A outer s H vs Q E hr h=>?_)
 ·obtain⟨tp,d,p,at',way,c,n,xs,L,B,rfl,_⟩:=h
  rfl
 ·obtain⟨tp,d,p,at',way,c,n,xs,L,B,rfl,hD,sm,dg,hp,pr,ha,l6,ok,cl,hT,hB,pt,pcl,go⟩:=h;have hr1:Room 1 _:=hr.mono (by decide);have hr2:Room 2 _:=hr.mono (by decide);have p29:(2:Int)^29+1000<2^40:=by decide
  have n8:=yG sm dg;refine⟨_,jB (qC (jT kQ (pv 2) (pv 3) (λ_ _=>rfl)) (kU rfl (jM (jH (i:=5) scRemade.nd rfl (Or.inl rfl)) (jM (jH (i:=6) scRemade.nd rfl (Or.inl rfl)) (jM (jH (i:=7) scRemade.nd rfl (Or.inl rfl)) kG))))) (jB (jX (PW.pt (qV (jR qP (pv 4) jD (jS _)) (qV (qF (vJ (pv 5))) (qT (qF (vJ (pv 6))))))) (jB (jI (i:=8) scRemade.nd rfl (Or.inl rfl) (jG GO hr2 rfl DO.m DO.F.kp DO.b .nil jL (jA (pv 6) (jA (jG GO hr2 rfl DO.m DO.F.kp DO.b .nil jL (jA (pv 6) (jA (jG GI hr1 rfl DI.m DI.F.kp DI.b .nil jL (jA (pv 5) jC)) jC))) jC)))) (jB (jI (i:=9) scRemade.nd rfl (Or.inl rfl) (jG GM hr2 rfl DM.m DM.F.kp DM.b .nil jL (jA jD (jA (pv 1) jC)))) (jB (jI (i:=10) scRemade.nd rfl (Or.inl rfl) (pe_revL rfl (by rfl) T.lst (by rfl) T.rev (jA (jG GN hr rfl DN.m DN.F.kp DN.b .nil jL (jA (pv 9) (jA (pv 6) (jA (pv 8) jC)))) jC))) (jB (jI (i:=11) scRemade.nd rfl (Or.inl rfl) (kR (jA (jV (jA (pv 5) (jA (pv 8) (jA (jG GN hr rfl DN.m DN.F.kp DN.b .nil jL (jA (pv 9) (jA (pv 5) (jA (pv 8) jC)))) jC)))) (jA (jV (jA (pv 8) (jA (pv 6) (jA (pv 10) jC)))) jC)))) (jF (jN (jJ qH (jJ qH (kL kJ (pv 2) qA (kX (pv 3))) (pv 11)) (kL kJ (pv 2) (kX (jJ kM (pv 3) jD)) qA)))))))) jP) (jB (jX (PW.pt (qV (jR qP (pv 4) jD (jS _)) (qV (qF (vJ (pv 5))) (qT (qF (vJ (pv 6))))))) (jB (qC (jV (jA (pv 5) (jA (pv 6) (jA (jG GR hr2 rfl DR.m DR.F.kp DR.b .nil jL (jA (pv 7) jC)) jC)))) (xT (pv 2) (pv 3) qS)) (jF (jN (pv 2)))) jP) (jB (jI (i:=12) scRemade.nd rfl (Or.inl rfl) (jG GD hr1 rfl DD.m DD.F.kp DD.b .nil jL (jA (pv 0) (jA (kA kD (by rfl) T.len PySem.boot_len (jA (pv 7) jC)) jC)))) (jB (jI (i:=13) scRemade.nd rfl (Or.inl rfl) (kR (jA (jJ qH (kL kJ (pv 7) qA (kX (pv 12))) (kL kJ (pv 7) (kX (jJ kM (pv 12) jD)) qA)) (jA (jJ qH (pv 7) (kR (jA (jV (jA jD (jA jD jC))) jC))) (jA (kR jC) jC))))) (jB (qC (jV (jA (pv 5) (jA (pv 6) (jA (jT kQ (pv 13) (jJ vR (pv 4) jD) (λ_ _=>rfl)) jC)))) (xT (pv 2) (pv 3) qS)) (jF (jN (pv 2)))))))), ?_⟩
  try dsimp only
  have lx:=Paired.length pr;obtain⟨v,hv⟩:∃v,xs[at']? = some v:=⟨xs[at'],by simp [show at'<xs.length by omega]⟩;obtain⟨pc,hpc,pp⟩:=jY pr hv;have mem:=List.mem_of_getElem? hpc;have po:=ok pc mem;have pb:=po.b sm n8;obtain⟨r,l,x,y,us,rfl,q1,q2,q3,q4,q5⟩:=pp.ex;have lu:=Paired.length q5;have lrs:pc.rs.length=n+1:=by rw[po.rs];exact xJ sm n8 po.ok
  refine⟨_,rfl,_,rfl,p,xs,_,_,rfl,rfl,SqL.of hp,xR hv,r,_,rfl,SqT.of q1,rfl,_,_,rfl,_,_,rfl,_,_,rfl,rfl, ?_⟩;dsimp only[kN];have isn:∀(z:V) (o:Option Rat),EndT H z o->decide (z=.non)=o.isNone:=λz o h=>by
   cases o with
   | none=>rw[show z=.non from h];rfl
   | some q=>obtain⟨_,rfl,_⟩:=h;rfl
  refine kK (t:=tIfS _ _ _) (fun σ' H'=>σ'=[some (.ref tp),some (.ref d),some (.ref p),some (.int at'),some (.int way),some x,some y,some (.ref l),none,none,none,none,none,none]/\H'=H) ?_ (λgo2=>?_)
  rotate_left
  ·refine⟨_,rfl,rfl,_,rfl,ite2 (λ_=>?_) (λ_=>iteF (go2 _ _ ⟨rfl,rfl⟩))⟩;refine⟨_,rfl,_,rfl, ?_⟩;rw[isn _ _ q2];cases hlo:pc.lo with
   | none=>exact iteF (iteF (go2 _ _ ⟨rfl,rfl⟩))
   | some lq=>
    refine iteT ⟨_,rfl,_,rfl, ?_⟩;rw[isn _ _ q3];cases hhi:pc.hi with
    | none=>exact iteF (go2 _ _ ⟨rfl,rfl⟩)
    | some hq=>
     rw[hlo]at q2;rw[hhi]at q3;obtain⟨ax,rfl,hax⟩:=id q2;obtain⟨ay,rfl,hay⟩:=id q3;obtain⟨L',L0,L1,e1,e2⟩:=po.en;rw[hlo]at e1;rw[hhi]at e2;have w1:=e1 lq rfl;have w2:=e2 hq rfl;have sl:=(pb.lo lq hlo);have sh':=(pb.hi hq hhi);have nl:=jZ lq;refine iteT ⟨_,rfl,_,rfl,_,rfl,ax,_,_,rfl,hax,λmn H1 n1 s1 e1'=>?_⟩;have wneg:Wh L' (-lq):=by have:=(Wh.zero L').sub w1.1;rw[Rat.sub_eq_add_neg,Rat.zero_add]at this;exact this
     have sd0:∀{z:Rat},Wh L' z->Bd (2^20) z->Sd z:=λh k=>sd_en h L0 (Nat.le_trans (Nat.le_of_lt L1) (Nat.pow_le_pow_right (by decide) (by decide))) k (Nat.pow_le_pow_right (by decide) (by decide));have fit:∀{z:Rat},Sd z->z.num.natAbs<2^3900/\((z.den:Int)).natAbs<2^3900:=λh=>⟨jE h.bits.1 (by decide),jE h.bits.2 (by decide)⟩;have nneg:NumT H1 (.ref mn) (-lq):=⟨mn,rfl,by
      have v:fv (0-lq.num) lq.den = -lq:=by rw[mF nl.1,kE]
      have g:Int.gcd (0-lq.num) lq.den=1:=by rw[Int.zero_sub,Int.neg_gcd];exact nl.2
      have:=hW nl.1 g;rw[v]at this;unfold At2;rw[this.1,this.2];exact e1'⟩
     have s1':=sd0 wneg ((w1.2.neg).mono (by decide));have f1:=fit sh';have f2:=fit s1';refine⟨_,_,hq,-lq,rfl,NumT.same ⟨ay,rfl,hay⟩ s1,nneg,f1.1,f1.2,f2.1,f2.2,λv2 H2 s2 nv2=>?_⟩;have s2':=sd0 (w2.1.add wneg) ((w2.2.add w1.2.neg).mono (by decide));have f3:=fit s2';refine⟨_,_,hq,hq + -lq,rfl,NumT.same ⟨ay,rfl,hay⟩ (s1.trans s2),nv2,f1.1,f1.2,f3.1,f3.2,λvb H3 s3 nvb=>?_⟩;have sb:=sd0 (w2.1.add (w2.1.add wneg)) ((w2.2.add (w2.2.add w1.2.neg)).mono (by decide));generalize hbq:hq+(hq + -lq)=bq at nvb sb;obtain⟨ab,rfl⟩:=ref_num nvb;have s03:=s1.trans (s2.trans s3);refine⟨_,rfl,d,c,_,rfl,hD.same s03,λ_=>by decide,λwp H4 n4 s4 S4=>?_⟩;have s04:=s03.trans s4;have y4:EndT H4 (.ref ay) (some hq):=EndT.same (o:=some hq) q3 s04;have b4:EndT H4 (.ref ab) (some bq):=EndT.same (o:=some bq) nvb s4;refine⟨_,rfl,_,rfl,_,rfl,wp,_,_,c,some hq,some bq,rfl,S4,sm,y4.v,b4.v,⟨sh',sb⟩,λl5 n5 xs5 H5 m5 s5 dg5 e5 p5=>?_⟩;obtain rfl:=dg5.uniq dg;refine⟨l5,xs5,rfl,SqL.of e5,λl6 H6 n6 s6 e6=>?_⟩;have s46:=s5.trans s6;refine⟨_,rfl,_,rfl,_,rfl,_,rfl,_,rfl,wp,_,_,c,some lq,some bq,rfl,S4.same s46,sm,(EndT.same (o:=some lq) q2 (s04.trans s46)).v,(b4.same s46).v,⟨sl,sb⟩,λl7 n7 xs7 H7 m7 s7 dg7 e7 p7=>?_⟩;obtain rfl:=dg7.uniq dg5;refine⟨(by show 3<=sizeLine;decide),λt8 H8 n8' s8 e8=>⟨_,rfl,_,rfl,_,rfl,(by show 3<=sizeLine;decide),λt9 H9 n9 s9 e9=>⟨(by show 2<=sizeLine;decide),λtw H10 n10 s10 e10=>?_⟩⟩⟩;have s810:=s9.trans s10;have s710:=s8.trans s810;have s610:=s7.trans s710;have s010:=s04.trans (s46.trans s610)
     have rev:∀{H:Hp} {as:List V} {bs:List Rat},Paired (NumT H) as bs->Paired (NumT H) as.reverse bs.reverse:=fun {H as bs} h=>by
      induction h with
      | nil=>exact .nil
      | cons k _ ih=>rw[List.reverse_cons,List.reverse_cons];exact kI ih (.cons k .nil)
     have pa1:PcP H10 (.ref t8) ⟨some lq,some bq,qG (cL c n7) (some lq) (some bq)⟩:=⟨t8,l7,_,_,xs7,rfl,s810 _ _ e8,EndT.same (o:=some lq) q2 s010,b4.same (s46.trans s610),s710 _ _ e7,Paired.mono (λ_ _ k=>NumT.same k s710) p7⟩;have pa2:PcP H10 (.ref t9) ⟨some bq,some hq,(qG (cL c n7) (some hq) (some bq)).reverse⟩:=⟨t9,l6,_,_,xs5.reverse,rfl,s10 _ _ e9,b4.same (s46.trans s610),y4.same (s46.trans s610),s610 _ _ e6,rev (Paired.mono (λ_ _ k=>NumT.same k (s6.trans s610)) p5)⟩;have nsb:=nums_ns sm n8 (lo:=some hq) (hi:=some bq) ⟨sh',sb⟩;have bb1:PcB ⟨some lq,some bq,qG (cL c n7) (some lq) (some bq)⟩:=⟨λr hr=>by cases hr;exact sl,λr hr=>by cases hr;exact sb,nums_ns sm n8 ⟨sl,sb⟩⟩;have bb2:PcB ⟨some bq,some hq,(qG (cL c n7) (some hq) (some bq)).reverse⟩:=⟨λr hr=>by cases hr;exact sb,λr hr=>by cases hr;exact sh',by show(_:List Rat).length<=24;rw[List.length_reverse];exact nsb.1,λr hr=>nsb.2 r (List.mem_reverse.mp hr)⟩;refine⟨_,rfl,_,rfl,_,rfl,p,xs,rfl,SqL.of (s010 _ _ hp),λl11 H11 n11 s11 e11=>⟨_,rfl,l11,tw,_,_,rfl,rfl,e11,s11 _ _ e10, ?_,λl12 H12 n12 s12 e12=>⟨_,rfl,_,rfl,_,_,rfl,rfl,_,rfl,p,xs,rfl,SqL.of (s12 _ _ (s11 _ _ (s010 _ _ hp))),λl13 H13 n13 s13 e13=>⟨l12,l13,_,_,rfl,rfl,s13 _ _ e12,e13, ?_,λl14 H14 n14 s14 e14=>?_⟩⟩⟩⟩
     ·rw[kP xs at' (by omega),List.length_take];exact Nat.le_trans (show min at' xs.length+2<=9 by omega) (by decide)
     ·rw[kP xs at' (by omega),vA xs (at'+1) _ (by omega) (by omega),List.length_append,List.length_take,List.length_drop];exact Nat.le_trans (show min at' xs.length+2+(xs.length-(at'+1))<=9 by omega) (by decide)
     rw[kP xs at' (by omega),vA xs (at'+1) _ (by omega) (by omega)]at e14;have s1014:=s11.trans (s12.trans (s13.trans s14));have s014:=s010.trans s1014;have pr14:Paired (PcP H14) xs L:=Paired.mono (λ_ _ k=>k.same s014) pr;refine go l14 _ (L.take at'++[⟨some lq,some bq,qG (cL c n7) (some lq) (some bq)⟩,⟨some bq,some hq,(qG (cL c n7) (some hq) (some bq)).reverse⟩]++L.drop (at'+1)) H14 (λa o e _ _=>s014 _ _ e) (hT.mono s014 (by omega)) e14 (kI (kI (qI at' pr14) (.cons (pa1.same s1014) (.cons (pa2.same s1014) .nil))) (qJ (at'+1) pr14)) ?_ (λq hq'=>?_)
     ·rw[List.length_append,List.length_append,List.length_take,List.length_drop];show min at' L.length+2+(L.length-(at'+1))<=20;omega
     ·rcases List.mem_append.mp hq' with h | h
      ·rcases List.mem_append.mp h with h | h
       ·exact(ok q (List.mem_of_mem_take h)).b sm n8
       ·rcases List.mem_cons.mp h with rfl | h
        ·exact bb1
        ·rw[List.mem_singleton.mp h];exact bb2
      ·exact(ok q (List.mem_of_mem_drop h)).b sm n8
  rintro σ1 H1 ⟨rfl,rfl⟩;refine kK (t:=tIfS _ _ _) (fun σ' H'=>σ'=[some (.ref tp),some (.ref d),some (.ref p),some (.int at'),some (.int way),some x,some y,some (.ref l),none,none,none,none,none,none]/\H'=H1) ?_ (λgo2=>?_)
  rotate_left
  ·refine⟨_,rfl,rfl,_,rfl,ite2 (λ_=>?_) (λ_=>iteF (go2 _ _ ⟨rfl,rfl⟩))⟩;refine⟨_,rfl,_,rfl, ?_⟩;rw[isn _ _ q2];cases hlo:pc.lo with
   | none=>exact iteF (iteF (go2 _ _ ⟨rfl,rfl⟩))
   | some lq=>
    refine iteT ⟨_,rfl,_,rfl, ?_⟩;rw[isn _ _ q3];cases hhi:pc.hi with
    | none=>exact iteF (go2 _ _ ⟨rfl,rfl⟩)
    | some hq=>
     refine iteT ⟨_,rfl,_,rfl,_,rfl,l,us,pc.rs,rfl,q4,q5,by rw[po.rs];exact nums_ovr sm n8 po.ok,by omega,by omega,λl2 ys2 qs2 H2 n2 s2 e2 p2 ns2=>⟨(by show 3<=sizeLine;decide),λt3 H3 n3 s3 e3=>?_⟩⟩;have s13:=s2.trans s3;refine⟨_,rfl,_,rfl,p,xs,_,at',rfl,rfl,s13 _ _ hp,zV rfl (by omega), ?_⟩;obtain⟨k1,k2,ys,L',k3,k4,k5,k6⟩:=zC (d:=d) (q:=t3) (pc:=⟨pc.lo,pc.hi,qs2⟩) sm n8 (s13 _ _ hp) (Paired.mono (λ_ _ k=>k.same s13) pr) ha l6 ok (hT.mono s13 (show B<=B+1 by omega)) pt pcl (λa o e _ _=>s13 _ _ e) ⟨t3,l2,x,y,ys2,rfl,e3,q2.same s13,q3.same s13,s3 _ _ e2,Paired.mono (λ_ _ k=>NumT.same k s3) p2⟩ ⟨pb.lo,pb.hi,ns2⟩;exact⟨_,rfl,go p ys L' _ k1 k2 k3 k4 k5 k6⟩
  rintro σ2 H2 ⟨rfl,rfl⟩;refine⟨_,rfl,_,rfl,l,us,rfl,.inl (SqL.of q4),tp,us.length,B,rfl,cl,hT,by omega,by omega,Int.lt_of_le_of_lt (show(us.length:Int)<=24 by have:=pb.rs.1;omega) (by decide),λsp H3 p0 p1 T3 b3=>?_⟩;obtain⟨j,rfl⟩:=Int.eq_ofNat_of_zero_le p0;have q43:=b3 _ _ q4 (xP hT q4 q5);have hp3:=b3 _ _ hp pt;have n53:Paired (NumT H3) us pc.rs:=Paired.mono (λ_ _ k=>NumT.but k b3 hT) q5;have bl:=pb.rs.1;refine⟨_,rfl,_,rfl,_,rfl,l,us,rfl,SqL.of q43,λl4 H4 n4 s4 e4=>⟨_,rfl,_,rfl,_,_,rfl,rfl,_,rfl,l,us,rfl,SqL.of (s4 _ _ q43),λl5 H5 n5 s5 e5=>⟨l4,l5,_,_,rfl,rfl,s5 _ _ e4,e5, ?_,λm6 H6 n6 s6 e6=>⟨_,rfl,(by show 2<=sizeLine;decide),λt7 H7 n7 s7 e7=>⟨(by show 1<=sizeLine;decide),λl8 H8 n8' s8 e8=>⟨l,l8,us,_,rfl,rfl, ?_,e8, ?_,λl9 H9 n9 s9 e9=>⟨(by show 0<=sizeLine;decide),λl10 H10 n10 s10 e10=>⟨(by show 3<=sizeLine;decide),λl11 H11 n11 s11 e11=>?_⟩⟩⟩⟩⟩⟩⟩⟩
  ·rw[kP us j (by omega),vA us (j+1) _ (by omega) (by omega),List.length_take,List.length_drop];exact Nat.le_trans (show min j us.length+(us.length-(j+1))<=24 by omega) (by decide)
  ·exact s8 _ _ (s7 _ _ (s6 _ _ (s5 _ _ (s4 _ _ q43))))
  ·exact Nat.le_trans (show us.length+1<=25 by omega) (by decide)
  rw[kP us j (by omega),vA us (j+1) _ (by omega) (by omega)]at e6;obtain⟨v3,hv3,hw⟩:=three_at (.ref m6) (.ref l9) (.ref l10) way;have s1011:=s11;have s911:=s10.trans s11;have s611:=s7.trans (s8.trans (s9.trans s911));have s311:=s4.trans (s5.trans (s6.trans s611));have nz:NumT H7 (.ref t7) (fv 0 1):=⟨t7,rfl,by rw[fv_zero];exact e7⟩;have n311:Paired (NumT H11) us pc.rs:=Paired.mono (λ_ _ k=>NumT.same k s311) n53;have pick:∃(lv:Addr) (ws:List V) (qs:List Rat),v3=.ref lv/\H11 lv=some (.lst ws)/\Paired (NumT H11) ws qs/\Ns qs:=by
   rcases hw with rfl | rfl | rfl
   ·refine⟨m6,_,pc.rs.take j++pc.rs.drop (j+1),rfl,s611 _ _ e6,kI (qI j n311) (qJ (j+1) n311),ns_sub pb.rs ?_ λr hr=>.inl ?_⟩
    ·rw[List.length_append,List.length_take,List.length_drop];omega
    ·rcases List.mem_append.mp hr with h | h
     ·exact List.mem_of_mem_take h
     ·exact List.mem_of_mem_drop h
   ·refine⟨l9,_,pc.rs++[fv 0 1],rfl,s911 _ _ e9,kI n311 (.cons (nz.same (s8.trans (s9.trans s911))) .nil),ns_sub pb.rs ?_ λr hr=>?_⟩
    ·rw[List.length_append];show pc.rs.length+1<=24;omega
    ·rcases List.mem_append.mp hr with h | h
     ·exact .inl h
     ·exact .inr (List.mem_singleton.mp h)
   ·exact⟨l10,_,[],rfl,s11 _ _ e10,.nil,by show 0<=24;decide,λr hr=>nomatch hr⟩
  obtain⟨lv,ws,qs,rfl,hlv,pws,nqs⟩:=pick;refine⟨_,rfl,_,rfl,_,rfl,_,rfl,_,_,rfl,rfl,(by show(0:Int)<3;decide),l11,_,_,_,rfl,rfl,SqL.of e11,hv3,(by show 3<=sizeLine;decide),λt12 H12 n12 s12 e12=>?_⟩;have b312:=b3;have s312:=s311.trans s12;refine⟨_,rfl,_,rfl,p,xs,_,at',rfl,rfl,s312 _ _ hp3,zV rfl (by omega), ?_⟩;obtain⟨k1,k2,ys,L',k3,k4,k5,k6⟩:=zC (H:=H2) (d:=d) (q:=t12) (pc:=⟨pc.lo,pc.hi,qs⟩) sm n8 (s312 _ _ hp3) (Paired.mono (λ_ _ k=>(PcP.butT k b3 hT).same s312) pr) ha l6 ok (T3.mono s312 (Int.le_refl _)) pt pcl (λa o e h1 _=>s312 _ _ (b3 _ _ e h1)) ⟨t12,lv,x,y,ws,rfl,e12,(EndT.but q2 b3 hT).same s312,(EndT.but q3 b3 hT).same s312,s12 _ _ hlv,Paired.mono (λ_ _ k=>NumT.same k s12) pws⟩ ⟨pb.lo,pb.hi,nqs⟩;exact⟨_,rfl,go p ys L' _ k1 k2 k3 k4 k5 k6⟩
end
end Lw
namespace Lw
open PySem PySem.Spec PyProof.Rows L2 LwQ
theorem add_ns{r:Rat}{t b:Int}(h1:r.num.natAbs<2^3700)(h2:((r.den:Int)).natAbs<2^2601)(fr:FrS t b):(r+fv t b).num.natAbs<2^3800/\(((r+fv t b).den:Int)).natAbs<2^2700:=by
 have d:=jZ r;have e:r+fv t b=fv (r.num*b+t*r.den) (r.den*b):=by rw[fv_add d.1 fr.pos,kE]
 have p:=Int.mul_pos d.1 fr.pos;obtain⟨k1,k2⟩:=zN p e;have k3:=Int.le_of_dvd p k1;have m1:=jW h1 fr.sb;have m2:=jW fr.st h2;have m3:=jW h2 fr.sb;refine⟨Nat.lt_of_le_of_lt k2 (jE (yK (jE m1 (show 3700+7<=3710 by decide)) (jE m2 (show 14+2601<=3710 by decide))) (by decide)),Nat.lt_of_le_of_lt (show _<=((r.den:Int)*b).natAbs by omega) (jE m3 (by decide))⟩
theorem add_sd{r:Rat}{t b L:Int}(L0:0<L)(L1:L.natAbs<2^16)(h:Wh L r/\Bd (2^18) r)(fr:FrS t b):Sd (r+fv t b):=by
 have p:=Int.mul_pos L0 fr.pos;have w:Wh (L*b) (r+fv t b):=(h.1.up b).add ((Wh.of fr.pos).of_dvd (Int.dvd_mul_left ..));refine sd_en w p (Nat.le_of_lt (jE (jW L1 fr.sb) (by decide))) (h.2.add (mQ (k:=14) fr.pos (Nat.le_of_lt fr.st))) ?_
 decide
theorem NumT.ofS{H:Hp}{r:Addr}{t b:Int}(fr:FrS t b)(e:At2 H r t b):NumT H (.ref r) (fv t b):=by
 have:=frs_num fr;exact⟨r,rfl,by unfold At2;rw[this.1,this.2];exact e⟩
theorem NumT.minus{H:Hp}{a:Addr}{r:Rat}(e:At2 H a (0-r.num) r.den):NumT H (.ref a) (-r):=by
 have nl:=jZ r;have v:fv (0-r.num) r.den = -r:=by rw[mF nl.1,kE]
 have g:Int.gcd (0-r.num) r.den=1:=by rw[Int.zero_sub,Int.neg_gcd];exact nl.2
 have:=hW nl.1 g;rw[v]at this;exact⟨a,rfl,by unfold At2;rw[this.1,this.2];exact e⟩
theorem mG{t b:Int}(fr:FrS t b):(fv t b).num.natAbs<2^3900/\(((fv t b).den:Int)).natAbs<2^3900:=by
 have:=frs_num fr;rw[this.1,this.2];exact⟨jE fr.st (by decide),jE fr.sb (by decide)⟩
noncomputable def spBent:Sp:=λvs H Q _=>∃(tp d ls:Addr) (c:Nat->Rat) (n:Nat) (xs:List V) (L:List Pc) (B:Int),vs=[.ref tp,.ref d,.ref ls]/\FrzP H d c (λ_=>1500)/\Sm c/\IsDeg c n/\H ls=some (.lst xs)/\Paired (PcP H) xs L/\1<=L.length/\L.length<=6/\(∀q∈L,PcO c n q)/\∃cl,Tape cl H tp B/\B<2^28/\
 ∀(p':Addr) (ys:List V) (L':List Pc) (H':Hp),But tp H H'->Tape cl H' tp (B+30)->H' p'=some (.lst ys)->Paired (PcP H') ys L'->L'.length<=20->(∀q∈L',PcB q)->Q (.ref p') H'
inductive BnJ(H3:Hp)(cl tp d ls p l:Addr)(x y:V)(at' way j:Nat)(B:Int):L2.St->Hp->Prop where
 | mk {H':Hp} {vo:V} {r:Rat} (b:But tp H3 H') (T:Tape cl H' tp B) (m:NumT H' vo r) (n:r.num.natAbs<2^3800/\((r.den:Int)).natAbs<2^2700):BnJ H3 cl tp d ls p l x y at' way j B [some (.ref tp),some (.ref d),some (.ref ls),some (.ref p),some (.int at'),some x,some y,some (.ref l),some (.int way),some (.int j),some vo] H'
section
variable{P:Program}{w:World}{K:PySem.W.Frag}{mg:Str->Option Value}{base:Heap}{f fd:_}
theorem scBent:FnScope ["tape","one","some","found","at","low","high","told","way","spot","other"] ["tape","one","some"] (jO sBent):=⟨rfl,rfl,rfl,by decide +kernel,rfl,by decide +kernel,by decide +kernel⟩
theorem ok_bent{fD fO fI fN fR:Addr}{fdD fdO fdI fdN fdR:FuncData}(F:Fun K "_law_bent" "_law_bent" sBent f fd)(T:Txt mg)(DD:Df K mg "_law_draw" yL ["tape","many"] fD fdD)(GD:FnOk P w K mg base CX0 1 fD fdD ["tape","many"] spDraw)(DO:Df K mg "_law_more" wG ["one","other"] fO fdO)(GO:FnOk P w K mg base CX0 2 fO fdO ["one","other"] spMoreR)(DI:Df K mg "_law_minus" yS ["number"] fI fdI)(GI:FnOk P w K mg base CX0 1 fI fdI ["number"] spMinus)
  (DN:Df K mg "_law_number" xC ["tape"] fN fdN) (GN:FnOk P w K mg base CX0 2 fN fdN ["tape"] (zF 6 (2^38))) (DR:Df K mg "_law_remade" wC ["tape","one","found","at","way"] fR fdR) (GR:FnOk P w K mg base CX0 8 fR fdR ["tape","one","found","at","way"] spRemade):FnOk P w K mg base CX0 9 f fd ["tape","one","some"] spBent:=by
 refine F.ok scBent (λvs H Q E h=>?_) (λcdv A outer s H vs Q E hr h=>?_)
 ·obtain⟨tp,d,ls,c,n,xs,L,B,rfl,_⟩:=h
  rfl
 ·obtain⟨tp,d,ls,c,n,xs,L,B,rfl,hD,sm,dg,hls,pr0,l1,l6,ok,cl,hT0,hB,go0⟩:=h;have hr1:Room 1 _:=hr.mono (by decide);have hr2:Room 2 _:=hr.mono (by decide);have p28:(2:Int)^28+1000<2^29:=by decide
  have p29:(2:Int)^29<2^38:=by decide
  have p38:(2:Int)^38<2^40:=by decide
  have n8:=yG sm dg;refine⟨_,jB (jI (i:=3) scBent.nd rfl (Or.inl rfl) (vL mM (by rfl) T.lst boot_list (jA (pv 2) jC))) (jB (jI (i:=4) scBent.nd rfl (Or.inl rfl) (jG GD hr1 rfl DD.m DD.F.kp DD.b .nil jL (jA (pv 0) (jA (kA kD (by rfl) T.len PySem.boot_len (jA (pv 3) jC)) jC)))) (jB (qC (jT kQ (pv 3) (pv 4) (λ_ _=>rfl)) (kU rfl (jM (jH (i:=5) scBent.nd rfl (Or.inl rfl)) (jM (jH (i:=6) scBent.nd rfl (Or.inl rfl)) (jM (jH (i:=7) scBent.nd rfl (Or.inl rfl)) kG))))) (jB (jI (i:=8) scBent.nd rfl (Or.inl rfl) (jG GD hr1 rfl DD.m DD.F.kp DD.b .nil jL (jA (pv 0) (jA jD jC)))) (jB (jX (jR wM (pv 8) jD (jS _)) (jF (jN (jG GR hr rfl DR.m DR.F.kp DR.b .nil jL (jA (pv 0) (jA (pv 1) (jA (pv 3) (jA (pv 4) (jA (pv 8) jC)))))))) jP) (jB (jX (jR qP (pv 8) jD (jS _)) (jF (jN (jJ qH (kL kJ (pv 3) qA (kX (pv 4))) (kL kJ (pv 3) (kX (jJ kM (pv 4) jD)) qA)))) jP) (jB (jX (jR qP (pv 8) jD (jS _)) (jF (jN (jJ qH (jJ qH (kL kJ (pv 3) qA (kX (pv 4))) (kR (jA (jT kQ (pv 3) (pv 4) (λ_ _=>rfl)) jC))) (kL kJ (pv 3) (kX (pv 4)) qA)))) jP) (jB (jX (jR qP (pv 8) jD (jS _)) (jF (jN (jJ qH (kL kJ (pv 3) (kX (pv 4)) qA) (kL kJ (pv 3) qA (kX (pv 4)))))) jP) (jB (jX (PW.pt (qV (jR qP (pv 8) jD (jS _)) (qT (jR xZ (jJ kM (pv 4) jD) (kA kD (by rfl) T.len PySem.boot_len (jA (pv 3) jC)) (jS _))))) (jF (jN (jJ qH (jJ qH (kL kJ (pv 3) qA (kX (pv 4))) (kR (jA (jV (jA (pv 5) (jA (jT jU (jT kQ (pv 3) (jJ kM (pv 4) jD) (λ_ _=>rfl)) jD (λ_ _=>rfl)) (jA (pv 7) jC)))) jC))) (kL kJ (pv 3) (kX (jJ kM (pv 4) jD)) qA)))) jP) (jB (jI (i:=9) scBent.nd rfl (Or.inl rfl) (jG GD hr1 rfl DD.m DD.F.kp DD.b .nil jL (jA (pv 0) (jA (kA kD (by rfl) T.len PySem.boot_len (jA (pv 7) jC)) jC)))) (jB (jI (i:=10) scBent.nd rfl (Or.inl rfl) (jG GO hr2 rfl DO.m DO.F.kp DO.b .nil jL (jA (jT kQ (pv 7) (pv 9) (λ_ _=>rfl)) (jA (jG GN hr2 rfl DN.m DN.F.kp DN.b .nil jL (jA (pv 0) jC)) jC)))) (jB (jX (jR qP (pv 8) jD (jS _)) (jF (jI (i:=10) scBent.nd rfl (Or.inl rfl) (jG GI hr1 rfl DI.m DI.F.kp DI.b .nil jL (jA (jT kQ (pv 7) (pv 9) (λ_ _=>rfl)) jC)))) jP) (jB (jX (PW.pt (qV (jR qP (pv 8) jD (jS _)) (qT (qF (vJ (pv 5)))))) (jB (qC (jV (jA (jG GO hr2 rfl DO.m DO.F.kp DO.b .nil jL (jA (pv 5) (jA (jG GN hr2 rfl DN.m DN.F.kp DN.b .nil jL (jA (pv 0) jC)) jC))) (jA (pv 6) (jA (pv 7) jC)))) (xT (pv 3) (pv 4) qS)) (jF (jN (pv 3)))) jP) (jB (jX (PW.pt (qV (jR qP (pv 8) jD (jS _)) (qT (qF (vJ (pv 6)))))) (jB (qC (jV (jA (pv 5) (jA (jG GO hr2 rfl DO.m DO.F.kp DO.b .nil jL (jA (pv 6) (jA (jG GN hr2 rfl DN.m DN.F.kp DN.b .nil jL (jA (pv 0) jC)) jC))) (jA (pv 7) jC)))) (xT (pv 3) (pv 4) qS)) (jF (jN (pv 3)))) jP) (jB (qC (jV (jA (pv 5) (jA (pv 6) (jA (jJ qH (jJ qH (kL kJ (pv 7) qA (kX (pv 9))) (kR (jA (pv 10) jC))) (kL kJ (pv 7) (kX (jJ kM (pv 9) jD)) qA)) jC)))) (xT (pv 3) (pv 4) qS)) (jF (jN (pv 3))))))))))))))))), ?_⟩
  try dsimp only
  have lx:=Paired.length pr0;refine⟨_,rfl,ls,xs,rfl,.inl (SqL.of hls),λp H1 n1 s1 e1=>?_⟩;have pt:p≠tp:=vM hT0 n1;have pcl:p≠cl:=λz=>by obtain⟨_,_,_,_,_,q,_⟩:=hT0;rw[<-z,n1]at q;cases q
  have T1:=hT0.mono s1 (Int.le_refl _);have p24:(24:Int)<2^100:=by decide
  refine⟨_,rfl,_,rfl,p,xs,rfl,.inl (SqL.of e1),tp,xs.length,B,rfl,cl,T1,by omega,by omega,by omega,λa H2 a0 a1 T2 b2=>?_⟩;obtain⟨at',rfl⟩:=Int.eq_ofNat_of_zero_le a0;have ha:at'<L.length:=by omega
  obtain⟨v,hv⟩:∃v,xs[at']? = some v:=⟨xs[at'],by simp [show at'<xs.length by omega]⟩;have e2:=b2 _ _ e1 pt;have pr2:Paired (PcP H2) xs L:=Paired.mono (λ_ _ k=>PcP.butT (PcP.same k s1) b2 T1) pr0;obtain⟨pc,hpc,pp2⟩:=jY pr2 hv;have mem:=List.mem_of_getElem? hpc;have po:=ok pc mem;have pb:=po.b sm n8;obtain⟨r,l,x,y,us,rfl,q1,q2,q3,q4,q5⟩:=pp2.ex;refine⟨_,rfl,_,rfl,p,xs,_,_,rfl,rfl,SqL.of e2,xR hv,r,_,rfl,SqT.of q1,rfl,_,_,rfl,_,_,rfl,_,_,rfl,rfl, ?_⟩;refine wZ rfl T2 (by omega) (by decide) (by decide) λwy H3 w0 w1 T3 b3=>?_;obtain⟨way,rfl⟩:=Int.eq_ofNat_of_zero_le w0;have B3:But tp H H3:=((But.of s1).trans b2).trans b3;have e3:=b3 _ _ e2 pt;have pr3:Paired (PcP H3) xs L:=Paired.mono (λ_ _ k=>PcP.butT k b3 T2) pr2;have x3:=EndT.but q2 b3 T2;have y3:=EndT.but q3 b3 T2;have l3:=b3 _ _ q4 (xP T2 q4 q5);have u3:Paired (NumT H3) us pc.rs:=Paired.mono (λ_ _ k=>NumT.but k b3 T2) q5;have D3:FrzP H3 d c (λ_=>1500):=FrzP.butT (FrzP.butT (hD.same s1) b2 T1) b3 T2;have lu:=Paired.length u3;have lrs:pc.rs.length=n+1:=by rw[po.rs];exact xJ sm n8 po.ok
  have pp3:=PcP.butT pp2 b3 T2;have T3':Tape cl H3 tp (B+2):=T3.mono (Same.refl _) (by omega);have bof:∀{q:Pc},q∈L->PcB q:=λh=>(ok _ h).b sm n8;have go:∀(p':Addr) (ys:List V) (L':List Pc) (H':Hp),(∀a o,H3 a=some o->a≠tp->a≠p->H' a=some o)->Tape cl H' tp (B+30)->H' p'=some (.lst ys)->Paired (PcP H') ys L'->L'.length<=20->(∀q∈L',PcB q)->Q (.ref p') H':=λp' ys L' H' k T'=>go0 p' ys L' H' (λa o e h=>k a o (B3 a o e h) h λz=>by rw[z,n1]at e;cases e) T';clear b2 b3 T2 q1 q2 q3 q4 q5 pp2 pr2 e2;refine⟨_,rfl,_,_,rfl,rfl,_,rfl,ite2 (λ_=>?_) (λ_=>?_)⟩
  ·exact⟨_,rfl,_,rfl,_,rfl,_,rfl,_,rfl,tp,d,p,at',way,c,n,xs,L,_,rfl,D3,sm,dg,e3,pr3,ha,l6,ok,cl,T3',by omega,pt,pcl,λp' ys L' H' k T' e' pr' ll' ok'=>go p' ys L' H' k (T'.mono (Same.refl _) (by omega)) e' pr' ll' ok'⟩
  have cutN:∀{H':Hp} {q:Addr} {zs:List V} {M:List Pc},Same H3 H'->H' q=some (.lst zs)->Paired (PcP H') zs M->M.length<=20->(∀x∈M,PcB x)->Q (.ref q) H':=λs' e' p' ll ok'=>go _ _ _ _ (λa o e _ _=>s' _ _ e) (T3'.mono s' (by omega)) e' p' ll ok';have mto:∀{x:Pc} {i:Nat},x∈L.take i->PcB x:=λh=>bof (List.mem_of_mem_take h);have mdo:∀{x:Pc} {i:Nat},x∈L.drop i->PcB x:=λh=>bof (List.mem_of_mem_drop h);refine⟨_,rfl,rfl,_,rfl,ite2 (λ_=>?_) (λ_=>?_)⟩
  ·refine⟨_,rfl,_,rfl,_,rfl,p,xs,rfl,SqL.of e3,λl4 H4 n4 s4 e4=>⟨_,rfl,_,rfl,_,_,rfl,rfl,_,rfl,p,xs,rfl,SqL.of (s4 _ _ e3),λl5 H5 n5 s5 e5=>⟨l4,l5,_,_,rfl,rfl,s5 _ _ e4,e5, ?_,λl6' H6 n6 s6 e6=>?_⟩⟩⟩
   ·rw[kP xs at' (by omega),vA xs (at'+1) _ (by omega) (by omega),List.length_take,List.length_drop];exact Nat.le_trans (show _<=9 by omega) (by decide)
   ·rw[kP xs at' (by omega),vA xs (at'+1) _ (by omega) (by omega)]at e6;have s36:=s4.trans (s5.trans s6);have pr6:=Paired.mono (λ_ _ (k:PcP H3 _ _)=>k.same s36) pr3;refine cutN s36 e6 (kI (qI at' pr6) (qJ (at'+1) pr6)) (by rw[List.length_append,List.length_take,List.length_drop];omega) λq hq=>?_;rcases List.mem_append.mp hq with h | h
    ·exact mto h
    ·exact mdo h
  refine⟨_,rfl,rfl,_,rfl,ite2 (λ_=>?_) (λ_=>?_)⟩
  ·refine⟨_,rfl,_,rfl,_,rfl,p,xs,rfl,SqL.of e3,λl4 H4 n4 s4 e4=>⟨_,rfl,_,rfl,p,xs,_,_,rfl,rfl,SqL.of (s4 _ _ e3),xR hv,(by show 1<=sizeLine;decide),λl5 H5 n5 s5 e5=>⟨l4,l5,_,_,rfl,rfl,s5 _ _ e4,e5, ?_,λl6' H6 n6 s6 e6=>⟨_,rfl,_,rfl,_,rfl,p,xs,rfl,SqL.of (s6 _ _ (s5 _ _ (s4 _ _ e3))),λl7 H7 n7 s7 e7=>⟨l6',l7,_,_,rfl,rfl,s7 _ _ e6,e7, ?_,λl8 H8 n8' s8 e8=>?_⟩⟩⟩⟩⟩
   ·rw[kP xs at' (by omega),List.length_take];exact Nat.le_trans (show min at' xs.length+1<=9 by omega) (by decide)
   ·rw[kP xs at' (by omega),vK xs at' (by omega),List.length_append,List.length_take,List.length_drop];exact Nat.le_trans (show min at' xs.length+1+(xs.length-at')<=9 by omega) (by decide)
   ·rw[kP xs at' (by omega),vK xs at' (by omega)]at e8;have s38:=s4.trans (s5.trans (s6.trans (s7.trans s8)));have pr8:=Paired.mono (λ_ _ (k:PcP H3 _ _)=>k.same s38) pr3;refine cutN s38 e8 (kI (kI (qI at' pr8) (.cons (pp3.same s38) .nil)) (qJ at' pr8)) (by rw[List.length_append,List.length_append,List.length_take,List.length_drop];show min at' L.length+1+(L.length-at')<=20;omega) λq hq=>?_;rcases List.mem_append.mp hq with h | h
    ·rcases List.mem_append.mp h with h | h
     ·exact mto h
     ·rw[List.mem_singleton.mp h];exact pb
    ·exact mdo h
  refine⟨_,rfl,rfl,_,rfl,ite2 (λ_=>?_) (λ_=>?_)⟩
  ·refine⟨_,rfl,_,rfl,_,rfl,p,xs,rfl,SqL.of e3,λl4 H4 n4 s4 e4=>⟨_,rfl,_,rfl,_,rfl,p,xs,rfl,SqL.of (s4 _ _ e3),λl5 H5 n5 s5 e5=>⟨l4,l5,_,_,rfl,rfl,s5 _ _ e4,e5, ?_,λl6' H6 n6 s6 e6=>?_⟩⟩⟩
   ·rw[kP xs at' (by omega),vK xs at' (by omega),List.length_take,List.length_drop];exact Nat.le_trans (show _<=9 by omega) (by decide)
   ·rw[kP xs at' (by omega),vK xs at' (by omega)]at e6;have s36:=s4.trans (s5.trans s6);have pr6:=Paired.mono (λ_ _ (k:PcP H3 _ _)=>k.same s36) pr3;refine cutN s36 e6 (kI (qJ at' pr6) (qI at' pr6)) (by rw[List.length_append,List.length_take,List.length_drop];omega) λq hq=>?_;rcases List.mem_append.mp hq with h | h
    ·exact mdo h
    ·exact mto h
  dsimp only[tNext];refine kK (t:=tIfS _ _ _) (fun σ' H'=>σ'=[some (.ref tp),some (.ref d),some (.ref ls),some (.ref p),some (.int at'),some x,some y,some (.ref l),some (.int way),none,none]/\H'=H3) ?_ (λgo2=>?_)
  rotate_left
  ·refine⟨_,rfl,rfl,_,rfl,ite2 (λ_=>?_) (λ_=>iteF (go2 _ _ ⟨rfl,rfl⟩))⟩;refine⟨_,rfl,_,_,rfl,rfl,_,rfl,p,xs,rfl,.inl (SqL.of e3),_,_,rfl,rfl,_,rfl,ite2 (λg=>?_) (λ_=>go2 _ _ ⟨rfl,rfl⟩)⟩;have hlt:at'+1<xs.length:=by have:=of_decide_eq_true g;omega
   obtain⟨v',hv'⟩:∃v,xs[at'+1]? = some v:=⟨xs[at'+1],by simp [hlt]⟩;obtain⟨pn,hpn,ppn⟩:=jY pr3 hv';have pbn:=bof (List.mem_of_getElem? hpn);obtain⟨rn,ln',xn,yn,un,rfl,m1,m2,m3,_⟩:=ppn.ex;refine⟨_,rfl,_,rfl,_,rfl,p,xs,rfl,SqL.of e3,λl4 H4 n4 s4 e4=>⟨_,rfl,_,rfl,_,rfl,_,_,rfl,rfl,p,xs,_,_,rfl,rfl,SqL.of (s4 _ _ e3),zD (by omega) hv',rn,_,1,_,rfl,rfl,SqT.of (s4 _ _ m1),rfl,_,rfl,(by show 3<=sizeLine;decide),λt5 H5 n5 s5 e5=>⟨(by show 1<=sizeLine;decide),λl6' H6 n6 s6 e6=>⟨l4,l6',_,_,rfl,rfl,s6 _ _ (s5 _ _ e4),e6, ?_,λl7 H7 n7 s7 e7=>⟨_,rfl,_,rfl,_,_,rfl,rfl,_,rfl,p,xs,rfl,SqL.of (s7 _ _ (s6 _ _ (s5 _ _ (s4 _ _ e3)))),λl8 H8 n8' s8 e8=>⟨l7,l8,_,_,rfl,rfl,s8 _ _ e7,e8, ?_,λl9 H9 n9 s9 e9=>?_⟩⟩⟩⟩⟩⟩
   ·rw[kP xs at' (by omega),List.length_take];exact Nat.le_trans (show min at' xs.length+1<=9 by omega) (by decide)
   ·rw[kP xs at' (by omega),vA xs (at'+2) _ (by omega) (by omega),List.length_append,List.length_take,List.length_drop];exact Nat.le_trans (show min at' xs.length+1+(xs.length-(at'+2))<=9 by omega) (by decide)
   ·rw[kP xs at' (by omega),vA xs (at'+2) _ (by omega) (by omega)]at e9;have s59:=s6.trans (s7.trans (s8.trans s9));have s39:=s4.trans (s5.trans s59);have pr9:=Paired.mono (λ_ _ (k:PcP H3 _ _)=>k.same s39) pr3;have nw:PcP H9 (.ref t5) ⟨pc.lo,pn.hi,pc.rs⟩:=⟨t5,l,x,yn,us,rfl,s59 _ _ e5,x3.same s39,m3.same s39,s39 _ _ l3,Paired.mono (λ_ _ k=>NumT.same k s39) u3⟩;refine cutN s39 e9 (kI (kI (qI at' pr9) (.cons nw .nil)) (qJ (at'+2) pr9)) (by rw[List.length_append,List.length_append,List.length_take,List.length_drop];show min at' L.length+1+(L.length-(at'+2))<=20;omega) λq hq=>?_;rcases List.mem_append.mp hq with h | h
    ·rcases List.mem_append.mp h with h | h
     ·exact mto h
     ·rw[List.mem_singleton.mp h];exact⟨pb.lo,pbn.hi,pb.rs⟩
    ·exact mdo h
  rintro σ4 H4 ⟨rfl,rfl⟩;refine⟨_,rfl,_,rfl,l,us,rfl,.inl (SqL.of l3),tp,us.length,_,rfl,cl,T3',by omega,by omega,Int.lt_of_le_of_lt (show(us.length:Int)<=24 by have:=pb.rs.1;omega) p24,λsp H5 p0 p1 T5 b5=>?_⟩;obtain⟨j,rfl⟩:=Int.eq_ofNat_of_zero_le p0;have hj:j<us.length:=by omega
  obtain⟨vj,hvj⟩:∃v,us[j]? = some v:=⟨us[j],by simp [hj]⟩;obtain⟨rj,hrj,nrj⟩:=jY u3 hvj;have szj:=nums_sz sm n8 po.ok rj (by rw[<-po.rs];exact List.mem_of_getElem? hrj);have l5:=b5 _ _ l3 (xP T3' l3 u3);refine⟨_,rfl,_,rfl,l,us,_,vj,rfl,rfl,SqL.of l5,xR hvj, ?_⟩;refine⟨_,rfl,tp,_,rfl,cl,T5,by omega,λnr nt nb H6 fr e6 rne T6 b6 _=>?_⟩;have fb:=mG fr;have nrj5:=NumT.but nrj b5 T3';refine⟨_,_,rj,fv nt nb,rfl,NumT.but nrj5 b6 T5,NumT.ofS fr e6,jE szj.1 (by decide),jE szj.2 (by decide),fb.1,fb.2,λvo H7 s7 nvo=>?_⟩;have b47:But tp H4 H7:=(b5.trans b6).trans (But.of s7);have T7:=T6.mono s7 (Int.le_refl _);dsimp only[kN];refine kK (t:=tIfS _ _ _) (BnJ H4 cl tp d ls p l x y at' way j (B+9)) ?_ (λgo2=>?_)
  rotate_left
  ·refine⟨_,rfl,rfl,_,rfl,ite2 (λ_=>?_) (λ_=>go2 _ _ (.mk b47 (T7.mono (Same.refl _) (by omega)) nvo (add_ns szj.1 szj.2 fr)))⟩;have nrj7:=NumT.but nrj b47 T3';obtain⟨aj,rfl⟩:=ref_num nrj7;refine⟨_,rfl,_,rfl,l,us,_,_,rfl,rfl,SqL.of (b47 _ _ l3 (xP T3' l3 u3)),xR hvj,aj,_,_,rfl,nrj7.at2,λmn H8 n8' s8 e8=>?_⟩;refine go2 _ _ (.mk (b47.trans (But.of s8)) (T7.mono s8 (by omega)) (NumT.minus e8) ?_);rw[Rat.neg_num,Rat.neg_den,Int.natAbs_neg];exact⟨jE szj.1 (by decide),jE szj.2 (by decide)⟩
  rintro σ8 H8 ⟨b8,T8,n8v,sz8⟩;rename_i vo8 r8;have e8:=b8 _ _ e3 pt;have pr8:Paired (PcP H8) xs L:=Paired.mono (λ_ _ k=>PcP.butT k b8 T3') pr3;have x8:=EndT.but x3 b8 T3';have y8:=EndT.but y3 b8 T3';have l8:=b8 _ _ l3 (xP T3' l3 u3);have u8:Paired (NumT H8) us pc.rs:=Paired.mono (λ_ _ k=>NumT.but k b8 T3') u3;have isn:∀(z:V) (o:Option Rat),EndT H8 z o->decide (z=.non)=o.isNone:=λz o h=>by
   cases o with
   | none=>rw[show z=.non from h];rfl
   | some q=>obtain⟨_,rfl,_⟩:=h;rfl
  obtain⟨Le,L0,L1,en1,en2⟩:=po.en;refine kK (t:=tIfS _ _ _) (fun σ' H'=>σ'=[some (.ref tp),some (.ref d),some (.ref ls),some (.ref p),some (.int at'),some x,some y,some (.ref l),some (.int way),some (.int j),some vo8]/\H'=H8) ?_ (λgo2=>?_)
  rotate_left
  ·refine⟨_,rfl,rfl,_,rfl,ite2 (λ_=>?_) (λ_=>iteF (go2 _ _ ⟨rfl,rfl⟩))⟩;refine⟨_,rfl,_,rfl, ?_⟩;rw[isn _ _ x8];cases hlo:pc.lo with
   | none=>exact iteF (go2 _ _ ⟨rfl,rfl⟩)
   | some lq=>
    rw[hlo]at x8 en1;refine iteT ⟨_,rfl,_,rfl,tp,_,rfl,cl,T8,by omega,λnr nt nb H9 fr e9 rne T9 b9 _=>?_⟩;have fb:=mG fr;have sl:=(pb.lo lq hlo).bits;refine⟨_,_,lq,fv nt nb,rfl,NumT.but (show NumT H8 x lq from x8) b9 T8,NumT.ofS fr e9,jE sl.1 (by decide),jE sl.2 (by decide),fb.1,fb.2,λvn H10 s10 nvn=>⟨_,rfl,_,rfl,(by show 3<=sizeLine;decide),λt11 H11 n11 s11 e11=>?_⟩⟩;have s911:=s10.trans s11;have e911:=s911 _ _ (b9 _ _ e8 pt);refine⟨_,rfl,_,rfl,p,xs,_,at',rfl,rfl,e911,zV rfl (by omega), ?_⟩;obtain⟨k1,k2,ys,L',k3,k4,k5,k6⟩:=zC (H:=H4) (d:=d) (q:=t11) (pc:=⟨some (lq+fv nt nb),pc.hi,pc.rs⟩) sm n8 e911 (Paired.mono (λ_ _ k=>(PcP.butT k b9 T8).same s911) pr8) ha l6 ok (T9.mono s911 (show B+9+6<=B+30 by omega)) pt pcl (λa o e h1 _=>s911 _ _ (b9 _ _ (b8 _ _ e h1) h1)) ⟨t11,l,vn,y,us,rfl,e11,EndT.same (o:=some _) nvn s11,(EndT.but y8 b9 T8).same s911,s911 _ _ (b9 _ _ l8 (xP T8 l8 u8)),Paired.mono (λ_ _ k=>NumT.same (NumT.but k b9 T8) s911) u8⟩ ⟨λr hr=>by cases hr;exact add_sd L0 L1 (en1 lq rfl) fr,pb.hi,pb.rs⟩;exact⟨_,rfl,go p ys L' _ k1 k2 k3 k4 k5 k6⟩
  rintro σ9 H9 ⟨rfl,rfl⟩;refine kK (t:=tIfS _ _ _) (fun σ' H'=>σ'=[some (.ref tp),some (.ref d),some (.ref ls),some (.ref p),some (.int at'),some x,some y,some (.ref l),some (.int way),some (.int j),some vo8]/\H'=H9) ?_ (λgo2=>?_)
  rotate_left
  ·refine⟨_,rfl,rfl,_,rfl,ite2 (λ_=>?_) (λ_=>iteF (go2 _ _ ⟨rfl,rfl⟩))⟩;refine⟨_,rfl,_,rfl, ?_⟩;rw[isn _ _ y8];cases hhi:pc.hi with
   | none=>exact iteF (go2 _ _ ⟨rfl,rfl⟩)
   | some hq=>
    rw[hhi]at y8 en2;refine iteT ⟨_,rfl,_,rfl,_,rfl,tp,_,rfl,cl,T8,by omega,λnr nt nb H10 fr e10 rne T10 b10 _=>?_⟩;have fb:=mG fr;have sh':=(pb.hi hq hhi).bits;refine⟨_,_,hq,fv nt nb,rfl,NumT.but (show NumT H9 y hq from y8) b10 T8,NumT.ofS fr e10,jE sh'.1 (by decide),jE sh'.2 (by decide),fb.1,fb.2,λvn H11 s11 nvn=>⟨_,rfl,(by show 3<=sizeLine;decide),λt12 H12 n12 s12 e12=>?_⟩⟩;have s1012:=s11.trans s12;have e1012:=s1012 _ _ (b10 _ _ e8 pt);refine⟨_,rfl,_,rfl,p,xs,_,at',rfl,rfl,e1012,zV rfl (by omega), ?_⟩;obtain⟨k1,k2,ys,L',k3,k4,k5,k6⟩:=zC (H:=H4) (d:=d) (q:=t12) (pc:=⟨pc.lo,some (hq+fv nt nb),pc.rs⟩) sm n8 e1012 (Paired.mono (λ_ _ k=>(PcP.butT k b10 T8).same s1012) pr8) ha l6 ok (T10.mono s1012 (show B+9+6<=B+30 by omega)) pt pcl (λa o e h1 _=>s1012 _ _ (b10 _ _ (b8 _ _ e h1) h1)) ⟨t12,l,x,vn,us,rfl,e12,(EndT.but x8 b10 T8).same s1012,EndT.same (o:=some _) nvn s12,s1012 _ _ (b10 _ _ l8 (xP T8 l8 u8)),Paired.mono (λ_ _ k=>NumT.same (NumT.but k b10 T8) s1012) u8⟩ ⟨pb.lo,λr hr=>by cases hr;exact add_sd L0 L1 (en2 hq rfl) fr,pb.rs⟩;exact⟨_,rfl,go p ys L' _ k1 k2 k3 k4 k5 k6⟩
  rintro σ10 H10 ⟨rfl,rfl⟩;refine⟨_,rfl,_,rfl,_,rfl,_,rfl,_,rfl,l,us,rfl,SqL.of l8,λl11 H11 n11 s11 e11=>⟨_,rfl,(by show 1<=sizeLine;decide),λl12 H12 n12 s12 e12=>⟨l11,l12,_,_,rfl,rfl,s12 _ _ e11,e12, ?_,λl13 H13 n13 s13 e13=>⟨_,rfl,_,rfl,_,_,rfl,rfl,_,rfl,l,us,rfl,SqL.of (s13 _ _ (s12 _ _ (s11 _ _ l8))),λl14 H14 n14 s14 e14=>⟨l13,l14,_,_,rfl,rfl,s14 _ _ e13,e14, ?_,λl15 H15 n15 s15 e15=>⟨(by show 3<=sizeLine;decide),λt16 H16 n16 s16 e16=>?_⟩⟩⟩⟩⟩⟩
  ·rw[kP us j (by omega),List.length_take];exact Nat.le_trans (show min j us.length+1<=25 by omega) (by decide)
  ·rw[kP us j (by omega),vA us (j+1) _ (by omega) (by omega),List.length_append,List.length_take,List.length_drop];exact Nat.le_trans (show min j us.length+1+(us.length-(j+1))<=25 by omega) (by decide)
  rw[kP us j (by omega),vA us (j+1) _ (by omega) (by omega)]at e15;have s1016:=s11.trans (s12.trans (s13.trans (s14.trans (s15.trans s16))));have u16:Paired (NumT H16) us pc.rs:=Paired.mono (λ_ _ k=>NumT.same k s1016) u8;have e1016:=s1016 _ _ e8;refine⟨_,rfl,_,rfl,p,xs,_,at',rfl,rfl,e1016,zV rfl (by omega), ?_⟩;obtain⟨k1,k2,ys,L',k3,k4,k5,k6⟩:=zC (H:=H4) (d:=d) (q:=t16) (pc:=⟨pc.lo,pc.hi,pc.rs.take j++[r8]++pc.rs.drop (j+1)⟩) sm n8 e1016 (Paired.mono (λ_ _ k=>k.same s1016) pr8) ha l6 ok (T8.mono s1016 (show B+9<=B+30 by omega)) pt pcl (λa o e h1 _=>s1016 _ _ (b8 _ _ e h1)) ⟨t16,l15,x,y,_,rfl,e16,x8.same s1016,y8.same s1016,s16 _ _ e15,kI (kI (qI j u16) (.cons (n8v.same s1016) .nil)) (qJ (j+1) u16)⟩ ⟨pb.lo,pb.hi,by show(_:List Rat).length<=24;rw[List.length_append,List.length_append,List.length_take,List.length_drop];show min j pc.rs.length+1+(pc.rs.length-(j+1))<=24;have:=pb.rs.1;omega,λr hr=>by
   rcases List.mem_append.mp hr with h | h
   ·rcases List.mem_append.mp h with h | h
    ·exact pb.rs.2 r (List.mem_of_mem_take h)
    ·rw[List.mem_singleton.mp h];exact sz8
   ·exact pb.rs.2 r (List.mem_of_mem_drop h)⟩
  exact⟨_,rfl,go p ys L' _ k1 k2 k3 k4 k5 k6⟩
end
end Lw
namespace Lw
open PySem PySem.Spec PyProof.Rows L2 LwQ
theorem deg_ex{c:Nat->Rat} :∀m:Nat,(∀j,m<=j->c j=0)->∃n,IsDeg c n
 | 0,h=>⟨0,λj hj=>absurd (h j (Nat.zero_le _)) hj,.inl rfl⟩
 | m+1,h=>by
  by_cases z:c m=0
  ·exact deg_ex m λj hj=>by
    rcases Nat.eq_or_lt_of_le hj with e | l
    ·rw[<-e];exact z
    ·exact h j l
  ·exact⟨m,λj hj=>by
    by_cases l:j<=m
    ·exact l
    ·exact absurd (h j (by omega)) hj,.inr z⟩
theorem Co.one{n e m:Nat}{t u:Int}(hn:n<9)(hu:0<u)(su:u.natAbs<2^e)(st:t.natAbs<=2^m):Co 9 e m (λj=>if j=n then fv t u else 0):=by
 refine⟨λj hj=>if_neg (by omega),⟨u,hu,su,λj=>?_⟩,λj=>?_⟩
 ·show Wh u (if j=n then fv t u else 0);split
  ·exact Wh.of hu
  ·exact Wh.zero _
 ·show Bd _ (if j=n then fv t u else 0);split
  ·exact mQ hu st
  ·exact zO _
theorem Co.bump{c:Nat->Rat}{d k n e:Nat}{t u:Int}(h:Co 9 d k c)(hn:n<9)(hu:0<u)(su:u.natAbs<2^e)(st:t.natAbs<=2^k):Co 9 (d+e) (k+1) (bump c n (fv t u)):=h.add (Co.one hn hu su st)
theorem Co.drawn5{c:Nat->Rat}(h:Drawn c 5):Co 9 35 14 c:=by
 obtain⟨z,f⟩:=h;obtain⟨t4,u4,p4,a4,b4,e4⟩:=f 4;have cut:Drawn (λj=>if j<4 then c j else 0) 4:=⟨λj hj=>if_neg (by omega),λj=>by
  show ∃t u:Int,0<u/\t.natAbs<2^14/\u.natAbs<2^7/\(if j<4 then c j else 0)=fv t u;split
  ·exact f j
  ·exact⟨0,1,by decide,by decide,by decide,fv_zero.symm⟩⟩
 obtain⟨D,p,b,w⟩:=(Co.drawn cut (Nat.le_refl _)).dn;refine⟨λj hj=>z j (by omega),⟨D*u4,Int.mul_pos p p4,jE (jW b b4) (by decide),λj=>?_⟩,λj=>?_⟩
 ·by_cases l:j<4
  ·have:=w j;rw[if_pos l]at this;exact this.up u4
  ·by_cases q:j=4
   ·rw[q,e4];exact(Wh.of p4).of_dvd (Int.dvd_mul_left ..)
   ·rw[z j (by omega)];exact Wh.zero _
 ·obtain⟨t,u,p,a,b,e⟩:=f j;rw[e];exact mQ p (Nat.le_of_lt a)
theorem cut63(ns:List Int):∃ms:List Int,cutV (ns.map V.int) none (some 63)=ms.map V.int/\ms.length<=63:=by
 refine⟨(ns.drop (HT.sIx (ns.map V.int).length 0 none)).take (HT.sIx (ns.map V.int).length (ns.map V.int).length (some 63)-HT.sIx (ns.map V.int).length 0 none), ?_, ?_⟩
 ·unfold cutV;rw[<-List.map_drop,<-List.map_take]
 ·rw[List.length_take];have:HT.sIx (ns.map V.int).length (ns.map V.int).length (some 63)<=63:=by
   have:=HT.sIx_nat (ns.map V.int).length (ns.map V.int).length 63;rw[show((63:Nat):Int)=63 from rfl]at this;rw[this];exact Nat.min_le_left _ _
  omega
structure LwG(cl tp d:Addr)(x y:V)(lo hi:Option Rat)(c:Nat->Rat)(B:Int)(H:Hp):Prop where
 T:Tape cl H tp B
 F:FrzP H d c (λ_=>1500)
 x:EndT H x lo
 y:EndT H y hi
section
variable{cl tp d:Addr}{x y:V}{lo hi:Option Rat}{c:Nat->Rat}{B B':Int}{H H':Hp}
theorem LwG.next(h:LwG cl tp d x y lo hi c B H)(b:But tp H H')(T:Tape cl H' tp B'):LwG cl tp d x y lo hi c B' H':=⟨T,h.F.butT b h.T,h.x.but b h.T,h.y.but b h.T⟩
theorem LwG.same(h:LwG cl tp d x y lo hi c B H)(s:Same H H')(hB:B<=B'):LwG cl tp d x y lo hi c B' H':=h.next (But.of s) (h.T.mono s hB)
end
inductive OnJ(cl tp a:Addr)(x y:V)(lo hi:Option Rat)(kk:Nat)(B:Int):L2.St->Hp->Prop where
 | mk {u6:Option V} {way:Int} {H:Hp} {d:Addr} {c:Nat->Rat} (T:Tape cl H tp B) (D:DictP H d c (λ_=>1400+2*kk)) (co:Co 9 (190+kk) (94+kk) c) (x':EndT H x lo) (y':EndT H y hi):OnJ cl tp a x y lo hi kk B [some (.ref a),some (.ref tp),some x,some y,some (.ref d),some (.int way),u6,none,none,none,none,none,none] H
inductive FzJ(cl tp a:Addr)(x y:V)(lo hi:Option Rat)(B:Int):L2.St->Hp->Prop where
 | mk {u5 u6:Option V} {H:Hp} {d:Addr} {c:Nat->Rat} (G:LwG cl tp d x y lo hi c B H) (co:Co 9 200 104 c):FzJ cl tp a x y lo hi B [some (.ref a),some (.ref tp),some x,some y,some (.ref d),u5,u6,none,none,none,none,none,none] H
inductive PcI(cl tp a d pl qs ls:Addr)(vs ws:List V)(x y:V)(lo hi:Option Rat)(c:Nat->Rat)(n:Nat)(B:Int)(H0:Hp)(u5 u6:Option V)(i:Nat):L2.St->Hp->Prop where
 | mk {u9 u10 u11:Option V} {H:Hp} {xs:List V} {L:List Pc} (s:Same H0 H) (e:H ls=some (.lst xs)) (pr:Paired (PcP H) xs L) (ok:∀q∈L,PcO c n q) (ll:L.length=i):PcI cl tp a d pl qs ls vs ws x y lo hi c n B H0 u5 u6 i [some (.ref a),some (.ref tp),some x,some y,some (.ref d),u5,u6,some (.ref pl),some (.ref ls),u9,u10,u11,none] H
inductive TnI(cl tp a d ls:Addr)(x y:V)(lo hi:Option Rat)(c:Nat->Rat)(n:Nat)(L:List Pc)(xs:List V)(B:Int)(i:Nat):L2.St->Hp->Prop where
 | mk {u5 u6 u7 u9 u10 u11 u12:Option V} {H:Hp} (G:LwG cl tp d x y lo hi c (B+30*(i:Int)) H) (e:H ls=some (.lst xs)) (pr:Paired (PcP H) xs L):TnI cl tp a d ls x y lo hi c n L xs B i [some (.ref a),some (.ref tp),some x,some y,some (.ref d),u5,u6,u7,some (.ref ls),u9,u10,u11,u12] H
theorem xY{H H':Hp}{xs:List V}{L:List Pc}(h:Paired (PcP H) xs L)(s:Same H H'):Paired (PcP H') xs L:=Paired.mono (λ_ _ k=>k.same s) h
end Lw
namespace Lw
open PySem PySem.Spec PyProof.Rows L2 LwQ
theorem tape_aside{cl tp d:Addr}{H H':Hp}{B:Int}{E:List (List Key×V)}(T:Tape cl H tp B)(e:H d=some (.dT E))(b:But d H H'):Tape cl H' tp B:=by
 obtain⟨ns,s,r,l,e1,e2,e3⟩:=T;exact⟨ns,s,r,l,b _ _ e1 (λz=>by rw[z,e]at e1;cases e1),b _ _ e2 (λz=>by rw[z,e]at e2;cases e2),e3⟩
theorem nO{d:Addr}{H H':Hp}{x:V}{o:Option Rat}{E:List (List Key×V)}(h:EndT H x o)(e:H d=some (.dT E))(b:But d H H'):EndT H' x o:=by
 cases o with
 | none=>exact h
 | some r=>
  obtain⟨a,rfl,q⟩:=h;exact⟨a,rfl,b _ _ q λz=>by unfold At2 at q;rw[z,e]at q;cases q⟩
theorem gA{p:Addr}{H:Hp}{x:V}{o:Option Rat}{u v:HO}(h:EndT H x o)(e:H p=some u)(ne:∀xs,u≠.tup xs):EndT (upd H p v) x o:=by
 cases o with
 | none=>exact h
 | some r=>
  obtain⟨a,rfl,q⟩:=h;exact⟨a,rfl,by unfold At2 at q ⊢;rw[jQ (λz=>by rw[z,e]at q;exact ne _ (Option.some.inj q))];exact q⟩
theorem uD{cl tp p:Addr}{H:Hp}{B:Int}{u v:HO}(T:Tape cl H tp B)(e:H p=some u)(ne:∀xs,u≠.lst xs):Tape cl (upd H p v) tp B:=by
 obtain⟨ns,s,r,l,e1,e2,e3⟩:=T;exact⟨ns,s,r,l,by rw[jQ (λz=>by rw[z,e]at e1;exact ne _ (Option.some.inj e1))];exact e1,by rw[jQ (λz=>by rw[z,e]at e2;exact ne _ (Option.some.inj e2))];exact e2,e3⟩
section
variable{P:Program}{w:World}{K:PySem.W.Frag}{mg:Str->Option Value}{base:Heap}{f fd:_}
theorem scLaw:FnScope ["script","tape","low","high","one","way","down","places","some","begin","end","told","k"] ["script"] (jO sLaw):=⟨rfl,rfl,rfl,by decide +kernel,rfl,by decide +kernel,by decide +kernel⟩
theorem ok_law{fD fS fG fY fN fU fC fM fA fT fB fE:Addr}{fdD fdS fdG fdY fdN fdU fdC fdM fdA fdT fdB fdE:FuncData}(F:Fun K "law" "law" sLaw f fd)(T:Txt mg)(DD:Df K mg "_law_draw" yL ["tape","many"] fD fdD)(GD:FnOk P w K mg base CX0 1 fD fdD ["tape","many"] spDraw)(DS:Df K mg "_law_stretch" yP ["tape"] fS fdS)(GS:FnOk P w K mg base CX0 3 fS fdS ["tape"] spStretch)
  (DG:Df K mg "_law_good" sGood ["tape","low","high"] fG fdG) (GG:FnOk P w K mg base CX0 4 fG fdG ["tape","low","high"] spGood) (DY:Df K mg "_law_poly" nA ["tape","most"] fY fdY) (GY:FnOk P w K mg base CX0 3 fY fdY ["tape","most"] spPoly) (DN:Df K mg "_law_number" xC ["tape"] fN fdN) (GN:FnOk P w K mg base CX0 2 fN fdN ["tape"] (zF 6 (2^38)))
  (DU:Df K mg "_law_put" sPut ["found","powers","number"] fU fdU) (GU:FnOk P w K mg base CX0 2 fU fdU ["found","powers","number"] spPut) (DC:Df K mg "_law_cuts" sCuts ["tape","low","high"] fC fdC) (GC:FnOk P w K mg base CX0 3 fC fdC ["tape","low","high"] spCuts) (DM:Df K mg "_law_sum" gR ["many","one"] fM fdM) (GM:FnOk P w K mg base CX0 2 fM fdM ["many","one"] spLSum)
  (DA:Df K mg "numbers" nB ["one","low","high"] fA fdA) (GA:FnOk P w K mg base CX0 7 fA fdA ["one","low","high"] (spNums K)) (DT:Df K mg "_law_told" sTold ["one","low","high","some"] fT fdT) (GT:FnOk P w K mg base CX0 9 fT fdT ["one","low","high","some"] spTold) (DB:Df K mg "_law_bent" sBent ["tape","one","some"] fB fdB) (GB:FnOk P w K mg base CX0 9 fB fdB ["tape","one","some"] spBent)
  (DE:Df K mg "_law_deg" sDeg ["one"] fE fdE) (GE:FnOk P w K mg base CX0 1 fE fdE ["one"] spDeg):FnOk P w K mg base CX0 10 f fd ["script"] (spLaw K):=by
 refine F.ok scLaw (λvs H Q E h=>?_) (λcdv A outer s H vs Q E hr h=>?_)
 ·obtain⟨a,ns,rfl,_⟩:=h
  rfl
 ·obtain⟨a,ns,rfl,hS,hlen,go⟩:=h;have hr1:Room 1 _:=hr.mono (by decide);have hr2:Room 2 _:=hr.mono (by decide);have hr3:Room 3 _:=hr.mono (by decide);have hr4:Room 4 _:=hr.mono (by decide);have hr7:Room 7 _:=hr.mono (by decide);refine⟨_,jB (jI (i:=1) scLaw.nd rfl (Or.inl rfl) (kR (jA (vL mM (by rfl) T.lst boot_list (jA (kL kJ (pv 0) qA (kX jD)) jC)) (jA jD (jA jD (jA jD jC)))))) (jB (qC (jG GS hr3 rfl DS.m DS.F.kp DS.b .nil jL (jA (pv 1) jC)) (kU rfl (jM (jH (i:=2) scLaw.nd rfl (Or.inl rfl)) (jM (jH (i:=3) scLaw.nd rfl (Or.inl rfl)) kG)))) (jB (jI (i:=4) scLaw.nd rfl (Or.inl rfl) (jG GG hr4 rfl DG.m DG.F.kp DG.b .nil jL (jA (pv 1) (jA (pv 2) (jA (pv 3) jC))))) (jB (jI (i:=5) scLaw.nd rfl (Or.inl rfl) (jG GD hr1 rfl DD.m DD.F.kp DD.b .nil jL (jA (pv 1) (jA jD jC)))) (jB (jX (jR qP (pv 5) jD (jS _)) (jF (jI (i:=4) scLaw.nd rfl (Or.inl rfl) (jG GY hr3 rfl DY.m DY.F.kp DY.b .nil jL (jA (pv 1) (jA jD jC))))) jP) (jB (jX (jR qP (pv 5) jD (jS _)) (jB (jI (i:=6) scLaw.nd rfl (Or.inl rfl) (jG GN hr2 rfl DN.m DN.F.kp DN.b .nil jL (jA (pv 1) jC))) (jF (xD (jG GU hr2 rfl DU.m DU.F.kp DU.b .nil jL (jA (pv 4) (jA (jV (jA jD jC)) (jA (jV (jA (jJ qB jD (kA mO (by rfl) T.abs boot_abs (jA (jT jU (pv 6) jD (λ_ _=>rfl)) jC))) (jA (jT jU (pv 6) jD (λ_ _=>rfl)) jC))) jC))))))) jP) (jB (jX (jR (LwD.op_eqE hr.units0) (LwD.yC (pv 4)) xX (jS _)) (jF (jI (i:=4) scLaw.nd rfl (Or.inl rfl) (LwD.yC (LwD.pe_disp1 hr.units0 (jV (jA jD jC)) (jV (jA jD (jA jD jC))))))) jP) (jB (jI (i:=7) scLaw.nd rfl (Or.inl rfl) (jG GC hr3 rfl DC.m DC.F.kp DC.b .nil jL (jA (pv 1) (jA (pv 2) (jA (pv 3) jC))))) (jB (jI (i:=8) scLaw.nd rfl (Or.inl rfl) (kR jC)) (jB (kW PassesOwn.never rfl (pi_zipL (by rfl) T.zip (jA (pv 7) (jA (kL kJ (pv 7) (kX jD) qA) jC))) (kU rfl (jM (jH (i:=9) scLaw.nd rfl (Or.inl rfl)) (jM (jH (i:=10) scLaw.nd rfl (Or.inl rfl)) kG))) (jB (jI (i:=11) scLaw.nd rfl (Or.inl rfl) (jG GA hr7 rfl DA.m DA.F.kp DA.b .nil jL (jA (jG GM hr2 rfl DM.m DM.F.kp DM.b .nil jL (jA jD (jA (pv 4) jC))) (jA (pv 9) (jA (pv 10) jC))))) (jF (xD (pe_bm PySem.F.plainAttrs_list PySem.F.slot_list_append PySem.F.type_list_append xF (pv 8) (jA (jV (jA (pv 9) (jA (pv 10) (jA (pv 11) jC)))) jC)))))) (jB (jX (vN (qM (jG GT hr rfl DT.m DT.F.kp DT.b .nil jL (jA (pv 4) (jA (pv 2) (jA (pv 3) (jA (pv 8) jC))))))) (jF (jN vF)) jP) (jB (kW PassesOwn.never rfl (qD (by rfl) T.rng (jA jD jC)) (jH (i:=12) scLaw.nd rfl (Or.inl rfl)) (jF (jX (vN (qM (jG GT hr rfl DT.m DT.F.kp DT.b .nil jL (jA (pv 4) (jA (pv 2) (jA (pv 3) (jA (jG GB hr rfl DB.m DB.F.kp DB.b .nil jL (jA (pv 1) (jA (pv 4) (jA (pv 8) jC)))) jC))))))) (jF (jN vF)) jP))) (jB (jX (PW.pt (qV (jR qP (jG GE hr1 rfl DE.m DE.F.kp DE.b .nil jL (jA (pv 4) jC)) jD (jS _)) (qV (qF (vJ (pv 2))) (qT (qF (vJ (pv 3))))))) (jB (jI (i:=11) scLaw.nd rfl (Or.inl rfl) (jT jU (jT kQ (pv 8) jD (λ_ _=>rfl)) jD (λ_ _=>rfl))) (jF (jX (vN (qM (jG GT hr rfl DT.m DT.F.kp DT.b .nil jL (jA (pv 4) (jA (pv 2) (jA (pv 3) (jA (kR (jA (jV (jA (pv 2) (jA xI (jA (pv 11) jC)))) (jA (jV (jA xI (jA (pv 3) (jA (pv 11) jC)))) jC))) jC))))))) (jF (jN vF)) jP))) jP) (jF (jN (jG GT hr rfl DT.m DT.F.kp DT.b .nil jL (jA (pv 4) (jA (pv 2) (jA (pv 3) (jA (pv 8) jC))))))))))))))))))), ?_⟩
  try dsimp only
  obtain⟨cs,em,hm⟩:=cut63 ns;have p28:(100000:Int)<2^28:=by decide
  have p29:(2:Int)^28<2^29:=by decide
  have p30:(2:Int)^29<2^30:=by decide
  have p38:(2:Int)^30<2^38:=by decide
  have p40:(2:Int)^38<2^40:=by decide
  refine⟨_,rfl,_,rfl,a,_,rfl,hS,λp1 H1 n1 s1 e1=>?_⟩;refine⟨p1,_,rfl,.inl (SqL.of e1),λcl H2 n2 s2 e2=>⟨(by show 4<=sizeLine;decide),λtp H3 n3 s3 e3=>?_⟩⟩;have T3:Tape cl H3 tp 0:=⟨cs,0,0,0,e3,by rw[s3 _ _ e2,em],hm,by decide,by decide⟩;refine⟨_,rfl,tp,0,rfl,cl,T3,by omega,λr x y lo hi L H4 n4 e4 x4 y4 L0 L1 el eh T4 b4=>⟨r,_,rfl,SqT.of e4,rfl,_,_,rfl,_,_,rfl,rfl, ?_⟩⟩;refine⟨_,rfl,_,rfl,_,rfl,tp,x,y,lo,hi,L,_,rfl,x4,y4,L0,L1,el,eh,cl,T4,by omega,λd5 c5 H5 n5 b5 T5 D5 co5=>?_⟩;refine wZ rfl T5 (by omega) (by decide) (by decide) λwy H6 w0 w1 T6 b6=>?_;have x6:=(x4.but b5 T4).but b6 T5;have y6:=(y4.but b5 T4).but b6 T5;have D6:=D5.butT b6 T5;dsimp only[kN];refine kK (t:=tIfS _ _ _) (OnJ cl tp a x y lo hi 0 2000) ?_ (λgo2=>?_)
  rotate_left
  ·refine⟨_,rfl,rfl,_,rfl,ite2 (λ_=>?_) (λ_=>go2 _ _ (.mk (T6.mono (Same.refl _) (by omega)) (D6.mono λ_=>by decide) (co5.up (Nat.le_refl _) (by decide) (by decide)) x6 y6))⟩;refine⟨_,rfl,tp,4,_,rfl,by decide,cl,T6,by omega,λd7 c7 H7 n7 b7 T7 D7 dr=>go2 _ _ (.mk (T7.mono (Same.refl _) (by omega)) (D7.mono λ_=>by decide) ((Co.drawn5 dr).up (Nat.le_refl _) (by decide) (by decide)) (x6.but b7 T6) (y6.but b7 T6))⟩
  rintro σ7 H7 ⟨T7,D7,co7,x7,y7⟩;rename_i u6 way d7 c7;refine kK (t:=tIfS _ _ _) (OnJ cl tp a x y lo hi 10 3000) ?_ (λgo2=>?_)
  rotate_left
  ·refine⟨_,rfl,rfl,_,rfl,ite2 (λ_=>?_) (λ_=>go2 _ _ (.mk (T7.mono (Same.refl _) (by omega)) (D7.mono λ_=>by decide) (co7.up (Nat.le_refl _) (by decide) (by decide)) x7 y7))⟩;refine⟨_,rfl,tp,_,rfl,cl,T7,by omega,λnr nt nb H8 fr e8 rne T8 b8 _=>?_⟩;have D8:=D7.butT b8 T7;refine⟨_,rfl,(by show 1<=sizeLine;decide),λkb H9 n9 s9 e9=>?_⟩;have e89:H9 nr=some (.tup [.int nt,.int nb]):=s9 _ _ e8;refine⟨_,rfl,nr,_,_,_,rfl,rfl,SqT.of e89,rfl,nt,rfl,_,_,rfl,rfl,_,rfl,nr,_,_,_,rfl,rfl,SqT.of e89,rfl,(by show 2<=sizeLine;decide),λq H10 n10 s10 e10=>?_⟩;have ab:(0-(if nt<0 then -nt else nt)).natAbs=nt.natAbs:=by split<;>omega
   have e10':At2 H10 q (0-(if nt<0 then -nt else nt)) nb:=e10;generalize (0-(if nt<0 then -nt else nt))=ot at e10' ab;have s810:=s9.trans s10;have D10:=D8.same' s810;obtain⟨E10,ee10,R10⟩:=id D10;refine⟨d7,kb,q,0,14,ot,nb,c7,_,rfl,D10,s10 _ _ e9,by decide,e10',fr.pos,by rw[ab];exact fr.st,jE fr.sb (by decide),by decide,by decide,λH11 b11 D11=>?_⟩;refine go2 _ _ (.mk (tape_aside ((T8.mono s810 (show(2000:Int)+6<=3000 by omega))) ee10 b11) ?_ ((co7.bump (n:=0) (e:=7) (by decide) fr.pos fr.sb (by rw[ab];exact Nat.le_trans (Nat.le_of_lt fr.st) (Nat.pow_le_pow_right (by decide) (by decide)))).up (Nat.le_refl _) (by decide) (by decide)) (nO ((x7.but b8 T7).same s810) ee10 b11) (nO ((y7.but b8 T7).same s810) ee10 b11));exact D11.mono λj=>by
    show 1400+2*0+(if j=0 then 14+1 else 0)<=1400+2*10;split<;>omega
  rintro σ8 H8 ⟨T8,D8,co8,x8,y8⟩;rename_i u6' way' d8 c8;obtain⟨E8,e8,R8⟩:=D8;refine kK (t:=tIfS _ _ _) (FzJ cl tp a x y lo hi 3000) ?_ (λgo2=>?_)
  rotate_left
  ·refine⟨_,rfl,d8,_,rfl,e8,λo8=>?_⟩;have F8:=yF (o:=o8) e8 R8;have T8':=uD (v:=.frz o8 (.dT (E8.map Ent.kv))) T8 e8 (λ_ z=>nomatch z);have x8':=gA (v:=.frz o8 (.dT (E8.map Ent.kv))) x8 e8 (λ_ z=>nomatch z);have y8':=gA (v:=.frz o8 (.dT (E8.map Ent.kv))) y8 e8 (λ_ z=>nomatch z);have e8':(upd H8 d8 (.frz o8 (.dT (E8.map Ent.kv)))) d8=some (.frz o8 (.dT (E8.map Ent.kv))):=jK;generalize upd H8 d8 (.frz o8 (.dT (E8.map Ent.kv)))=H9 at F8 T8' x8' y8' e8';intro pz nz;have sz:Same H9 (upd H9 pz (.dT [])):=kH _ nz;refine⟨d8,pz,_,rfl,rfl,.inr ⟨o8,sz _ _ e8'⟩,.inl jK,_,rfl,ite2 (λ_=>?_) (λ_=>go2 _ _ (.mk ⟨T8'.mono sz (Int.le_refl _),(F8.same sz).mono λ_=>by decide,x8'.same sz,y8'.same sz⟩ (co8.up (Nat.le_refl _) (by decide) (by decide))))⟩;generalize upd H9 pz (.dT [])=H10 at sz;intro pq nq;have sq:Same H10 (upd H10 pq (.dT [])):=kH _ nq;have eq':(upd H10 pq (.dT [])) pq=some (.dT []):=jK;generalize upd H10 pq (.dT [])=H11 at sq eq';refine⟨(by show 1<=sizeLine;decide),λkb H12 n12 s12 e12=>⟨(by show 2<=sizeLine;decide),λvb H13 n13 s13 e13=>⟨s13 _ _ (s12 _ _ eq'),kb,LwD.ik [0],rfl,by rw[LwD.xM];exact s13 _ _ e12,pq,_,rfl,jK,λo13=>?_⟩⟩⟩;have s1113:=s12.trans s13;have eq13:=s1113 _ _ eq';have vp:vb≠pq:=λz=>by rw[z,eq13]at e13;cases e13
   have e14:(upd H13 pq (.dT [(LwD.ik [0],V.ref vb)])) pq=some (.dT (([⟨0,vb,1,3⟩]:List Ent).map Ent.kv)):=jK;have R14:RepE (upd H13 pq (.dT [(LwD.ik [0],V.ref vb)])) ([]++[⟨0,vb,1,3⟩]) (bump (λ_=>0) 0 (fv 1 3)) (λ_=>14):=rep_new (zH (H:=H13) _) (by decide) (λe h=>nomatch h) (λa xs h=>by rw[jQ (λz=>by rw[z,eq13]at h;cases h)];exact h) (by unfold At2;rw[jQ vp];exact e13) (by decide) (by decide) (by decide) (by decide);have F14:=yF (o:=o13) e14 R14;have s913:=sz.trans (sq.trans s1113);have T13:=T8'.mono s913 (Int.le_refl _);have T14:=uD (v:=.frz o13 (.dT [(LwD.ik [0],V.ref vb)])) (uD (v:=.dT [(LwD.ik [0],V.ref vb)]) T13 eq13 (λ_ z=>nomatch z)) jK (λ_ z=>nomatch z);have en14:∀{z:V} {o:Option Rat},EndT H9 z o->EndT (upd (upd H13 pq (.dT [(LwD.ik [0],V.ref vb)])) pq (.frz o13 (.dT [(LwD.ik [0],V.ref vb)]))) z o:=λh=>gA (gA (h.same s913) eq13 (λ_ z=>nomatch z)) jK (λ_ z=>nomatch z);refine go2 _ _ (.mk (c:=bump (λ_=>0) 0 (fv 1 3)) ⟨T14,FrzP.mono F14 (λ_=>by decide),en14 x8',en14 y8'⟩ ((Co.nil.bump (n:=0) (e:=2) (by decide) (by decide) (by decide) (by decide)).up (Nat.le_refl _) (by decide) (by decide)))
  rintro σ9 H9 ⟨G9,co9⟩;rename_i u5 u6 d c;have sm:Sm c:=(co9.up (Nat.le_refl _) (by decide) (by decide)).sm;obtain⟨n,dg⟩:=deg_ex (c:=c) 9 co9.z;have n8:=yG sm dg;refine⟨_,rfl,_,rfl,_,rfl,tp,x,y,lo,hi,L,_,rfl,G9.x,G9.y,L0,L1,el,eh,cl,G9.T,by omega,λpl vs os H10 n10 b10 T10 e10 pr10 plc=>?_⟩;have G10:=G9.next b10 T10;have two:=plc.two;have len:=plc.len;have lv:=Paired.length pr10;refine⟨(by show 0<=sizeLine;decide),λls H11 n11 s11 e11=>?_⟩;refine⟨_,rfl,_,rfl,_,rfl,pl,vs,rfl,SqL.of (s11 _ _ e10),λqs H12 n12 s12 e12=>?_⟩;rw[vA vs 1 1 rfl (by omega)]at e12;have s1012:=s11.trans s12;have G12:=G10.same s1012 (Int.le_refl _);have e1012:=s1012 _ _ e10;have pr12:Paired (EndT H12) vs os:=Paired.mono (λ_ _ k=>EndT.same k s1012) pr10;have lst:ls≠tp:=vM T10 n11;have lsp:ls≠pl:=λz=>by rw[z,e10]at n11;cases n11
  have lsq:ls≠qs:=λz=>by rw[<-z,e11]at n12;cases n12
  refine⟨pl,qs,rfl,⟨_,SqL.of e1012⟩,⟨_,SqL.of e12⟩, ?_⟩;have ld:(vs.drop 1).length=vs.length-1:=List.length_drop;have kls:∀{H':Hp} {b':Addr} {o':HO} {v:HO},b'≠ls->H' b'=some o'->(upd H' ls v) b'=some o':=λh e=>by rw[jQ h];exact e
  obtain⟨Lp,Lp0,Lp1,Lpe⟩:=plc.ex;have lst12:=s12 _ _ e11;refine for_zipL (K:=K) (a:=pl) (b:=qs) (xs:=vs) (ys:=vs.drop 1) (λi σ' H'=>∃(u9 u10 u11:Option V) (xs:List V) (Ls:List Pc),σ'=[some (.ref a),some (.ref tp),some x,some y,some (.ref d),u5,u6,some (.ref pl),some (.ref ls),u9,u10,u11,none]/\But ls H12 H'/\H' ls=some (.lst xs)/\Paired (PcP H') xs Ls/\(∀q∈Ls,PcO c n q)/\Ls.length=i) (by omega) ⟨_,_,_,_,[],rfl,But.refl _ _,lst12,.nil,(λq h=>nomatch h),rfl⟩ ?_ ?_ ?_
  ·rintro i σ' H' _ ⟨_,_,_,_,_,_,b',_⟩;exact⟨SqL.of (b' _ _ e1012 (Ne.symm lsp)),SqL.of (b' _ _ e12 (Ne.symm lsq))⟩
  ·rintro i v1 v2 pp σ' H' h1 h2 np ⟨u9,u10,u11,xs,Ls,rfl,b',e',pr',ok',ll'⟩;rw[List.getElem?_drop,Nat.add_comm]at h2;have hi1:i+1<vs.length:=(List.getElem?_eq_some_iff.mp h2).1;obtain⟨o1,ho1,t1⟩:=jY pr12 h1;obtain⟨o2,ho2,t2⟩:=jY pr12 h2;have m1:=List.mem_of_getElem? ho1;have m2:=List.mem_of_getElem? ho2;have sd1:=plc.sd (by decide) o1 m1;have sd2:=plc.sd (by decide) o2 m2;have eok:EndOk o1 o2:=by
    cases o1 with
    | none=>
     cases o2 with
     | none=>exact(plc.adj i ho1 ho2).elim
     | some q=>exact sd2 q rfl
    | some q=>
     cases o2 with
     | none=>exact sd1 q rfl
     | some q2=>exact⟨sd1 q rfl,sd2 q2 rfl⟩
   have sp:Same H' (upd H' pp (.tup [v1,v2])):=kH _ np;have ep:(upd H' pp (.tup [v1,v2])) pp=some (.tup [v1,v2]):=jK;generalize upd H' pp (.tup [v1,v2])=H13 at sp ep;have keepE:∀{z:V} {o:Option Rat},EndT H12 z o->EndT H' z o:=fun {z o} h=>by
    cases o with
    | none=>exact h
    | some r=>obtain⟨ad,rfl,q⟩:=h;exact⟨ad,rfl,b' _ _ q λy=>by unfold At2 at q;rw[y,lst12]at q;cases q⟩
   have F13:FrzP H13 d c (λ_=>1500):=by
    have:=G12.F.but b' λa u ha nl nd y=>by rw[y,lst12]at ha;exact nl _ (Option.some.inj ha).symm
    exact this.same sp
   have t1':=(keepE t1).same sp;have t2':=(keepE t2).same sp;refine⟨pp,_,rfl,SqT.of ep,rfl,_,_,rfl,_,_,rfl,rfl, ?_⟩;refine⟨_,rfl,d,c,_,rfl,F13,λ_=>(by show 1500<=8000;decide),λsp' H14 n14 s14 S14=>?_⟩;refine⟨_,rfl,_,rfl,sp',v1,v2,c,o1,o2,rfl,S14,sm,(t1'.same s14).v,(t2'.same s14).v,eok,λtl n' xs' H15 n15 s15 dg' e15 p15=>?_⟩;obtain rfl:=dg'.uniq dg;have s1315:=s14.trans s15;refine⟨_,rfl,.inl ⟨rfl,_,SqL.of (s1315 _ _ (sp _ _ e'))⟩,_,rfl,_,rfl,_,rfl,(by show 3<=sizeLine;decide),λt16 H16 n16 s16 e16=>?_⟩;have sH16:=sp.trans (s1315.trans s16);have eL:=sH16 _ _ e';have lxs:=Paired.length pr';refine⟨ls,_,_,rfl,rfl,eL,Nat.lt_of_le_of_lt (show xs.length<=20 by omega) (by decide), ?_⟩;have tl16:=s16 _ _ e15;have p16:Paired (NumT H16) xs' (qG (cL c n') o1 o2):=Paired.mono (λ_ _ k=>NumT.same k s16) p15;have tll:tl≠ls:=λz=>by rw[z,s14 _ _ (sp _ _ e')]at n15;cases n15
   have updP:∀{v:V} {q:Pc},PcP H16 v q->(∀r l x y us,v=.ref r->H16 r=some (.tup [x,y,.ref l])->H16 l=some (.lst us)->l≠ls)->PcP (upd H16 ls (.lst (xs++[.ref t16]))) v q:=fun {v q} h nl=>by
    obtain⟨r,l,x,y,us,er,e1,e2,e3,e4,e5⟩:=h.ex;exact⟨r,l,x,y,us,er,by rw[jQ (λz=>by rw[z,eL]at e1;cases e1)];exact e1,e2.upd eL,e3.upd eL,by rw[jQ (nl r l x y us er e1 e4)];exact e4,Paired.mono (λ_ _ k=>NumT.upd k eL) e5⟩
   have new:PcP (upd H16 ls (.lst (xs++[.ref t16]))) (.ref t16) ⟨o1,o2,qG (cL c n') o1 o2⟩:=updP ⟨t16,tl,v1,v2,xs',rfl,e16,(t1'.same s1315).same s16,(t2'.same s1315).same s16,tl16,p16⟩ λr l x y us er e1 _=>by
    cases er;rw[e16]at e1;cases e1;exact tll
   refine⟨_,_,_,_,Ls++[⟨o1,o2,qG (cL c n') o1 o2⟩],rfl, ?_,jK, ?_,λq hq=>?_,by rw[List.length_append,ll'];rfl⟩
   ·exact(b'.trans (But.of sH16)).trans (But.upd _ _ _)
   ·refine Paired.snoc ?_ new;by_cases ne:xs=[]
    ·cases pr' with
     | nil=>exact .nil
     | cons _ _=>cases ne
    ·exact Paired.mono (λv q k=>k.put eL (xY pr' sH16) ne) (xY pr' sH16)
   ·rcases List.mem_append.mp hq with h | h
    ·exact ok' q h
    ·rw[List.mem_singleton.mp h];refine⟨rfl,eok,Lp,Lp0,Nat.lt_of_lt_of_le Lp1 (by decide), ?_, ?_⟩
     ·exact λr hr=>⟨(Lpe o1 m1 r hr).1,(Lpe o1 m1 r hr).2.mono (by decide)⟩
     ·exact λr hr=>⟨(Lpe o2 m2 r hr).1,(Lpe o2 m2 r hr).2.mono (by decide)⟩
  rintro σ' H13 ⟨u9,u10,u11,xs,Ls,rfl,b13,e13,pr13,ok13,ll13⟩;have G13:LwG cl tp d x y lo hi c 3010 H13:=by
   have keepE:∀{z:V} {o:Option Rat},EndT H12 z o->EndT H13 z o:=fun {z o} h=>by
    cases o with
    | none=>exact h
    | some r=>obtain⟨ad,rfl,q⟩:=h;exact⟨ad,rfl,b13 _ _ q λy=>by unfold At2 at q;rw[y,lst12]at q;cases q⟩
   obtain⟨ns',sp0,re0,le0,t1,t2,t3⟩:=G12.T;have lscl:ls≠cl:=λz=>by obtain⟨_,_,_,_,_,q,_⟩:=T10;rw[<-z,n11]at q;cases q
   refine⟨⟨ns',sp0,re0,le0,b13 _ _ t1 (Ne.symm lst),b13 _ _ t2 (Ne.symm lscl),t3.1,t3.2.1,by have:=t3.2.2;omega⟩,G12.F.but b13 λa u ha nl nd y=>by rw[y,lst12]at ha;exact nl _ (Option.some.inj ha).symm,keepE G12.x,keepE G12.y⟩
  have okB':∀q∈Ls,PcB q:=λq hq=>(ok13 q hq).b sm n8;have lLs:Ls.length=vs.length-1:=by rw[ll13,ld]
  have elo:Es lo:=en_sd L0 (Nat.lt_of_lt_of_le L1 (Nat.pow_le_pow_right (by decide) (by decide))) (by decide) el;have ehi:Es hi:=en_sd L0 (Nat.lt_of_lt_of_le L1 (Nat.pow_le_pow_right (by decide) (by decide))) (by decide) eh;refine⟨_,rfl,_,rfl,_,rfl,_,rfl,d,ls,x,y,c,n,lo,hi,xs,Ls,rfl,G13.F,sm,dg,G13.x,G13.y,e13,pr13,by omega,okB',λH14 s14=>⟨_,rfl,iteF ?_⟩⟩;refine⟨8,rfl,by decide,by decide,qE (n:=8) (TnI cl tp a d ls x y lo hi c n Ls xs 4000) (.mk (G13.same s14 (by omega)) (s14 _ _ e13) (xY pr13 s14)) (λi σ' H15 hi' h=>?_) (fun σ' H15 h=>?_)⟩
  ·obtain⟨G15,e15,pr15⟩:=h;refine⟨_,rfl,_,rfl,_,rfl,_,rfl,_,rfl,_,rfl,tp,d,ls,c,n,xs,Ls,_,rfl,G15.F,sm,dg,e15,pr15,by omega,by omega,ok13,cl,G15.T,by omega,λpb ys L' H16 b16 T16 e16 pr16 ll16 ok16=>?_⟩;have G16:=G15.next b16 T16;exact⟨d,pb,x,y,c,n,lo,hi,ys,L',rfl,G16.F,sm,dg,G16.x,G16.y,e16,pr16,ll16,ok16,λH17 s17=>⟨_,rfl,iteF (.mk (G16.same s17 (by omega)) (s17 _ _ (b16 _ _ e15 lst)) (xY (Paired.mono (λ_ _ k=>PcP.butT k b16 G15.T) pr15) s17))⟩⟩
  obtain⟨G15,e15,pr15⟩:=h;rename_i w5 w6 w7 w9 w10 w11 w12;dsimp only;refine kK (t:=tIfS _ _ _) (TnI cl tp a d ls x y lo hi c n Ls xs 5000 0) ?_ (λgo2=>?_)
  ·rintro σ'' H16 ⟨G16,e16,pr16⟩;exact⟨_,rfl,_,rfl,_,rfl,_,rfl,d,ls,x,y,c,n,lo,hi,xs,Ls,rfl,G16.F,sm,dg,G16.x,G16.y,e16,pr16,by omega,okB',λH17 _=>go H17⟩
  have back:∀{H':Hp} {v11:Option V},Same H15 H'->TnI cl tp a d ls x y lo hi c n Ls xs 5000 0 [some (.ref a),some (.ref tp),some x,some y,some (.ref d),w5,w6,w7,some (.ref ls),w9,w10,v11,w12] H':=λs'=>.mk (G15.same s' (by omega)) (s' _ _ e15) (xY pr15 s');refine⟨_,rfl,d,c,_,rfl,G15.F,λnn H16 s16 dg16=>⟨rfl,_,rfl,ite2 (λ_=>?_) (λ_=>iteF (go2 _ _ (back s16)))⟩⟩;have x16:=G15.x.same s16;have y16:=G15.y.same s16;have isn:∀(z:V) (o:Option Rat),EndT H16 z o->decide (z=.non)=o.isNone:=λz o h=>by
   cases o with
   | none=>rw[show z=.non from h];rfl
   | some q=>obtain⟨_,rfl,_⟩:=h;rfl
  refine⟨_,rfl,_,rfl, ?_⟩;rw[isn _ _ x16];cases hlo:lo with
  | none=>exact iteF (iteF (go2 _ _ (back s16)))
  | some lq=>
   refine iteT ⟨_,rfl,_,rfl, ?_⟩;rw[isn _ _ y16];cases hhi:hi with
   | none=>exact iteF (go2 _ _ (back s16))
   | some hq=>
    obtain⟨v0,hv0⟩:∃v,xs[0]? = some v:=⟨xs[0]'(by have:=Paired.length pr15;omega),by simp [show 0<xs.length by have:=Paired.length pr15;omega]⟩;obtain⟨p0,hp0,pp0⟩:=jY (xY pr15 s16) hv0;have pb0:=okB' p0 (List.mem_of_getElem? hp0);obtain⟨r0,l0,x0,y0,us0,rfl,z1,z2,z3,z4,z5⟩:=pp0.ex;refine iteT ⟨_,rfl,ls,xs,0,_,rfl,rfl,SqL.of (s16 _ _ e15),zD (i:=0) rfl hv0,r0,_,2,_,rfl,rfl,SqT.of z1,rfl, ?_⟩;refine⟨_,rfl,_,rfl,_,rfl,_,rfl,_,rfl,(by show 3<=sizeLine;decide),λt17 H17 n17 s17 e17=>⟨_,rfl,_,rfl,(by show 3<=sizeLine;decide),λt18 H18 n18 s18 e18=>⟨(by show 2<=sizeLine;decide),λl19 H19 n19 s19 e19=>?_⟩⟩⟩;have s1719:=s18.trans s19;have s1619:=s17.trans s1719;have s1519:=s16.trans s1619;have u19:=Paired.mono (λ_ _ (k:NumT H16 _ _)=>NumT.same k s1619) z5;have q1:PcP H19 (.ref t17) ⟨lo,none,p0.rs⟩:=⟨t17,l0,x,.non,us0,rfl,s1719 _ _ e17,G15.x.same s1519,rfl,s1619 _ _ z4,u19⟩;have q2:PcP H19 (.ref t18) ⟨none,hi,p0.rs⟩:=⟨t18,l0,.non,y,us0,rfl,s19 _ _ e18,rfl,G15.y.same s1519,s1619 _ _ z4,u19⟩;have nes:Es (none:Option Rat):=λr hr=>nomatch hr;refine⟨d,l19,x,y,c,n,lo,hi,_,[⟨lo,none,p0.rs⟩,⟨none,hi,p0.rs⟩],rfl,G15.F.same s1519,sm,dg,G15.x.same s1519,G15.y.same s1519,e19,.cons q1 (.cons q2 .nil),by show 2<=20;decide,λq hq=>?_,λH20 s20=>⟨_,rfl,iteF (go2 _ _ (back (s1519.trans s20)))⟩⟩;rcases List.mem_cons.mp hq with rfl | hq
    ·exact⟨elo,nes,pb0.rs⟩
    ·rw[List.mem_singleton.mp hq];exact⟨nes,ehi,pb0.rs⟩
end
end Lw
namespace Lw
open PySem PySem.Spec PyProof.Rows L2
theorem len1{us:List Value}(h:us.length=1):∃a,us=[a]:=by cases us with | nil=>cases h | cons a r=>have e:r=[]:=List.length_eq_zero_iff.mp (by simpa using h);subst e;exact⟨a,rfl⟩
theorem len2{us:List Value}(h:us.length=2):∃a b,us=[a,b]:=by cases us with | nil=>cases h | cons a r=>obtain⟨b,rfl⟩:=len1 (us:=r) (by simpa using h);exact⟨a,b,rfl⟩
theorem len3{us:List Value}(h:us.length=3):∃a b c,us=[a,b,c]:=by cases us with | nil=>cases h | cons a r=>obtain⟨b,c,rfl⟩:=len2 (us:=r) (by simpa using h);exact⟨a,b,c,rfl⟩
theorem len4{us:List Value}(h:us.length=4):∃a b c d,us=[a,b,c,d]:=by cases us with | nil=>cases h | cons a r=>obtain⟨b,c,d,rfl⟩:=len3 (us:=r) (by simpa using h);exact⟨a,b,c,d,rfl⟩
theorem len5{us:List Value}(h:us.length=5):∃a b c d e,us=[a,b,c,d,e]:=by cases us with | nil=>cases h | cons a r=>obtain⟨b,c,d,e,rfl⟩:=len4 (us:=r) (by simpa using h);exact⟨a,b,c,d,e,rfl⟩
noncomputable abbrev fo(x:Str)(st:Stmt)(kV dc pm:Value)(an:Option Addr)(cd ct:Value):FuncData:=PySem.W.fnOf x x (xQ st) (xE st) (jO st) .none kV dc pm an cd ct
theorem df{K:PySem.W.Frag}{h:Heap}{mg:Str->Option Value}{x:Str}{f:Addr}{oc kV dc pm cd ct:Value}{od an:Option Addr}{sl:Array (Option Value)}(X:K.In h)(G:h.Ns mainGlobals mg)(st:Stmt)(ps:List Str)(a:PySem.W.nsIn K mainGlobals x=some (some (.ref f)))(l:K.lookup f=some ⟨oc,od,.func (fo x st kV dc pm an cd ct),sl⟩)(c:PySem.W.codeIn K cd x=true)(k:PySem.W.keepIn K (.ref f)=true)
  (b:∀(kV doc pm:Value) (an:Option Addr) (cdv ct:Value) (us:List Value),us.length=ps.length->bindArgs (PySem.W.fnOf x x (xQ st) (xE st) (jO st) .none kV doc pm an cdv ct) ⟨us,[]⟩=pure (ps.zip us)):Df K mg x st ps f (fo x st kV dc pm an cd ct):=⟨fun_mk l c k,(fun_mk l c k).binds b,PySem.W.mg_of X G a⟩
theorem all_mk{l:PySem.W.OpenLaw}{w:World}{K:PySem.W.Frag}{h:Heap}{mg:Str->Option Value}{fa:Addr}(X:K.In h)(G:h.Ns mainGlobals mg)(hfa:mg "law" = some (.ref fa))(A:Facts K) :
  ∃fd:FuncData,(∀(s:Shared) (v:Value),BindsTo s fd ⟨[v],[]⟩ [("script",v)])/\∀base:Heap,K.In base->base.Ns mainGlobals mg->FnOk l.prog w K mg base CX0 10 fa fd ["script"] (spLaw K):=by
 obtain⟨a1,l1,c1,k1⟩:=A.f1;obtain⟨a2,l2,c2,k2⟩:=A.f2;obtain⟨a3,l3,c3,k3⟩:=A.f3;obtain⟨a4,l4,c4,k4⟩:=A.f4;obtain⟨a5,l5,c5,k5⟩:=A.f5;obtain⟨a6,l6,c6,k6⟩:=A.f6;obtain⟨a7,l7,c7,k7⟩:=A.f7;obtain⟨a8,l8,c8,k8⟩:=A.f8;obtain⟨a9,l9,c9,k9⟩:=A.f9;obtain⟨a10,l10,c10,k10⟩:=A.f10;obtain⟨a11,l11,c11,k11⟩:=A.f11;obtain⟨a12,l12,c12,k12⟩:=A.f12;obtain⟨a13,l13,c13,k13⟩:=A.f13;obtain⟨a14,l14,c14,k14⟩:=A.f14;obtain⟨a15,l15,c15,k15⟩:=A.f15;obtain⟨a16,l16,c16,k16⟩:=A.f16;obtain⟨a17,l17,c17,k17⟩:=A.f17;obtain⟨a18,l18,c18,k18⟩:=A.f18;obtain⟨a19,l19,c19,k19⟩:=A.f19;obtain⟨a20,l20,c20,k20⟩:=A.f20;obtain⟨a21,l21,c21,k21⟩:=A.f21;obtain⟨a22,l22,c22,k22⟩:=A.f22;obtain⟨a23,l23,c23,k23⟩:=A.f23;obtain⟨a24,l24,c24,k24⟩:=A.f24;obtain⟨a25,l25,c25,k25⟩:=A.f25;obtain⟨a26,l26,c26,k26⟩:=A.f26;obtain⟨a27,l27,c27,k27⟩:=A.f27;obtain⟨a28,l28,c28,k28⟩:=A.f28;obtain⟨a29,l29,c29,k29⟩:=A.f29;obtain⟨a30,l30,c30,k30⟩:=A.f30;obtain⟨a31,l31,c31,k31⟩:=A.f31;obtain⟨a32,l32,c32,k32⟩:=A.f32;obtain⟨a33,l33,c33,k33⟩:=A.f33;obtain⟨a34,l34,c34,k34⟩:=A.f34;obtain⟨a35,l35,c35,k35⟩:=A.f35;obtain⟨a36,l36,c36,k36⟩:=A.f36;obtain⟨a37,l37,c37,k37⟩:=A.f37;obtain⟨a38,l38,c38,k38⟩:=A.f38;obtain⟨a39,l39,c39,k39⟩:=A.f39;obtain⟨a40,l40,c40,k40⟩:=A.f40;obtain⟨a41,l41,c41,k41⟩:=A.f41;obtain⟨a42,l42,c42,k42⟩:=A.f42;obtain⟨a43,l43,c43,k43⟩:=A.f43;obtain⟨a44,l44,c44,k44⟩:=A.f44;obtain⟨a45,l45,c45,k45⟩:=A.f45;obtain⟨a46,l46,c46,k46⟩:=A.f46;obtain⟨a47,l47,c47,k47⟩:=A.f47;obtain⟨a48,l48,c48,k48⟩:=A.f48;obtain⟨a49,l49,c49,k49⟩:=A.f49;obtain @⟨f50,oc50,kV50,dc50,pm50,cd50,ct50,od50,an50,sl50,a50,l50,c50,k50⟩:=A.f50
 obtain⟨v1⟩:=A.v1;obtain⟨nN1,nN2⟩:=A.n1;obtain⟨nO1,nO2⟩:=A.n2;have e:=hfa.symm.trans (PySem.W.mg_of X G a50);cases e;have T:Txt mg:=⟨PySem.W.mg_none_of X G A.z1,PySem.W.mg_none_of X G A.z2,PySem.W.mg_none_of X G A.z3,PySem.W.mg_none_of X G A.z4,PySem.W.mg_none_of X G A.z5,PySem.W.mg_none_of X G A.z6,PySem.W.mg_none_of X G A.z7,PySem.W.mg_none_of X G A.z8,PySem.W.mg_none_of X G A.z9,⟨_,PySem.W.mg_of X G v1⟩,PySem.W.mg_none_of X G A.z10,PySem.W.mg_none_of X G A.z11,PySem.W.mg_none_of X G A.z12,PySem.W.mg_none_of X G A.z13,PySem.W.mg_none_of X G A.z14,PySem.W.mg_none_of X G A.z15,PySem.W.mg_none_of X G A.z16,PySem.W.mg_none_of X G A.z17,PySem.W.mg_none_of X G A.z18,PySem.W.mg_none_of X G A.z19⟩;have N:Ngt K mg:=⟨_,PySem.W.mg_of X G nN1,λH=>.inr ⟨_,_,_,nN2,rfl,rfl,by show 2<=sizeLine;decide,.cons ⟨_,rfl⟩ (.cons ⟨_,rfl⟩ .nil)⟩⟩;have O:One1 K mg:=⟨_,PySem.W.mg_of X G nO1,λH=>.inr ⟨_,_,_,nO2,rfl,rfl,by show 2<=sizeLine;decide,.cons ⟨_,rfl⟩ (.cons ⟨_,rfl⟩ .nil)⟩⟩;have F50:=fun_mk (st:=sLaw) l50 c50 k50;have D1:=df X G sGcd ["one","other"] a1 l1 c1 k1 λ_ _ _ _ _ _ us h=>by obtain⟨_,_,rfl⟩:=len2 h;rfl
 have D2:=df X G gU ["one","other"] a2 l2 c2 k2 λ_ _ _ _ _ _ us h=>by obtain⟨_,_,rfl⟩:=len2 h;rfl
 have D3:=df X G sLess ["one","other"] a3 l3 c3 k3 λ_ _ _ _ _ _ us h=>by obtain⟨_,_,rfl⟩:=len2 h;rfl
 have D4:=df X G sMul ["one","other"] a4 l4 c4 k4 λ_ _ _ _ _ _ us h=>by obtain⟨_,_,rfl⟩:=len2 h;rfl
 have D5:=df X G sDiv ["one","other"] a5 l5 c5 k5 λ_ _ _ _ _ _ us h=>by obtain⟨_,_,rfl⟩:=len2 h;rfl
 have D6:=df X G wJ ["one","other"] a6 l6 c6 k6 λ_ _ _ _ _ _ us h=>by obtain⟨_,_,rfl⟩:=len2 h;rfl
 have D7:=df X G zG ["one"] a7 l7 c7 k7 λ_ _ _ _ _ _ us h=>by obtain⟨_,rfl⟩:=len1 h;rfl
 have D8:=df X G gQ ["some"] a8 l8 c8 k8 λ_ _ _ _ _ _ us h=>by obtain⟨_,rfl⟩:=len1 h;rfl
 have D9:=df X G yR ["one"] a9 l9 c9 k9 λ_ _ _ _ _ _ us h=>by obtain⟨_,rfl⟩:=len1 h;rfl
 have D10:=df X G gP ["one","start","pace"] a10 l10 c10 k10 λ_ _ _ _ _ _ us h=>by obtain⟨_,_,_,rfl⟩:=len3 h;rfl
 have D11:=df X G nC ["many"] a11 l11 c11 k11 λ_ _ _ _ _ _ us h=>by obtain⟨_,rfl⟩:=len1 h;rfl
 have D12:=df X G wA ["tops"] a12 l12 c12 k12 λ_ _ _ _ _ _ us h=>by obtain⟨_,rfl⟩:=len1 h;rfl
 have D13:=df X G sRaw ["one","low","high"] a13 l13 c13 k13 λ_ _ _ _ _ _ us h=>by obtain⟨_,_,_,rfl⟩:=len3 h;rfl
 have D14:=df X G nB ["one","low","high"] a14 l14 c14 k14 λ_ _ _ _ _ _ us h=>by obtain⟨_,_,_,rfl⟩:=len3 h;rfl
 have D15:=df X G gT ["low","high"] a15 l15 c15 k15 λ_ _ _ _ _ _ us h=>by obtain⟨_,_,rfl⟩:=len2 h;rfl
 have D16:=df X G yU ["low","high","some"] a16 l16 c16 k16 λ_ _ _ _ _ _ us h=>by obtain⟨_,_,_,rfl⟩:=len3 h;rfl
 have D17:=df X G sHas ["one","low","high","some"] a17 l17 c17 k17 λ_ _ _ _ _ _ us h=>by obtain⟨_,_,_,_,rfl⟩:=len4 h;rfl
 have D18:=df X G sAre ["one","low","high","some"] a18 l18 c18 k18 λ_ _ _ _ _ _ us h=>by obtain⟨_,_,_,_,rfl⟩:=len4 h;rfl
 have D19:=df X G yL ["tape","many"] a19 l19 c19 k19 λ_ _ _ _ _ _ us h=>by obtain⟨_,_,rfl⟩:=len2 h;rfl
 have D20:=df X G wI ["thing"] a20 l20 c20 k20 λ_ _ _ _ _ _ us h=>by obtain⟨_,rfl⟩:=len1 h;rfl
 have D21:=df X G sLow ["top","bottom"] a21 l21 c21 k21 λ_ _ _ _ _ _ us h=>by obtain⟨_,_,rfl⟩:=len2 h;rfl
 have D22:=df X G xH ["one","other"] a22 l22 c22 k22 λ_ _ _ _ _ _ us h=>by obtain⟨_,_,rfl⟩:=len2 h;rfl
 have D23:=df X G yT ["one","other"] a23 l23 c23 k23 λ_ _ _ _ _ _ us h=>by obtain⟨_,_,rfl⟩:=len2 h;rfl
 have D24:=df X G sLike ["one","other"] a24 l24 c24 k24 λ_ _ _ _ _ _ us h=>by obtain⟨_,_,rfl⟩:=len2 h;rfl
 have D25:=df X G sPut ["found","powers","number"] a25 l25 c25 k25 λ_ _ _ _ _ _ us h=>by obtain⟨_,_,_,rfl⟩:=len3 h;rfl
 have D26:=df X G wH ["one","other"] a26 l26 c26 k26 λ_ _ _ _ _ _ us h=>by obtain⟨_,_,rfl⟩:=len2 h;rfl
 have D27:=df X G yQ ["one","other"] a27 l27 c27 k27 λ_ _ _ _ _ _ us h=>by obtain⟨_,_,rfl⟩:=len2 h;rfl
 have D28:=df X G wB ["one","number"] a28 l28 c28 k28 λ_ _ _ _ _ _ us h=>by obtain⟨_,_,rfl⟩:=len2 h;rfl
 have D29:=df X G sAt ["one","spot"] a29 l29 c29 k29 λ_ _ _ _ _ _ us h=>by obtain⟨_,_,rfl⟩:=len2 h;rfl
 have D30:=df X G gR ["many","one"] a30 l30 c30 k30 λ_ _ _ _ _ _ us h=>by obtain⟨_,_,rfl⟩:=len2 h;rfl
 have D31:=df X G wG ["one","other"] a31 l31 c31 k31 λ_ _ _ _ _ _ us h=>by obtain⟨_,_,rfl⟩:=len2 h;rfl
 have D32:=df X G sNum ["thing"] a32 l32 c32 k32 λ_ _ _ _ _ _ us h=>by obtain⟨_,rfl⟩:=len1 h;rfl
 have D33:=df X G xC ["tape"] a33 l33 c33 k33 λ_ _ _ _ _ _ us h=>by obtain⟨_,rfl⟩:=len1 h;rfl
 have D34:=df X G nA ["tape","most"] a34 l34 c34 k34 λ_ _ _ _ _ _ us h=>by obtain⟨_,_,rfl⟩:=len2 h;rfl
 have D35:=df X G sDeg ["one"] a35 l35 c35 k35 λ_ _ _ _ _ _ us h=>by obtain⟨_,rfl⟩:=len1 h;rfl
 have D36:=df X G yP ["tape"] a36 l36 c36 k36 λ_ _ _ _ _ _ us h=>by obtain⟨_,rfl⟩:=len1 h;rfl
 have D37:=df X G xV ["first","second"] a37 l37 c37 k37 λ_ _ _ _ _ _ us h=>by obtain⟨_,_,rfl⟩:=len2 h;rfl
 have D38:=df X G yS ["number"] a38 l38 c38 k38 λ_ _ _ _ _ _ us h=>by obtain⟨_,rfl⟩:=len1 h;rfl
 have D39:=df X G gN ["many","k","step","ended"] a39 l39 c39 k39 λ_ _ _ _ _ _ us h=>by obtain⟨_,_,_,_,rfl⟩:=len4 h;rfl
 have D40:=df X G gO ["low","high","step"] a40 l40 c40 k40 λ_ _ _ _ _ _ us h=>by obtain⟨_,_,_,rfl⟩:=len3 h;rfl
 have D41:=df X G gS ["one","low","high","told"] a41 l41 c41 k41 λ_ _ _ _ _ _ us h=>by obtain⟨_,_,_,_,rfl⟩:=len4 h;rfl
 have D42:=df X G gM ["one","other"] a42 l42 c42 k42 λ_ _ _ _ _ _ us h=>by obtain⟨_,_,rfl⟩:=len2 h;rfl
 have D43:=df X G wF ["one","low","high","some"] a43 l43 c43 k43 λ_ _ _ _ _ _ us h=>by obtain⟨_,_,_,_,rfl⟩:=len4 h;rfl
 have D44:=df X G sGood ["tape","low","high"] a44 l44 c44 k44 λ_ _ _ _ _ _ us h=>by obtain⟨_,_,_,rfl⟩:=len3 h;rfl
 have D45:=df X G sCuts ["tape","low","high"] a45 l45 c45 k45 λ_ _ _ _ _ _ us h=>by obtain⟨_,_,_,rfl⟩:=len3 h;rfl
 have D46:=df X G wC ["tape","one","found","at","way"] a46 l46 c46 k46 λ_ _ _ _ _ _ us h=>by obtain⟨_,_,_,_,_,rfl⟩:=len5 h;rfl
 have D47:=df X G sBent ["tape","one","some"] a47 l47 c47 k47 λ_ _ _ _ _ _ us h=>by obtain⟨_,_,_,rfl⟩:=len3 h;rfl
 have D48:=df X G wD ["told"] a48 l48 c48 k48 λ_ _ _ _ _ _ us h=>by obtain⟨_,rfl⟩:=len1 h;rfl
 have D49:=df X G sTold ["one","low","high","some"] a49 l49 c49 k49 λ_ _ _ _ _ _ us h=>by obtain⟨_,_,_,_,rfl⟩:=len4 h;rfl
 refine⟨PySem.W.fnOf "law" "law" (xQ sLaw) (xE sLaw) (jO sLaw) .none kV50 dc50 pm50 an50 cd50 ct50,λs v=>.of_eq rfl,λbase _ _=>?_⟩;have Gdr:=uT (P:=l.prog) (w:=w) (base:=base) (mg:=mg) D19.F T;have Glo:=uG (P:=l.prog) (w:=w) (base:=base) (mg:=mg) D21.F T;have Gpl:=wO (P:=l.prog) (w:=w) (base:=base) (mg:=mg) D22.F;have Gml:=wP (P:=l.prog) (w:=w) (base:=base) (mg:=mg) D23.F;have Gmi:=ok_minus (P:=l.prog) (w:=w) (base:=base) (mg:=mg) D38.F;have Glk:=ok_likeB (P:=l.prog) (w:=w) (base:=base) (mg:=mg) D24.F;have Gun:=ok_under (P:=l.prog) (w:=w) (base:=base) (mg:=mg) D42.F;have Gbs:=ok_beside (P:=l.prog) (w:=w) (base:=base) (mg:=mg) D6.F;have Gmo:=ok_more (P:=l.prog) (w:=w) (base:=base) (mg:=mg) D31.F T D22 D21;have GmR:=ok_moreR (P:=l.prog) (w:=w) (base:=base) (mg:=mg) D31.F T D22 Gpl D21 Glo;have Gnr:=uF (P:=l.prog) (w:=w) (base:=base) (mg:=mg) D33.F T D19 D21;have Gpo:=ok_poly (P:=l.prog) (w:=w) (base:=base) (mg:=mg) D34.F T D19 D21 D33;have Gpu:=ok_put (P:=l.prog) (w:=w) (base:=base) (mg:=mg) D25.F D22;have Gsm:=ok_lsum (P:=l.prog) (w:=w) (base:=base) (mg:=mg) D30.F T D21;have Gdg:=ok_deg (P:=l.prog) (w:=w) (base:=base) (mg:=mg) D35.F T;have Gad:=ok_ladd (P:=l.prog) (w:=w) (base:=base) (mg:=mg) D26.F T D25 D22;have Gpr:=ok_prod (P:=l.prog) (w:=w) (base:=base) (mg:=mg) D27.F T D25 D22 D23;have Gsc:=ok_scaled (P:=l.prog) (w:=w) (base:=base) (mg:=mg) D28.F D23;have Gsg:=ok_straight (P:=l.prog) (w:=w) (base:=base) (mg:=mg) D37.F D25 D22
 have Gst:=ok_stretch (P:=l.prog) (w:=w) (base:=base) (mg:=mg) D36.F T D19 D33 D21 D31 Gmo;have GV:=ok_moved (P:=l.prog) (w:=w) (base:=base) (mg:=mg) D10.F T N D8 D9 D7 D5 D4 D1;have GLs:=ok_less (P:=l.prog) (w:=w) (base:=base) (mg:=mg) D3.F T D2 D1;have GR:=ok_raw (P:=l.prog) (w:=w) (base:=base) (mg:=mg) D13.F T O D10 GV D3 GLs D12 D11;have GD:=ok_divN (P:=l.prog) (w:=w) (base:=base) (mg:=mg) D5.F T D4 D1;have GN:=ok_nums (P:=l.prog) (w:=w) (base:=base) (mg:=mg) D14.F T D13 GR D5 GD;have GL:=ok_lnums (P:=l.prog) (w:=w) (base:=base) (mg:=mg) D41.F T D35 Gdg D32 (ok_numK D32.F T D21) D39 (ok_share D39.F T) D22 Gpl D23 Gml D29 (ok_at D29.F T D22 D23) D40 (ok_place D40.F D22 D23 D38) D24 Glk;have Gis:=ok_isstr (P:=l.prog) (w:=w) (base:=base) (mg:=mg) D15.F D6 Gbs;have Ghs:=ok_has (P:=l.prog) (w:=w) (base:=base) (mg:=mg) D17.F T D13 GR;have Gch:=ok_chained (P:=l.prog) (w:=w) (base:=base) (mg:=mg) D16.F T D15 Gis;have Gap:=ok_arepcs (P:=l.prog) (w:=w) (base:=base) (mg:=mg) D18.F T D16 Gch D17 Ghs;have Glp:=ok_lpcs (P:=l.prog) (w:=w) (base:=base) (mg:=mg) D43.F T D42 Gun D41 GL;have Gto:=ok_told (P:=l.prog) (w:=w) (base:=base) (mg:=mg) D49.F T D20 D30 Gsm D18 Gap D43 Glp;have Gra:=ok_raised (P:=l.prog) (w:=w) (base:=base) (mg:=mg) D48.F T D22 Gpl D23 Gml D21 Glo;have Gcu:=ok_cuts (P:=l.prog) (w:=w) (base:=base) (mg:=mg) D45.F T D19 Gdr D21 Glo D31 Gmo D22 Gpl D23 Gml;have Ggo:=ok_good (P:=l.prog) (w:=w) (base:=base) (mg:=mg) D44.F T D19 Gdr D34 Gpo D27 Gpr D37 Gsg D38 Gmi D33 Gnr D26 Gad D28 Gsc
 have Gre:=ok_remade (P:=l.prog) (w:=w) (base:=base) (mg:=mg) D46.F T D19 Gdr D31 GmR D38 Gmi D30 Gsm D14 GN D48 Gra;have Gbe:=ok_bent (P:=l.prog) (w:=w) (base:=base) (mg:=mg) D47.F T D19 Gdr D31 GmR D38 Gmi D33 Gnr D46 Gre;exact ok_law F50 T D19 Gdr D36 Gst D44 Ggo D34 Gpo D33 Gnr D25 Gpu D45 Gcu D30 Gsm D14 GN D49 Gto D47 Gbe D35 Gdg
theorem walk{l:PySem.W.OpenLaw}{q:Program}{loose:List Str}{XP:(Str->Option Value)->Heap->Prop}{YP:World->Heap->Prop}{d:DefRec}{K:Params->PySem.W.Frag}(hn:l.most=some 63)(hdf:d.params.defaults=[])
  (hY:∀(w:World) (h:Heap),YP w h->(K w.params).In h)
  (F:∀(w:World) (mg:Str->Option Value) (fa:Addr) (h:Heap),(K w.params).In h->h.Ns mainGlobals mg->mg d.name=some (.ref fa)->
   ∃fd:FuncData,(∀(s:Shared) (u:Value),BindsTo s fd ⟨[u],[]⟩ [("script",u)])/\∀base:Heap,(K w.params).In base->base.Ns mainGlobals mg->FnOk l.prog w (K w.params) mg base CX0 10 fa fd ["script"] (spLaw (K w.params))) :
  PySem.W.WalkO q loose XP YP l.row.toRowW d [] (λf vs=>PySem.call f vs):=
 L2.walk_of (n:=63) (k:=10) (x:="script") (CX:=λ_=>CX0) (sp:=λw=>spLaw (K w.params)) hn (by decide) hdf ⟨rfl,by decide,by decide⟩ hY F (λ_ _ a ns hl _ hS=>⟨a,ns,rfl,hS,hl,λ_=>rfl⟩) λ_ _ _ _ _ z=>z
end Lw
open PySem PySem.W PyProof.Rows
set_option maxRecDepth 100000 in
theorem PySem.Challenge.cw_lowwater_k56_pieces_looked_at_holds : PySem.Challenge.rw_lowwater_k56_pieces_looked_at.Holds := by
 refine Lw.head λK YP d A hY hd hn=>Lw.walk (l:=PySem.Challenge.rw_lowwater_k56_pieces_looked_at) rfl hd hY λw mg fa h KX G hmg=>?_;rw[hn]at hmg;exact Lw.all_mk KX G hmg (A w.params)
