import PyProof.Rows.All
import Wide.All
import OpenK.AllK
import Wide.FinOn
import Lean
import PyProof.EqAt
import PyProof.EqKinds
import PyProof.TupleCall
import PySem.Challenge.RW_lowwater_k71_trees_looked_at
set_option Elab.async false
set_option linter.all false
set_option maxRecDepth 100000
set_option maxHeartbeats 4000000
noncomputable section
section
open PySem PySem.Spec PyProof PyProof.Rows
theorem uO{n:Nat}:n<=n:=Nat.le_refl n
theorem uP{n:Int}:n<=n:=Int.le_refl n
theorem uQ:2<=sizeLine:=by decide
theorem uR:type_of%@List.getD_eq_getElem?_getD:=@List.getD_eq_getElem?_getD
theorem uS:type_of%@List.getElem?_append_right:=@List.getElem?_append_right
theorem uU:type_of%@List.getElem?_eq_some_iff:=@List.getElem?_eq_some_iff
theorem uV:type_of%@List.getElem?_append_left:=@List.getElem?_append_left
theorem uW:type_of%@List.getElem?_eq_getElem:=@List.getElem?_eq_getElem
theorem uX:type_of%@Int.eq_ofNat_of_zero_le:=@Int.eq_ofNat_of_zero_le
theorem uY:type_of%@Nat.le_mul_of_pos_right:=@Nat.le_mul_of_pos_right
theorem uZ:type_of%@Heap.get?_push_of_some:=@Heap.get?_push_of_some
theorem gA:type_of%@List.take_of_length_le:=@List.take_of_length_le
theorem gB:type_of%@List.mem_append_right:=@List.mem_append_right
theorem gC:type_of%@List.length_replicate:=@List.length_replicate
theorem gE:type_of%@List.getElem?_eq_none:=@List.getElem?_eq_none
theorem gF:type_of%@List.mem_iff_getElem?:=@List.mem_iff_getElem?
theorem gG:type_of%@List.length_singleton:=@List.length_singleton
theorem gH:type_of%@List.mem_of_getElem?:=@List.mem_of_getElem?
theorem gI:type_of%@List.mem_cons_of_mem:=@List.mem_cons_of_mem
theorem gJ:type_of%@Nat.pow_le_pow_right:=@Nat.pow_le_pow_right
theorem gK:type_of%@Nat.pow_lt_pow_right:=@Nat.pow_lt_pow_right
theorem gL:type_of%@Nat.mul_le_mul_right:=@Nat.mul_le_mul_right
theorem gN:type_of%@List.mem_of_mem_take:=@List.mem_of_mem_take
theorem gO:type_of%@Heap.get?_push_size:=@Heap.get?_push_size
theorem gP:type_of%@List.getElem?_range:=@List.getElem?_range
theorem gQ:type_of%@Nat.mul_le_mul_left:=@Nat.mul_le_mul_left
theorem gR:type_of%@Nat.lt_of_le_of_lt:=@Nat.lt_of_le_of_lt
theorem gS:type_of%@List.length_append:=@List.length_append
theorem gT:type_of%@Bool.false_ne_true:=@Bool.false_ne_true
theorem gU:type_of%@Nat.lt_of_lt_of_le:=@Nat.lt_of_lt_of_le
theorem gW:type_of%@List.mem_singleton:=@List.mem_singleton
theorem gX:type_of%@Int.natAbs_natCast:=@Int.natAbs_natCast
theorem gY:type_of%@List.mem_cons_self:=@List.mem_cons_self
theorem gZ:type_of%@PySem.W.mg_none_of:=@PySem.W.mg_none_of
theorem hJ:type_of%@List.getElem?_map:=@List.getElem?_map
theorem hU:type_of%@List.size_toArray:=@List.size_toArray
theorem hW:type_of%@List.take_add_one:=@List.take_add_one
theorem hZ:type_of%@List.append_assoc:=@List.append_assoc
theorem mB:type_of%@of_decide_eq_true:=@of_decide_eq_true
theorem mC:type_of%@List.length_range:=@List.length_range
theorem mD:type_of%@List.nodup_append:=@List.nodup_append
theorem mE:type_of%@List.foldl_append:=@List.foldl_append
theorem mF:type_of%@Int.gcd_dvd_right:=@Int.gcd_dvd_right
theorem mG:type_of%@Int.toNat_natCast:=@Int.toNat_natCast
theorem mH:type_of%@List.ext_getElem?:=@List.ext_getElem?
theorem mI:type_of%@List.length_take:=@List.length_take
theorem mJ:type_of%@List.not_mem_nil:=@List.not_mem_nil
theorem mK:type_of%@List.take_length:=@List.take_length
theorem mL:type_of%@List.length_cons:=@List.length_cons
theorem mM:type_of%@List.getElem_mem:=@List.getElem_mem
theorem mN:type_of%@Int.gcd_dvd_left:=@Int.gcd_dvd_left
theorem mO:type_of%@Nat.lt_succ_self:=@Nat.lt_succ_self
theorem mP:type_of%@List.length_map:=@List.length_map
theorem mQ:type_of%@List.map_append:=@List.map_append
theorem mR:type_of%@decide_eq_false:=@decide_eq_false
theorem mS:type_of%@List.mem_append:=@List.mem_append
theorem mT:type_of%@Rat.intCast_mul:=@Rat.intCast_mul
theorem mU:type_of%@decide_eq_true:=@decide_eq_true
theorem mV:type_of%@Int.natAbs_mul:=@Int.natAbs_mul
theorem mW:type_of%@List.mem_range:=@List.mem_range
theorem mX:type_of%@Nat.mul_le_mul:=@Nat.mul_le_mul
theorem mY:type_of%@Rat.mul_nonneg:=@Rat.mul_nonneg
theorem mZ:type_of%@Heap.size_push:=@Heap.size_push
theorem nC:type_of%@List.map_cons:=@List.map_cons
theorem nF:type_of%@List.mem_cons:=@List.mem_cons
theorem nG:type_of%@Rat.mul_assoc:=@Rat.mul_assoc
theorem nH:type_of%@Nat.lt_irrefl:=@Nat.lt_irrefl
theorem nI:type_of%@Int.mul_assoc:=@Int.mul_assoc
theorem nJ:type_of%@Heap.lt_size:=@Heap.lt_size
theorem nK:type_of%@Nat.le_trans:=@Nat.le_trans
theorem nM:type_of%@Nat.ne_of_lt:=@Nat.ne_of_lt
theorem nN:type_of%@List.mem_map:=@List.mem_map
theorem nO:type_of%@Rat.add_zero:=@Rat.add_zero
theorem nP:type_of%@List.map_map:=@List.map_map
theorem nQ:type_of%@Nat.succ_mul:=@Nat.succ_mul
theorem nU:type_of%@Nat.add_zero:=@Nat.add_zero
theorem nV:type_of%@Int.mul_comm:=@Int.mul_comm
theorem nW:type_of%@Nat.le_refl:=@Nat.le_refl
theorem nX:type_of%@Nat.zero_le:=@Nat.zero_le
theorem nY:type_of%@Int.mul_pos:=@Int.mul_pos
theorem nZ:type_of%@Rat.mul_one:=@Rat.mul_one
theorem tD:type_of%@Nat.pow_add:=@Nat.pow_add
theorem tE:type_of%@wpAny_bind:=@wpAny_bind
theorem tF:type_of%@wpAny_pure:=@wpAny_pure
theorem tG:type_of%@wpAny_mono:=@wpAny_mono
theorem tH:type_of%@if_neg:=@if_neg
theorem tI:type_of%@if_pos:=@if_pos
abbrev tJ:=PySem.W.Frag
end
namespace L2
open PySem PySem.Spec PyProof.Rows
def yG(s:Stmt):Arguments:=match s with
 | .FunctionDef _ a _ _ _ _ _ _ _ _=>a
 | _=>{ posonlyargs:=[],args:=[],vararg:=none,kwonlyargs:=[],kw_defaults:=[],kwarg:=none,defaults:=[] }
def xG(s:Stmt):List Stmt:=match s with
 | .FunctionDef _ _ b _ _ _ _ _ _ _=>b
 | _=>[]
def jQ(s:Stmt):Scope:=match s with
 | .FunctionDef _ _ _ _ _ _ sc _ _ _=>sc
 | _=>{ kind:=.function,names:=[],isGenerator:=false,isCoroutine:=false }
end L2
namespace Lw
open PySem PySem.Spec PyProof.Rows L2
def top(i:Nat):Stmt:=PySem.Challenge.pw_lowwater_k71_trees_looked_at.main.body.getD i (.Pass ⟨0,0,0,0⟩)
abbrev MD:Stmt:=top 8
abbrev RJ:Stmt:=top 9
abbrev RK:Stmt:=top 10
abbrev UL:Stmt:=top 13
abbrev AA:Stmt:=top 14
abbrev wO:Stmt:=top 15
abbrev CB:Stmt:=top 16
abbrev JD:Stmt:=top 17
abbrev UM:Stmt:=top 18
abbrev OA:Stmt:=top 19
abbrev NZ:Stmt:=top 20
abbrev zI:Stmt:=top 21
abbrev OB:Stmt:=top 22
abbrev HD:Stmt:=top 23
abbrev CA:Stmt:=top 24
abbrev zY:Stmt:=top 25
abbrev CD:Stmt:=top 26
abbrev wQ:Stmt:=top 28
abbrev zG:Stmt:=top 29
abbrev EH:Stmt:=top 30
abbrev wN:Stmt:=top 31
abbrev CC:Stmt:=top 32
abbrev RI:Stmt:=top 34
abbrev NV:Stmt:=top 36
abbrev sAt:Stmt:=top 39
abbrev NY:Stmt:=top 40
abbrev NW:Stmt:=top 41
abbrev wP:Stmt:=top 43
abbrev NX:Stmt:=top 44
abbrev YK:Stmt:=top 45
abbrev GZ:Stmt:=top 46
abbrev zF:Stmt:=top 48
abbrev AB:Stmt:=top 49
abbrev HF:Stmt:=top 50
abbrev AC:Stmt:=top 51
abbrev zE:Stmt:=top 52
abbrev HC:Stmt:=top 53
abbrev NU:Stmt:=top 54
abbrev HE:Stmt:=top 55
abbrev MC:Stmt:=top 56
inductive FnAt(K:tJ)(x:Str)(st:Stmt):Prop
 | mk {f:Addr} {oc kV dc pm cd ct:Value} {od an:Option Addr} {sl:Array (Option Value)} (a:PySem.W.nsIn K mainGlobals x=some (some (.ref f))) (l:K.lookup f=some ⟨oc,od,.func (PySem.W.fnOf x x (yG st) (xG st) (jQ st) .none kV dc pm an cd ct),sl⟩) (c:PySem.W.codeIn K cd x=true) (k:PySem.W.keepIn K (.ref f)=true)
inductive PrAt(K:tJ)(x:Str)(i j:Int):Prop
 | mk {f:Addr} {od:Option Addr} {sl:Array (Option Value)} {t u:Tok} {n:Nat} (a:PySem.W.nsIn K mainGlobals x=some (some (.ref f))) (l:K.lookup f=some ⟨.type "tuple",od,.seq #[.int i t,.int j u] n,sl⟩)
inductive IntAt(K:tJ)(x:Str)(i:Int):Prop
 | mk {t:Tok} (a:PySem.W.nsIn K mainGlobals x=some (some (.int i t)))
structure Facts(K:tJ):Prop where
 f1:FnAt K "greatest_divisor" MD
 f2:FnAt K "multiplied" RJ
 f3:FnAt K "divided" RK
 f4:FnAt K "level" UL
 f5:FnAt K "sizes_of" AA
 f6:FnAt K "all_places" wO
 f7:FnAt K "lines_along" CB
 f8:FnAt K "all_lines" JD
 f9:FnAt K "factorial" UM
 f10:FnAt K "folded" OA
 f11:FnAt K "line_numbers" NZ
 f12:FnAt K "box_row" zI
 f13:FnAt K "box_numbers" OB
 f14:FnAt K "line_halved" HD
 f15:FnAt K "row_halved" CA
 f16:FnAt K "holds" zY
 f17:FnAt K "bears_tree" CD
 f18:FnAt K "_law_draw" wQ
 f19:FnAt K "_law_copied" zG
 f20:FnAt K "_law_low" EH
 f21:FnAt K "_law_plus" wN
 f22:FnAt K "_law_mul" CC
 f23:FnAt K "_law_put" RI
 f24:FnAt K "_law_product" NV
 f25:FnAt K "_law_at" sAt
 f26:FnAt K "_law_sum" NY
 f27:FnAt K "_law_more" NW
 f28:FnAt K "_law_number" wP
 f29:FnAt K "_law_many" NX
 f30:FnAt K "_law_box" YK
 f31:FnAt K "_law_under" GZ
 f32:FnAt K "_law_halves" zF
 f33:FnAt K "_law_least" AB
 f34:FnAt K "_law_borne" HF
 f35:FnAt K "_law_grown" AC
 f36:FnAt K "_law_needed" zE
 f37:FnAt K "_law_spots" HC
 f38:FnAt K "_law_told" NU
 f39:FnAt K "_law_depth" HE
 f40:FnAt K "law" MC
 z1:PySem.W.nsIn K mainGlobals "isinstance" = some none
 z2:PySem.W.nsIn K mainGlobals "len" = some none
 z3:PySem.W.nsIn K mainGlobals "int" = some none
 z4:PySem.W.nsIn K mainGlobals "bool" = some none
 z5:PySem.W.nsIn K mainGlobals "tuple" = some none
 z6:PySem.W.nsIn K mainGlobals "list" = some none
 z7:PySem.W.nsIn K mainGlobals "abs" = some none
 z8:PySem.W.nsIn K mainGlobals "range" = some none
 z9:PySem.W.nsIn K mainGlobals "zip" = some none
 z10:PySem.W.nsIn K mainGlobals "sorted" = some none
 z11:PySem.W.nsIn K mainGlobals "max" = some none
 z12:PySem.W.nsIn K mainGlobals "min" = some none
 z13:PySem.W.nsIn K mainGlobals "enumerate" = some none
 z14:PySem.W.nsIn K mainGlobals "dict" = some none
 v1:IntAt K "LONG_BITS" 8000
 n1:PrAt K "NOUGHT" 0 1
end Lw
section
open PySem PySem.W PyProof.Rows
namespace Lw
def view71:Program:={ PySem.Challenge.pw_lowwater_k71_trees_looked_at with main:={ PySem.Challenge.pw_lowwater_k71_trees_looked_at.main with body:=([1,2,4,5,6,7,8,9,10,12,13,14,15,16,17,18,19,20,21,22,23,24,25,26,28,29,30,31,32,33,34,35,36,37,38,39,40,41,42,43,44,45,46,47,48,49,50,51,52,53,54,55,56]:List Nat).filterMap λi=>PySem.Challenge.pw_lowwater_k71_trees_looked_at.main.body[i]? } }
end Lw
local macro_rules | `(tactic| o_head $H)=>`(tactic| refine holds_open (q:=Lw.view71) (loose:=[Str.ofString "LowwaterError"]) (Xt:=λs=>xlAt Lw.view71 [] s&&recOk (RowW.records (PySem.Challenge.rw_lowwater_k71_trees_looked_at).row.toRowW) s) (XP:=XL Lw.view71 []) (Yf:=Hook.obs $H) (Ya:=Hook.val $H) (YP:=Hook.says $H) (N:=4058) (λw=>by unfold openEnds fencedOpening topFrom;rw[PySem.W.Fast.te10274390034422433532,PySem.W.Fast.te14082659384304107361,PySem.W.Fast.te1435165496053646825,PySem.W.Fast.te14289696077712309145,PySem.W.Fast.te8920871248978507458,PySem.W.Fast.te14364793385576792824,PySem.W.Fast.te4187177175401517315];kernel_rfl) (Hook.of $H) (Hook.keeps $H) (λs e=>xl_of s (Bool.and_eq_true_iff.mp e).1) XL.keeps (by rfl) (by rfl) (by rfl) (λs e=>recFacts_of (Bool.and_eq_true_iff.mp e).2) (by rfl) (by first | assumption | decide +kernel) (by decide +kernel) ⟨rfl,rfl,rfl,rfl,rfl,by decide +kernel⟩ ?hw ?hc)
set_option maxRecDepth 100000 in
set_option maxHeartbeats 0 in
theorem Lw.head(hn:∀(K:Params->Frag) (YP:World->Heap->Prop) (d:DefRec),(∀p,Lw.Facts (K p))->(∀w h,YP w h->(K w.params).In h)->d.params.defaults=[]->d.name="law"->WalkO Lw.view71 [Str.ofString "LowwaterError"] (XL Lw.view71 []) YP PySem.Challenge.rw_lowwater_k71_trees_looked_at.row.toRowW d [] λf vs=>PySem.call f vs):PySem.Challenge.rw_lowwater_k71_trees_looked_at.Holds:=by
 w_on;o_law;k_head;(case hw=>w_witness2)
 k_fill
 refine hn _ _ _ ?f (λw h Y=>kIn_of Y) rfl rfl;case f=>
  intro p;constructor;all_goals first | (refine' .mk ?a ?l ?c ?k;(case a=>k_is);(case l=>k_is);(case c=>k_is);(case k=>k_is)) | (refine' .mk ?a ?l;(case a=>k_is);(case l=>k_is)) | (refine' .mk ?v;(case v=>k_is)) | k_is
end
namespace L2
open PySem PySem.Spec PyProof.Rows
abbrev Key:=Sum Int Str
def FB:Key->Value->Bool
 | .inl k,v=>Value.isInt k v
 | .inr x,v=>Value.isStrOf x v
def keyH(w:World):Key->Int
 | .inl k=>hashInt k
 | .inr x=>hashStr w x
theorem qF:∀{k:Key} {v:Value},FB k v=true->(∃i t,k=Sum.inl i/\v=Value.int i t)∨(∃x t,k=Sum.inr x/\v=Value.str x t)
 | .inl i,v,h=>by
  obtain⟨t,e⟩:=Value.isInt_shape (k:=i) (v:=v) h;exact .inl ⟨i,t,rfl,e⟩
 | .inr x,v,h=>by
  obtain⟨t,e⟩:=Value.isStrOf_shape (x:=x) (v:=v) h;exact .inr ⟨x,t,rfl,e⟩
theorem SR(i:Int)(t:Tok):FB (.inl i) (.int i t)=true:=by simp [FB,Value.isInt]
theorem SQ(x:Str)(t:Tok):FB (.inr x) (.str x t)=true:=by simp [FB,Value.isStrOf]
theorem key_ll(a b:Int):decide ((Sum.inl a:Key)=Sum.inl b)=(a==b):=by
 by_cases e:a=b
 ·subst e;simp
 ·have h:¬(Sum.inl a:Key)=Sum.inl b:=λq=>e (Sum.inl.inj q);rw[mR h];exact(beq_eq_false_iff_ne.mpr e).symm
theorem key_rr(a b:Str):decide ((Sum.inr a:Key)=Sum.inr b)=decide (a=b):=by
 by_cases e:a=b
 ·subst e;simp
 ·have h:¬(Sum.inr a:Key)=Sum.inr b:=λq=>e (Sum.inr.inj q);rw[mR h,mR e]
theorem key_lr(a:Int)(b:Str):decide ((Sum.inl a:Key)=Sum.inr b)=false:=mR (λq=>nomatch q)
theorem key_rl(a:Str)(b:Int):decide ((Sum.inr a:Key)=Sum.inl b)=false:=mR (λq=>nomatch q)
def qE(prog:Program)(w:World):PySem.KeyKind prog w Key where
 is:=FB
 hash:=keyH w
 inj:=λv a b ha hb=>by
  rcases qF ha with⟨i,t,rfl,rfl⟩ | ⟨x,t,rfl,rfl⟩
  ·rcases qF hb with⟨j,u,rfl,e⟩ | ⟨y,u,rfl,e⟩
   ·injection e with e1 _;rw[e1]
   ·exact nomatch e
  ·rcases qF hb with⟨j,u,rfl,e⟩ | ⟨y,u,rfl,e⟩
   ·exact nomatch e
   ·injection e with e1 _;rw[e1]
 byValue:=λk v h=>by
  rcases qF h with⟨i,t,rfl,rfl⟩ | ⟨x,t,rfl,rfl⟩<;>rfl
 pyHash:=λhv h=>by
  rcases qF hv with⟨i,t,rfl,rfl⟩ | ⟨x,t,rfl,rfl⟩
  ·exact wpAny_pyHash_int h
  ·exact wpAny_pyHash_str h
 eqBool:=λhu hv h=>by
  rcases qF hu with⟨i,t,rfl,rfl⟩ | ⟨x,t,rfl,rfl⟩
  ·rcases qF hv with⟨j,u,rfl,rfl⟩ | ⟨y,u,rfl,rfl⟩
   ·rw[key_ll]at h;exact wpAny_eqBool_int h
   ·rw[key_lr]at h;exact SeqAt.EqAt.int_str i t y u _ _ _ _ h
  ·rcases qF hv with⟨j,u,rfl,rfl⟩ | ⟨y,u,rfl,rfl⟩
   ·rw[key_rl]at h;exact SeqAt.EqAt.str_int x t j u _ _ _ _ h
   ·rw[key_rr]at h;exact wpAny_eqBool_str h
 «strs» :=λk x t v h=>by
  rcases qF h with⟨i,u,rfl,e⟩ | ⟨y,u,rfl,e⟩
  ·exact nomatch e
  ·injection e with e1 _
   subst e1;cases v<;>rfl
theorem KG(prog:Program)(w:World)(i:Int)(t:Tok):(qE prog w).is (.inl i) (.int i t)=true:=SR i t
theorem KF(prog:Program)(w:World)(x:Str)(t:Tok):(qE prog w).is (.inr x) (.str x t)=true:=SQ x t
inductive V where
 | non | bl (b:Bool) | int (i:Int) | str (x:Str) | byt (b:Array UInt8) | flt (b:UInt64) | ref (a:Addr) | ty (n:String)
 deriving DecidableEq
def RelV:V->Value->Prop
 | .non,u=>u=Value.none
 | .bl b,u=>u=Value.bool b
 | .int i,u=>∃t,u=Value.int i t
 | .str x,u=>∃t,u=Value.str x t
 | .byt b,u=>∃t,u=Value.bytes b t
 | .flt b,u=>∃t,u=Value.float b t
 | .ref a,u=>u=Value.ref a
 | .ty n,u=>u=Value.type n
abbrev Vals:List V->List Value->Prop:=Paired RelV
theorem Vals.length{xs:List V}{us:List Value}(r:Vals xs us):xs.length=us.length:=Paired.length r
theorem Vals.get:∀{xs:List V} {us:List Value} {i:Nat} {x:V},Vals xs us->xs[i]? = some x->∃u,us[i]? = some u/\RelV x u
 | _,_,_,_,.nil,e=>by simp at e
 | _,_,0,_,.cons r _,e=>by simp at e;subst e;exact⟨_,rfl,r⟩
 | _,_,i+1,x,.cons _ t,e=>by
  obtain⟨u,h1,h2⟩:=Vals.get (i:=i) (x:=x) t (by simpa using e);exact⟨u,by simpa using h1,h2⟩
theorem Vals.set{x:V}{u:Value}(r:RelV x u):∀{xs:List V} {us:List Value} (i:Nat),Vals xs us->Vals (xs.set i x) (us.set i u)
 | _,_,_,.nil=>.nil
 | _,_,0,.cons _ t=>.cons r t
 | _,_,i+1,.cons q t=>.cons q (Vals.set r i t)
theorem Vals.append:∀{xs ys:List V} {us ws:List Value},Vals xs us->Vals ys ws->Vals (xs++ys) (us++ws)
 | _,_,_,_,.nil,s=>s
 | _,_,_,_,.cons r t,s=>.cons r (Vals.append t s)
theorem Vals.take:∀{xs:List V} {us:List Value} (n:Nat),Vals xs us->Vals (xs.take n) (us.take n)
 | _,_,0,_=>.nil
 | _,_,_+1,.nil=>.nil
 | _,_,n+1,.cons r t=>.cons r (Vals.take n t)
theorem Vals.drop:∀{xs:List V} {us:List Value} (n:Nat),Vals xs us->Vals (xs.drop n) (us.drop n)
 | _,_,0,r=>r
 | _,_,_+1,.nil=>.nil
 | _,_,n+1,.cons _ t=>Vals.drop n t
def RelO:Option V->Option Value->Prop
 | some v,some u=>RelV v u
 | none,none=>True
 | _,_=>False
def KV{κ:Type} :List (κ×V)->List (κ×Value)->Prop:=Paired λ(p:κ×V) (q:κ×Value)=>p.1=q.1/\RelV p.2 q.2
def kV:Key->V
 | .inl i=>.int i
 | .inr x=>.str x
inductive HO where
 | lst (xs:List V)
 | tup (xs:List V)
 | dK (kvs:List (Key×V)) | dT (kvs:List (List Key×V))
 | set (S:Int->Bool) (n:Nat)
 | ins (C dx:Addr) (fs:List (Str×V))
 | own (x:Addr)
 | xd (fs:List (Str×V))
 | met (f x:Addr)
 | rng (lo hi:Int)
 | frz (o:Obj) (u:HO)
 | tbl (ps:Array Value)
 | ext (φ:Heap->Prop)
abbrev Hp:=Addr->Option HO
def upd(H:Hp)(a:Addr)(o:HO):Hp:=λb=>if b=a then some o else H b
theorem jG{H:Hp}{a:Addr}{o:HO} :upd H a o a=some o:=by unfold upd;rw[tI rfl]
theorem jM{H:Hp}{a b:Addr}{o:HO}(h:b≠a):upd H a o b=H b:=by unfold upd;rw[tH h]
theorem ne_of{H:Hp}{a b:Addr}{o u:HO}(h:H a=some o)(h':H b=some u)(d:o≠u):a≠b:=by
 intro e;subst e;rw[h]at h';exact d (Option.some.inj h')
theorem kL{H:Hp}{a b:Addr}{o:HO}(h:H a=some o)(h':H b=none):a≠b:=by
 intro e;subst e;rw[h]at h';cases h'
def NoD(h:Heap)(a:Addr):Prop:=∀o,h.get? a=some o->o.dict=none
theorem NoD.of{h:Heap}{a:Addr}{o:Obj}(e:h.get? a=some o)(d:o.dict=none):NoD h a:=λo' e'=>by rw[e]at e';cases e';exact d
section
variable(P:Program)(w:World)
def ObjOk(H:Hp)(h:Heap)(a:Addr):HO->Prop
 | .lst xs=>xs.length<=sizeLine/\∃(its:List Value) (n:Nat),Vals xs its/\h.get? a=some { cls:=.type "list",data:=.seq its.toArray n }
 | .tup xs=>xs.length<=sizeLine/\∃its:List Value,Vals xs its/\IsTup h a its.toArray/\NoD h a
 | .dK kvs=>kvs.length<=sizeLine/\(a==sysModules)=false/\∃vs,KV kvs vs/\h.DictOf (qE P w) a vs
 | .dT kvs=>kvs.length<=sizeLine/\(a==sysModules)=false/\∃xs:List (List Key×Addr×Value),
   Paired (λ(p:List Key×V) (q:List Key×Addr×Value)=>p.1=q.1/\H q.2.1=some (.tup (p.1.map kV))/\RelV p.2 q.2.2) kvs xs/\
   ∃o es ep,h.get? a=some o/\o.ExactDict/\o.data=.dict es ep/\es.toList=xs.map (entryOfKey (tupleKind (qE P w)))/\(xs.map (·.1)).Nodup
 | .set S n=>h.SetOf (intKind P w) a S n
 | .ins C dx fs=>H dx=some (.own a)/\fs.length<=1000/\dx≠a/\h.get? a=some (PySem.W.instObj C dx)/\
   ∃mA,h.Ns1 dx mA/\(∀f,RelO (fs.lookup f) (mA f))/\PySem.Within mA (fs.map (·.1))
 | .own _=>∃o,h.get? a=some o
 | .xd fs=>∃mA,h.Ns1 a mA/\∀f,RelO (fs.lookup f) (mA f)
 | .rng lo hi=>∃t u v,h.get? a=some { cls:=.type "range",data:=.fields #[.int lo t,.int hi u,.int 1 v] }
 | .frz o u=>h.get? a=some o/\ObjOk H h a u
 | .tbl ps=>h.get? a=some { cls:=.none,data:=.fields ps }
 | .met f x=>h.get? a=some (PySem.W.methodObj (.ref f) (.ref x))
 | .ext φ=>φ h/\(∃o,h.get? a=some o)/\∀h1 h2:Heap,φ h1->(∀o,h1.get? a=some o->h2.get? a=some o)->φ h2
def HOk(H:Hp)(h:Heap):Prop:=∀a o,H a=some o->ObjOk P w H h a o
end
section
variable{P:Program}{w:World}{H H':Hp}{h h':Heap}{a:Addr}{o:HO}
theorem ObjOk.lt(x:ObjOk P w H h a o):a<h.objs.size:=by
 cases o with
 | lst xs=>obtain⟨_,_,_,_,e⟩:=x;exact nJ e
 | tup xs=>obtain⟨_,_,_,p⟩:=x;exact p.1.lt
 | dK kvs=>obtain⟨_,_,_,_,o,_,_,e,_⟩:=x;exact nJ e
 | dT kvs=>obtain⟨_,_,_,_,o,_,_,e,_⟩:=x;exact nJ e
 | set S n=>obtain⟨o,_,_,_,e,_⟩:=x;exact nJ e
 | ins C dx fs=>obtain⟨_,_,_,e,_⟩:=x;exact nJ e
 | own y=>obtain⟨_,e⟩:=x;exact nJ e
 | xd fs=>obtain⟨_,⟨_,_,_,e,_⟩,_⟩:=x;exact nJ e
 | rng lo hi=>obtain⟨_,_,_,e⟩:=x;exact nJ e
 | frz ob u=>obtain⟨e,_⟩:=x;exact nJ e
 | tbl ps=>exact nJ (show h.get? a=some _ from x)
 | met f y=>exact nJ (show h.get? a=some _ from x)
 | ext φ=>obtain⟨_,⟨_,e⟩,_⟩:=x;exact nJ e
theorem Paired.mapP{α β:Type}{F G:α->β->Prop} :∀{l₁:List α} {l₂:List β},Paired F l₁ l₂->(∀a b,F a b->G a b)->Paired G l₁ l₂
 | _,_,.nil,_=>.nil
 | _,_,.cons r t,f=>.cons (f _ _ r) (Paired.mapP t f)
theorem ObjOk.stay(x:ObjOk P w H h a o)(k:∀b u,(b=a∨H b=some (.own a))->h.get? b=some u->h'.get? b=some u)
  (ho:∀b,H b=some (.own a)->H' b=some (.own a)) (ht:∀b xs,H b=some (.tup xs)->H' b=some (.tup xs)):ObjOk P w H' h' a o:=by
 induction o with
 | lst xs=>obtain⟨z,its,n,r,e⟩:=x;exact⟨z,its,n,r,k _ _ (.inl rfl) e⟩
 | tup xs=>obtain⟨z,its,r,⟨ob,e,c⟩,nd⟩:=x;exact⟨z,its,r,⟨ob,k _ _ (.inl rfl) e,c⟩,.of (k _ _ (.inl rfl) e) (nd _ e)⟩
 | dK kvs=>obtain⟨z,y,vs,r,ob,es,ep,e,c⟩:=x;exact⟨z,y,vs,r,ob,es,ep,k _ _ (.inl rfl) e,c⟩
 | dT kvs=>
  obtain⟨z,y,xs,r,ob,es,ep,e,c⟩:=x;exact⟨z,y,xs,Paired.mapP r λp q z=>⟨z.1,ht _ _ z.2.1,z.2.2⟩,ob,es,ep,k _ _ (.inl rfl) e,c⟩
 | set S n=>obtain⟨ob,es,ep,t,e,c⟩:=x;exact⟨ob,es,ep,t,k _ _ (.inl rfl) e,c⟩
 | ins C dx fs=>
  obtain⟨d,z,ne,e,mA,⟨od,es,ep,e2,c⟩,r⟩:=x;exact⟨ho _ d,z,ne,k _ _ (.inl rfl) e,mA,⟨od,es,ep,k _ _ (.inr d) e2,c⟩,r⟩
 | own y=>obtain⟨ob,e⟩:=x;exact⟨ob,k _ _ (.inl rfl) e⟩
 | xd fs=>obtain⟨mA,⟨od,es,ep,e,c⟩,r⟩:=x;exact⟨mA,⟨od,es,ep,k _ _ (.inl rfl) e,c⟩,r⟩
 | rng lo hi=>obtain⟨t,u,v,e⟩:=x;exact⟨t,u,v,k _ _ (.inl rfl) e⟩
 | frz ob u ih=>obtain⟨e,q⟩:=x;exact⟨k _ _ (.inl rfl) e,ih q⟩
 | tbl ps=>
  have e:h.get? a=some { cls:=.none,data:=.fields ps } :=x;show h'.get? a=some { cls:=.none,data:=.fields ps };exact k a _ (.inl rfl) e
 | met f y=>
  have e:h.get? a=some (PySem.W.methodObj (.ref f) (.ref y)):=x;show h'.get? a=some (PySem.W.methodObj (.ref f) (.ref y));exact k a _ (.inl rfl) e
 | ext φ=>obtain⟨p,⟨o,e⟩,st⟩:=x;exact⟨st _ _ p λo q=>k _ _ (.inl rfl) q,⟨o,k _ _ (.inl rfl) e⟩,st⟩
theorem HOk.lt(x:HOk P w H h)(e:H a=some o):a<h.objs.size:=(x a o e).lt
theorem HOk.fresh(x:HOk P w H h)(e:h.objs.size<=a):H a=none:=by
 cases q:H a with
 | none=>rfl
 | some u=>exact absurd (gU (x.lt q) e) (nH _)
theorem HOk.kept(x:HOk P w H h)(k:∀b u,h.get? b=some u->h'.get? b=some u):HOk P w H h':=λa o e=>
 (x a o e).stay (λb u _ q=>k b u q) (λ_ q=>q) λ_ _ q=>q
theorem HOk.laid(x:HOk P w H h)(k:∀b u,h.get? b=some u->h'.get? b=some u)(hp:h.objs.size<=a)(new:ObjOk P w (upd H a o) h' a o):HOk P w (upd H a o) h':=λb u e=>by
 have hn:=x.fresh hp;by_cases hb:b=a
 ·subst hb;rw[jG]at e;cases e;exact new
 ·rw[jM hb]at e;exact(x b u e).stay (λc v _ q=>k c v q) (λc q=>by rw[jM (kL q hn)];exact q) λc xs q=>by rw[jM (kL q hn)];exact q
end
def Rd(H:Hp)(a:Addr)(u:HO):Prop:=H a=some u∨∃o,H a=some (.frz o u)
theorem Rd.ok{P:Program}{w:World}{H:Hp}{h:Heap}{a:Addr}{u:HO}(r:Rd H a u)(x:HOk P w H h):ObjOk P w H h a u:=by
 rcases r with r | ⟨o,r⟩
 ·exact x a u r
 ·obtain⟨_,q⟩:=x a _ r;exact q
def Mut:Option HO->Prop
 | some (.lst _)=>True
 | some (.dK _)=>True
 | some (.dT _)=>True
 | some (.set _ _)=>True
 | some (.ins _ _ _)=>True
 | some (.ext _)=>True
 | _=>False
section
variable{P:Program}{w:World}{H:Hp}{h h':Heap}{x e:Addr}{o':HO}
theorem HOk.write(ok:HOk P w H h)(mu:Mut (H x))(he:e=x∨H e=some (.own x))(k:∀b u,b≠e->h.get? b=some u->h'.get? b=some u)(heo:∃u,h'.get? e=some u)
  (new:ObjOk P w (upd H x o') h' x o'):HOk P w (upd H x o') h':=λb u q=>by
 have nown:∀c y,H c=some (.own y)->c≠x:=λc y r z=>by subst z;rw[r]at mu;exact mu
 have ntup:∀c xs,H c=some (.tup xs)->c≠x:=λc xs r z=>by subst z;rw[r]at mu;exact mu
 by_cases hb:b=x
 ·subst hb;rw[jG]at q;cases q;exact new
 ·rw[jM hb]at q;by_cases hbe:b=e
  ·have q':H b=some (.own x):=by
    rcases he with z | z
    ·exact absurd (hbe.trans z) hb
    ·rw[hbe];exact z
   rw[q]at q';cases q';obtain⟨v,hv⟩:=heo;exact⟨v,by rw[hbe];exact hv⟩
  ·refine(ok b u q).stay (λc v hc r=>k c v ?_ r) (λc r=>by rw[jM (nown c b r)];exact r) λc xs r=>by rw[jM (ntup c xs r)];exact r
   rcases hc with rfl | hc
   ·exact hbe
   ·rintro rfl;rcases he with z | z
    ·exact nown c b hc z
    ·rw[hc]at z;cases z;exact hb rfl
end
structure Un(fs ex:List Addr)(H H':Hp)(h h':Heap):Prop where
 keep:∀b o,h.get? b=some o->H b=none->b∉fs->b∉ex->h'.get? b=some o
 slot:∀b o,h.get? b=some o->H b=none->b∈fs->b∉ex->∃sl,h'.get? b=some { o with slots:=sl }
 free:∀b o,h.get? b=some o->H b=none->b∉ex->H' b=none
 there:∀b o,h.get? b=some o->b∉ex->∃o',h'.get? b=some o'
 tups:∀b xs,H b=some (.tup xs)->H' b=some (.tup xs)
 frzs:∀b o u,H b=some (.frz o u)->H' b=some (.frz o u)
 tbls:∀b ps,H b=some (.tbl ps)->∃more,H' b=some (.tbl (ps++more))
section
variable{fs fs' ex ex':List Addr}{H H1 H2:Hp}{h h1 h2 h':Heap}{a x e:Addr}{o:HO}
theorem Un.any(u:Un fs ex H H1 h h1){b:Addr}{ob:Obj}(q:h.get? b=some ob)(n:H b=none)(hx:b∉ex):∃sl,h1.get? b=some { ob with slots:=sl } :=by
 by_cases hb:b∈fs
 ·exact u.slot b ob q n hb hx
 ·exact⟨ob.slots,u.keep b ob q n hb hx⟩
theorem Un.kept(k:∀b u,h.get? b=some u->h'.get? b=some u):Un fs ex H H h h':=
 ⟨λb ob q _ _ _=>k b ob q,λb ob q _ _ _=>⟨ob.slots,k b ob q⟩,λ_ _ _ n _=>n,λb ob q _=>⟨ob,k b ob q⟩,λ_ _ q=>q,λ_ _ _ q=>q,λ_ ps q=>⟨#[],by rw[q];simp⟩⟩
theorem Un.refl:Un fs ex H H h h:=Un.kept λ_ _ q=>q
theorem Un.laid(k:∀b u,h.get? b=some u->h'.get? b=some u)(hp:h.objs.size<=a)(hn:H a=none):Un fs ex H (upd H a o) h h' where
 keep:=λb u q _ _ _=>k b u q
 slot:=λb u q _ _ _=>⟨u.slots,k b u q⟩
 free:=λb u q n _=>by rw[jM (nM (gU (nJ q) hp))];exact n
 there:=λb u q _=>⟨u,k b u q⟩
 tups:=λb xs q=>by rw[jM (kL q hn)];exact q
 frzs:=λb u xs q=>by rw[jM (kL q hn)];exact q
 tbls:=λb ps q=>⟨#[],by rw[jM (kL q hn),q];simp⟩
theorem Un.write(mu:Mut (H x))(he:e=x∨H e=some (.own x))(k:∀b u,b≠e->h.get? b=some u->h'.get? b=some u)(heo:∃u,h'.get? e=some u):Un fs ex H (upd H x o) h h':=by
 have hx:∀b,H b=none->b≠x:=λb n z=>by subst z;rw[n]at mu;exact mu
 have hb:∀b,H b=none->b≠e:=λb n z=>by
  subst z;rcases he with r | r
  ·exact hx b n r
  ·rw[n]at r;cases r
 have hm:∀b u,H b=some u->¬Mut (some u)->b≠x:=λb u q nm z=>by subst z;rw[q]at mu;exact nm mu
 refine⟨λb u q n _ _=>k b u (hb b n) q,λb u q n _ _=>⟨u.slots,k b u (hb b n) q⟩,λb u q n _=>by rw[jM (hx b n)];exact n,λb u q _=>?_,
  λb xs q=>by rw[jM (hm b _ q λz=>z)];exact q,λb u xs q=>by rw[jM (hm b _ q λz=>z)];exact q,λb ps q=>⟨#[],by rw[jM (hm b _ q λz=>z),q];simp⟩⟩
 by_cases hbe:b=e
 ·subst hbe;exact heo
 ·exact⟨u,k b u hbe q⟩
end
def trk(h:Heap)(H:Hp):List Addr:=(List.range h.objs.size).filter λa=>(H a).isSome
def ID(h:Heap)(H:Hp):Heap:=PySem.W.hideAll h (trk h H)
theorem SU(h:Heap)(H:Hp):(ID h H).objs.size=h.objs.size:=PySem.W.hideAll_size _ _
theorem WW{h:Heap}{H:Hp}{b:Addr}{o:Obj}(e:h.get? b=some o)(n:H b=none):(ID h H).get? b=some o:=
 PySem.W.hideAll_get _ e λhm=>by
  have q:(H b).isSome=true:=(List.mem_filter.mp hm).2;rw[n]at q;simp at q
theorem ZX{h:Heap}{H:Hp}{b:Addr}{o:Obj}(e:(ID h H).get? b=some o):h.get? b=some o/\H b=none:=by
 have e':h.get? b=some o:=PySem.W.of_hideAll (trk h H) e;refine⟨e', ?_⟩;cases q:H b with
 | none=>rfl
 | some x=>
  have hm:b∈trk h H:=List.mem_filter.mpr ⟨mW.mpr (nJ e'),by simp [q]⟩;have z:(ID h H).get? b=none:=PySem.W.hideAll_none (trk h H) hm;rw[z]at e;cases e
def yL(g h:Heap)(L:Addr):List (Addr×Obj):=(List.range h.objs.size).filterMap λa=>if a=L∨(g.get? a).isSome=true then none else(h.get? a).map λo=>(a,o)
theorem yT{g h:Heap}{L a:Addr}{o:Obj}(h1:a≠L)(h2:g.get? a=none)(h3:h.get? a=some o):(a,o)∈yL g h L:=
 List.mem_filterMap.mpr ⟨a,mW.mpr (nJ h3),by simp [h1,h2,h3]⟩
theorem CM{g h:Heap}{L:Addr}{p:Addr×Obj}(hp:p∈yL g h L):p.1≠L/\g.get? p.1=none/\h.get? p.1=some p.2:=by
 obtain⟨b,_,e⟩:=List.mem_filterMap.mp hp;split at e
 ·cases e
 ·rename_i hn;cases q:h.get? b with
  | none=>rw[q]at e;simp at e
  | some u=>
   rw[q]at e;simp only[Option.map_some,Option.some.injEq]at e;subst e;refine⟨λz=>hn (.inl z), ?_,q⟩;show g.get? b=none;cases r:g.get? b with
   | none=>rfl
   | some v=>exact(hn (.inr (by simp [r]))).elim
theorem VX{g h:Heap}{L:Addr} :News g L h (yL g h L):=λp hp=>let ⟨a,b,c⟩:=CM hp;⟨c,a,b⟩
structure Mod(K:tJ)(mg:Str->Option Value)(base:Heap):Prop where
 kin:K.In base
 glob:base.Ns mainGlobals mg
 blt:∃mb,base.Ns builtinsNs mb/\∀x:Str,x≠"__name__"->mb x=bootBuiltins x
 nolimit:base.NoLimit
structure Cx where
 prog:Program
 w:World
 K:tJ
 mg:Str->Option Value
 base:Heap
 A:Around
 N:List Str
 s₀:Shared
 H₀:Hp
 env:Env
 outer:List Env
 stack:List Env
 ex:List Addr
 fn:Str->Bool
 calm:Bool
 pn:List (Addr×Obj)
 xe:Value->Shared->Prop
def frs(l:List Env):List Addr:=l.filterMap (·.frame)
abbrev Cx.fs(X:Cx):List Addr:=frs X.outer
def Vis(sc:Scope)(x:Str):Prop:=sc.names.lookup x=some .local∨sc.names.lookup x=some .cell∨sc.names.lookup x=some .free
def Loc(sc:Scope)(x:Str):Prop:=sc.names.lookup x=some .local∨sc.names.lookup x=some .cell
def Look(env:Env)(h:Heap)(m:Str->Option Value)(x:Str)(u:Value):Prop:=
 (env.kindOf x=some .local/\m x=some u)∨((env.kindOf x=some .cell∨env.kindOf x=some .free)/\∃c,env.cells.lookup x=some c/\h.IsCell c (some u))
structure Cx.Ok(X:Cx):Prop where
 mod:Mod X.K X.mg X.base
 kind:X.env.scope.kind=.function
 glob:X.env.globals=mainGlobals
 blt:X.env.builtins=builtinsNs
 above:X.s₀.heap.objs.size<=X.env.locals
 inj:∀x y c,X.env.cells.lookup x=some c->X.env.cells.lookup y=some c->x=y
 has:∀x,(X.env.kindOf x=some .cell∨X.env.kindOf x=some .free)->∃c,X.env.cells.lookup x=some c
 cab:∀x c,X.fn x=true->X.env.cells.lookup x=some c->X.s₀.heap.objs.size<=c
 hd:X.calm=true->X.A.handled=none
 frames:X.A.frames=some X.stack
 stk:X.stack=X.outer∨(X.stack=X.env::X.outer/\X.env.frame=some X.env.locals)
 exf:∀b∈X.ex,b≠X.env.locals/\∀x c,X.env.cells.lookup x=some c->c≠b
 bs:∀b o,X.base.get? b=some o->X.s₀.heap.get? b=some o/\X.H₀ b=none
 bsz:X.base.objs.size<=X.s₀.heap.objs.size
 noex:∀b o,X.base.get? b=some o->b∉X.ex
 exfs:∀b∈X.ex,b∉X.fs
 funs:X.s₀.heap.FunFrames X.base X.outer
 frf:∀b∈X.fs,X.H₀ b=none
structure Inv(X:Cx)(pins:List (Addr×Obj))(σ:List (Option V))(H:Hp)(s:Shared):Prop where
 ok:X.Ok
 os:s.os=X.s₀.os
 bare:AllBare s.gens
 base:Un X.fs X.ex X.H₀ H X.s₀.heap s.heap
 loc:∃m,s.heap.Ns X.env.locals m/\∀(i:Nat) (x:Str) (v:V),X.N[i]? = some x->σ[i]? = some (some v)->Vis X.env.scope x->∃u,RelV v u/\Look X.env s.heap m x u
 cell:∀x c,X.env.cells.lookup x=some c->∃v,s.heap.IsCell c v
 free:H X.env.locals=none
 freeC:∀x c,X.env.cells.lookup x=some c->H c=none
 pin:∀p∈X.pn++pins,s.heap.get? p.1=some p.2/\H p.1=none/\p.1≠X.env.locals/\p.1∉X.fs/\∀v,p.2.data≠.cell v
 hok:HOk X.prog X.w H s.heap
 len:σ.length=X.N.length
section
variable{X:Cx}{pins:List (Addr×Obj)}{σ:List (Option V)}{H H':Hp}{s:Shared}{h':Heap}
theorem Cx.Ok.nofr(ok:X.Ok){b:Addr}{o:Obj}(e:X.base.get? b=some o):b∉X.fs:=λhb=>by
 have:=(ok.funs.mem hb).1;rw[e]at this;cases this
theorem Inv.bs(I:Inv X pins σ H s):∀b o,X.base.get? b=some o->s.heap.get? b=some o/\H b=none:=λb o e=>
 ⟨I.base.keep b o (I.ok.bs b o e).1 (I.ok.bs b o e).2 (I.ok.nofr e) (I.ok.noex b o e),I.base.free b o (I.ok.bs b o e).1 (I.ok.bs b o e).2 (I.ok.noex b o e)⟩
theorem Inv.bk(I:Inv X pins σ H s):∀b o,X.base.get? b=some o->s.heap.get? b=some o:=λb o e=>(I.bs b o e).1
theorem Inv.mod(I:Inv X pins σ H s):Mod X.K X.mg X.base:=I.ok.mod
theorem Inv.kIn(I:Inv X pins σ H s):X.K.In s.heap:=I.ok.mod.kin.keeps I.bk
theorem Inv.fr(I:Inv X pins σ H s):∃m,Fr X.base X.env.locals s.heap m:=
 let ⟨m,hn,_⟩:=I.loc
 ⟨m,hn,I.bk,nK I.ok.bsz I.ok.above⟩
theorem Inv.lt(I:Inv X pins σ H s):X.env.locals<s.heap.objs.size:=let ⟨_,hn,_⟩:=I.loc;hn.lt
theorem Inv.sz(I:Inv X pins σ H s):X.s₀.heap.objs.size<=s.heap.objs.size:=nK I.ok.above (Nat.le_of_lt I.lt)
theorem Inv.nofs(I:Inv X pins σ H s){a:Addr}(h:s.heap.objs.size<=a):a∉X.fs:=λhb=>by
 obtain⟨_,o,ho,_⟩:=I.ok.funs.mem hb;exact absurd (gU (nJ ho) (nK I.sz h)) (nH _)
theorem Inv.cne(I:Inv X pins σ H s):∀x c,X.env.cells.lookup x=some c->c≠X.env.locals:=λx c e z=>by
 obtain⟨v,o,ho,hd⟩:=I.cell x c e;obtain⟨m,⟨o',es,ep,ho',hd',_⟩,_⟩:=I.loc;rw[z,ho']at ho;cases ho;rw[hd']at hd;cases hd
theorem Inv.funs(I:Inv X pins σ H s):s.heap.FunFrames X.base X.outer:=by
 have all:∀(l:List Env),(∀b∈frs l,b∈X.fs)->X.s₀.heap.FunFrames X.base l->s.heap.FunFrames X.base l:=by
  intro l;induction l with
  | nil=>intro _ _;trivial
  | cons env r ih=>
   intro hs hl;obtain⟨hk,⟨L,o,hf,hn,ho,hd⟩,hr⟩:=hl;have hL:L∈X.fs:=hs L (by unfold frs;rw[List.filterMap_cons,hf];exact gY);obtain⟨sl,e⟩:=I.base.slot L o ho (I.ok.frf L hL) hL λz=>I.ok.exfs L z hL;exact⟨hk,⟨L,_,hf,hn,e,hd⟩,ih (λb hb=>hs b (by unfold frs;rw[List.filterMap_cons,hf];exact gI _ hb)) hr⟩
 exact all X.outer (λ_ hb=>hb) I.ok.funs
theorem Inv.stack(I:Inv X pins σ H s):s.heap.FunFrames X.base X.stack:=by
 rcases I.ok.stk with e | ⟨e,hf⟩
 ·rw[e];exact I.funs
 ·rw[e];obtain⟨m,hn,_⟩:=I.loc;refine .cons (by rw[I.ok.kind];decide) hf hn ?_ I.funs;exact Heap.get?_none_of_le (nK I.ok.bsz I.ok.above)
theorem Inv.stkSub(I:Inv X pins σ H s):∀b∈frs X.stack,b∈X.env.locals::X.fs:=λb hb=>by
 rcases I.ok.stk with e | ⟨e,hf⟩
 ·rw[e]at hb;exact gI _ hb
 ·rw[e]at hb;unfold frs at hb;rw[List.filterMap_cons,hf]at hb;exact hb
theorem Inv.stkFree(I:Inv X pins σ H s):∀b∈frs X.stack,H b=none:=λb hb=>by
 rcases nF.mp (I.stkSub b hb)with e | hb
 ·rw[e];exact I.free
 ·obtain⟨_,o,ho,_⟩:=I.ok.funs.mem hb;exact I.base.free b o ho (I.ok.frf b hb) λz=>I.ok.exfs b z hb
theorem Inv.step{g':Array GenState}{t':Nat}{d':Drawn}{ch:List Addr}(I:Inv X pins σ H s)
  (hch:∀b∈ch,(b∈X.ex∨X.s₀.heap.objs.size<=b)/\b≠X.env.locals/\(∀x c,X.env.cells.lookup x=some c->c≠b)/\∀p∈X.pn++pins,p.1≠b)
  (keep:∀b o,b≠X.env.locals->b∉X.fs->b∉ch->s.heap.get? b=some o->H b=none->h'.get? b=some o)
  (slot:∀b o,b≠X.env.locals->b∈X.fs->b∉ch->s.heap.get? b=some o->H b=none->∃sl,h'.get? b=some { o with slots:=sl }) (free:∀b o,b∉ch->s.heap.get? b=some o->H b=none->H' b=none)
  (there:∀b o,b∉ch->s.heap.get? b=some o->∃o',h'.get? b=some o')
  (tups:∀b xs,H b=some (.tup xs)->H' b=some (.tup xs)) (frzs:∀b o u,H b=some (.frz o u)->H' b=some (.frz o u)) (tbls:∀b ps,H b=some (.tbl ps)->∃more,H' b=some (.tbl (ps++more)))
  (ns:∀m,s.heap.Ns X.env.locals m->h'.Ns X.env.locals m) (hok:HOk X.prog X.w H' h') (hg:AllBare g') :
  Inv X pins σ H' { s with heap:=h',gens:=g',drawn:=d',toks:=t' } :=by
 have neL:∀b o,X.s₀.heap.get? b=some o->b≠X.env.locals:=λb o e=>nM (gU (nJ e) I.ok.above);have neC:∀b o,X.s₀.heap.get? b=some o->b∉X.ex->b∉ch:=λb o e hx hb=>by
  rcases(hch b hb).1 with z | z
  ·exact hx z
  ·exact absurd (gU (nJ e) z) (nH _)
 have cellK:∀x c,X.env.cells.lookup x=some c->∀v,s.heap.IsCell c v->h'.IsCell c v:=λx c e v ⟨o,ho,hd⟩=>by
  have nch:c∉ch:=λz=>(hch c z).2.2.1 x c e rfl;by_cases hc:c∈X.fs
  ·obtain⟨sl,q⟩:=slot c o (I.cne x c e) hc nch ho (I.freeC x c e);exact⟨_,q,hd⟩
  ·exact⟨o,keep c o (I.cne x c e) hc nch ho (I.freeC x c e),hd⟩
 refine⟨I.ok,I.os,hg,⟨λb o e n hb hx=>?_,λb o e n hb hx=>?_,λb o e n hx=>?_,λb o e hx=>?_,λb xs e=>tups b xs (I.base.tups b xs e),λb o xs e=>frzs b o xs (I.base.frzs b o xs e),λb ps e=>?_⟩, ?_,λx c e=>?_, ?_,λx c e=>?_,λp hp=>?_,hok,I.len⟩
 ·exact keep b o (neL b o e) hb (neC b o e hx) (I.base.keep b o e n hb hx) (I.base.free b o e n hx)
 ·obtain⟨sl,e1⟩:=I.base.slot b o e n hb hx;obtain⟨sl',e2⟩:=slot b _ (neL b o e) hb (neC b o e hx) e1 (I.base.free b o e n hx);exact⟨sl',e2⟩
 ·obtain⟨o',e1⟩:=I.base.there b o e hx;exact free b o' (neC b o e hx) e1 (I.base.free b o e n hx)
 ·obtain⟨o',e1⟩:=I.base.there b o e hx;exact there b o' (neC b o e hx) e1
 ·obtain⟨m1,e1⟩:=I.base.tbls b ps e;obtain⟨m2,e2⟩:=tbls b _ e1;exact⟨m1++m2,by rw[e2,Array.append_assoc]⟩
 ·obtain⟨m,hn,hl⟩:=I.loc;refine⟨m,ns m hn,λi x v e1 e2 e3=>?_⟩;obtain⟨u,r,l⟩:=hl i x v e1 e2 e3;refine⟨u,r, ?_⟩;rcases l with l | ⟨k,c,e,z⟩
  ·exact .inl l
  ·exact .inr ⟨k,c,e,cellK x c e _ z⟩
 ·obtain⟨v,z⟩:=I.cell x c e;exact⟨v,cellK x c e v z⟩
 ·obtain⟨m,⟨o,_,_,ho,_⟩,_⟩:=I.loc;exact free _ o (λz=>(hch _ z).2.1 rfl) ho I.free
 ·obtain⟨v,o,ho,hd⟩:=I.cell x c e;exact free c o (λz=>(hch c z).2.2.1 x c e rfl) ho (I.freeC x c e)
 ·obtain⟨e,n,ne,nf,d⟩:=I.pin p hp;have nch:p.1∉ch:=λz=>(hch p.1 z).2.2.2 p hp rfl;exact⟨keep p.1 p.2 ne nf nch e n,free p.1 p.2 nch e n,ne,nf,d⟩
theorem Inv.un{t':Nat}(I:Inv X pins σ H s)(u:Un X.fs [] H H' s.heap h')(hok:HOk X.prog X.w H' h'):Inv X pins σ H' { s with heap:=h',toks:=t' } :=by
 obtain⟨m,⟨o,es,ep,ho,r⟩,_⟩:=id I.loc;obtain⟨sl,hL⟩:=u.any ho I.free (by simp);exact I.step (g':=s.gens) (d':=s.drawn) (ch:=[]) (λ_ z=>nomatch z) (λb o _ hb _ e n=>u.keep b o e n hb (by simp)) (λb o _ hb _ e n=>u.slot b o e n hb (by simp)) (λb o _ e n=>u.free b o e n (by simp)) (λb o _ e=>u.there b o e (by simp)) u.tups u.frzs u.tbls (λm' hm=>by
  obtain⟨o',es',ep',ho',r'⟩:=hm;rw[ho]at ho';cases ho';exact⟨_,es',ep',hL,r'⟩) hok I.bare
theorem Inv.call{g':Array GenState}{t':Nat}{d':Drawn}{ch:List Addr}(I:Inv X pins σ H s)(u:Un (frs X.stack) ch H H' s.heap h')(hok:HOk X.prog X.w H' h')(hg:AllBare g')
  (hch:∀b∈ch,(b∈X.ex∨X.s₀.heap.objs.size<=b)/\b≠X.env.locals/\(∀x c,X.env.cells.lookup x=some c->c≠b)/\∀p∈X.pn++pins,p.1≠b) :
  Inv X pins σ H' { s with heap:=h',gens:=g',drawn:=d',toks:=t' } :=by
 obtain⟨m,⟨o,es,ep,ho,r⟩,_⟩:=id I.loc;obtain⟨sl,hL⟩:=u.any ho I.free λz=>(hch _ z).2.1 rfl;exact I.step (ch:=ch) hch (λb o hL hb hc e n=>u.keep b o e n (λz=>(nF.mp (I.stkSub b z)).elim hL hb) hc) (λb o _ _ hc e n=>u.any e n hc) (λb o hc e n=>u.free b o e n hc) (λb o hc e=>u.there b o e hc) u.tups u.frzs u.tbls (λm' hm=>by
  obtain⟨o',es',ep',ho',r'⟩:=hm;rw[ho]at ho';cases ho';exact⟨_,es',ep',hL,r'⟩) hok hg
theorem Inv.turned{t':Nat}{it:Addr}(I:Inv X pins σ H s)(k:∀b o,b≠it->s.heap.get? b=some o->h'.get? b=some o)(hn:H it=none)(hL:it≠X.env.locals)
  (h1:it∈X.ex∨X.s₀.heap.objs.size<=it) (h2:∀x c,X.env.cells.lookup x=some c->c≠it) (h3:∀p∈X.pn++pins,p.1≠it):Inv X pins σ H { s with heap:=h',toks:=t' } :=by
 have nit:∀b u,H b=some u->b≠it:=λb u e z=>by rw[z,hn]at e;cases e
 refine I.step (g':=s.gens) (d':=s.drawn) (ch:=[it]) (λb hb=>?_) (λb o _ _ hc e _=>k b o (λz=>hc (by simp [z])) e) (λb o _ _ hc e _=>⟨o.slots,k b o (λz=>hc (by simp [z])) e⟩) (λ_ _ _ _ n=>n)
  (λb o hc e=>⟨o,k b o (λz=>hc (by simp [z])) e⟩) (λ_ _ e=>e) (λ_ _ _ e=>e) (λb ps e=>⟨#[],by rw[e];simp⟩) (λm hm=>?_) (λb u e=>?_) I.bare
 ·have e:b=it:=by simpa using hb
  subst e;exact⟨h1,hL,h2,h3⟩
 ·obtain⟨o,es,ep,ho,r⟩:=hm;exact⟨o,es,ep,k _ o (Ne.symm hL) ho,r⟩
 ·refine(I.hok b u e).stay (λc v hc q=>k c v ?_ q) (λ_ q=>q) λ_ _ q=>q;rcases hc with z | z
  ·rw[z];exact nit b u e
  ·exact nit c _ z
theorem Inv.tok(I:Inv X pins σ H s)(t:Nat):Inv X pins σ H { s with toks:=t } :=I.un (h':=s.heap) (t':=t) Un.refl I.hok
theorem Inv.kept{t':Nat}(I:Inv X pins σ H s)(k:∀b u,s.heap.get? b=some u->h'.get? b=some u):Inv X pins σ H { s with heap:=h',toks:=t' } :=I.un (Un.kept k) (I.hok.kept k)
theorem Inv.laid{a:Addr}{o:HO}{t':Nat}(I:Inv X pins σ H s)(k:∀b u,s.heap.get? b=some u->h'.get? b=some u)(hp:s.heap.objs.size<=a)(new:ObjOk X.prog X.w (upd H a o) h' a o) :
  Inv X pins σ (upd H a o) { s with heap:=h',toks:=t' } :=I.un (Un.laid k hp (I.hok.fresh hp)) (I.hok.laid k hp new)
theorem Inv.write{x e:Addr}{o:HO}{t':Nat}(I:Inv X pins σ H s)(mu:Mut (H x))(he:e=x∨H e=some (.own x))(k:∀b u,b≠e->s.heap.get? b=some u->h'.get? b=some u)(heo:∃u,h'.get? e=some u)
  (new:ObjOk X.prog X.w (upd H x o) h' x o):Inv X pins σ (upd H x o) { s with heap:=h',toks:=t' } :=I.un (Un.write mu he k heo) (I.hok.write mu he k heo new)
theorem Inv.weak{σ':List (Option V)}(I:Inv X pins σ H s)(hl:σ'.length=σ.length)(w:∀(i:Nat) v,σ'[i]? = some (some v)->σ[i]? = some (some v)):Inv X pins σ' H s:=
 ⟨I.ok,I.os,I.bare,I.base,let ⟨m,hn,hl'⟩:=I.loc;⟨m,hn,λi x v e1 e2 e3=>hl' i x v e1 (w i v e2) e3⟩,I.cell,I.free,I.freeC,I.pin,I.hok,hl.trans I.len⟩
theorem Inv.pins_of{pins':List (Addr×Obj)}(I:Inv X pins σ H s)(h:∀p∈pins',s.heap.get? p.1=some p.2/\H p.1=none/\p.1≠X.env.locals/\p.1∉X.fs/\∀v,p.2.data≠.cell v):Inv X pins' σ H s:=
 ⟨I.ok,I.os,I.bare,I.base,I.loc,I.cell,I.free,I.freeC,λp hp=>(mS.mp hp).elim (λz=>I.pin p (List.mem_append_left _ z)) (h p),I.hok,I.len⟩
theorem JY{N:List Str}(hN:N.Nodup){i j:Nat}{x:Str}(a:N[i]? = some x)(b:N[j]? = some x):i=j:=by
 obtain⟨h1,e1⟩:=uU.mp a;obtain⟨h2,e2⟩:=uU.mp b;exact(List.getElem_inj hN).mp (e1.trans e2.symm)
theorem zC{M:Model}{A:Around}{E:Value->Shared->Prop}{i:Nat}{x:Str}{v:V}{u:Value}{Q:Unit->Shared->Prop}(I:Inv X pins σ H s)(hN:X.N.Nodup)(hi:X.N[i]? = some x)(hx:Loc X.env.scope x)(r:RelV v u)
  (h:∀s',Inv X pins (σ.set i (some v)) H s'->(∃a,Heap.SameBut a s.heap s'.heap/\(a=X.env.locals∨X.env.cells.lookup x=some a))->Q () s') (hf:X.fn x=true∨X.env.scope.names.lookup x=some .local:=by first | exact .inl rfl | exact .inr rfl | assumption):wpAny M A (storeName X.env x u) Q E s:=by
 obtain⟨m,hn,hl⟩:=id I.loc;have hcls:(X.env.scope.kind==.class||(X.env.scope.kind==.module&&X.env.locals != X.env.globals))=false:=by rw[I.ok.kind];rfl
 have hiσ:i<σ.length:=by rw[I.len];exact(uU.mp hi).1
 have cne:=I.cne;have tracked:∀{a:Addr} {h':Heap},(∃o,s.heap.get? a=some o/\H a=none)->Heap.SameBut a s.heap h'->HOk X.prog X.w H h':=fun {a h'} ha hs b ob e=>by
  obtain⟨_,_,hfree⟩:=ha;refine(I.hok b ob e).stay (λc w' hc q=>(hs.2 c ?_).trans q) (λ_ q=>q) λ_ _ q=>q;rintro rfl;rcases hc with rfl | hc
  ·rw[hfree]at e;cases e
  ·rw[hfree]at hc;cases hc
 rcases hx with hk | hk
 ·refine wpAny_storeName_local hk hn (λh' hn' hs=>?_) hcls;obtain⟨oL,_,_,hoL,_⟩:=id hn;refine h _ ⟨I.ok,I.os,I.bare,⟨λb o e n hb hx=>?_,λb o e n hb hx=>?_,I.base.free,λb o e hx=>?_,I.base.tups,I.base.frzs,I.base.tbls⟩,⟨_,hn',λj y v' e1 e2 e3=>?_⟩,λy c e=>?_,I.free,I.freeC,λp hp=>?_,tracked ⟨oL,hoL,I.free⟩ hs,by simpa using I.len⟩ ⟨_,hs,.inl rfl⟩
  ·exact(hs.2 b (nM (gU (nJ e) I.ok.above))).trans (I.base.keep b o e n hb hx)
  ·obtain⟨sl,e1⟩:=I.base.slot b o e n hb hx;exact⟨sl,(hs.2 b (nM (gU (nJ e) I.ok.above))).trans e1⟩
  ·obtain⟨o',e1⟩:=I.base.there b o e hx;exact⟨o',(hs.2 b (nM (gU (nJ e) I.ok.above))).trans e1⟩
  ·by_cases hj:j=i
   ·subst hj;rw[hi]at e1;cases e1;rw[List.getElem?_set_self hiσ]at e2;cases e2;exact⟨u,r,.inl ⟨hk,by simp⟩⟩
   ·rw[List.getElem?_set_ne (Ne.symm hj)]at e2;obtain⟨u',r',q⟩:=hl j y v' e1 e2 e3;refine⟨u',r', ?_⟩;rcases q with⟨k,e⟩ | ⟨k,c,e,z⟩
    ·refine .inl ⟨k, ?_⟩;have:y≠x:=λe=>hj (JY hN e1 (e▸hi));simp [this,e]
    ·exact .inr ⟨k,c,e,z.sameBut hs (cne y c e)⟩
  ·obtain⟨w',z⟩:=I.cell y c e;exact⟨w',z.sameBut hs (cne y c e)⟩
  ·obtain⟨e,n,ne,nf,d⟩:=I.pin p hp;exact⟨(hs.2 p.1 ne).trans e,n,ne,nf,d⟩
 ·have hfn:X.fn x=true:=by
   rcases hf with z | z
   ·exact z
   ·rw[z]at hk;cases hk
  obtain⟨c,hc⟩:=I.ok.has x (.inl hk);obtain⟨w',z⟩:=I.cell x c hc;refine wpAny_storeName_cell I.ok.kind hk hc z (λh' hc' hs=>?_);obtain⟨oc,hoc,hocd⟩:=id z;refine h { s with heap:=h' } ⟨I.ok,I.os,I.bare,⟨λb o e n hb hx=>?_,λb o e n hb hx=>?_,I.base.free,λb o e hx=>?_,I.base.tups,I.base.frzs,I.base.tbls⟩,⟨m,hn.sameBut hs (Ne.symm (cne x c hc)),λj y v' e1 e2 e3=>?_⟩,λy c' e=>?_,I.free,I.freeC,λp hp=>?_,tracked ⟨oc,hoc,I.freeC x c hc⟩ hs,by simpa using I.len⟩ ⟨c,hs,.inr hc⟩
  ·exact(hs.2 b (nM (gU (nJ e) (I.ok.cab x c hfn hc)))).trans (I.base.keep b o e n hb hx)
  ·obtain⟨sl,e1⟩:=I.base.slot b o e n hb hx;exact⟨sl,(hs.2 b (nM (gU (nJ e) (I.ok.cab x c hfn hc)))).trans e1⟩
  ·obtain⟨o',e1⟩:=I.base.there b o e hx;exact⟨o',(hs.2 b (nM (gU (nJ e) (I.ok.cab x c hfn hc)))).trans e1⟩
  ·by_cases hj:j=i
   ·subst hj;rw[hi]at e1;cases e1;rw[List.getElem?_set_self hiσ]at e2;cases e2;exact⟨u,r,.inr ⟨.inl hk,c,hc,hc'⟩⟩
   ·rw[List.getElem?_set_ne (Ne.symm hj)]at e2;obtain⟨u',r',q⟩:=hl j y v' e1 e2 e3;refine⟨u',r', ?_⟩;rcases q with q | ⟨k,c',e,z'⟩
    ·exact .inl q
    ·refine .inr ⟨k,c',e,z'.sameBut hs ?_⟩;rintro rfl;exact hj (JY hN e1 (I.ok.inj _ _ _ e hc▸hi))
  ·by_cases hcc:c'=c
   ·subst hcc;exact⟨_,hc'⟩
   ·obtain⟨w2,z2⟩:=I.cell y c' e;exact⟨w2,z2.sameBut hs hcc⟩
  ·obtain⟨e,n,ne,nf,d⟩:=I.pin p hp;refine⟨(hs.2 p.1 ?_).trans e,n,ne,nf,d⟩;intro q;rw[q,hoc]at e;have q':oc=p.2:=Option.some.inj e;exact d w' (by rw[<-q'];exact hocd)
theorem yP{M:Model}{A:Around}{E:Value->Shared->Prop}{i:Nat}{x:Str}{v:V}{u:Value}{Q:Unit->Shared->Prop}(I:Inv X pins σ H s)(hN:X.N.Nodup)(hi:X.N[i]? = some x)(hx:Loc X.env.scope x)(r:RelV v u)
  (h:∀s',Inv X pins (σ.set i (some v)) H s'->Q () s') (hf:X.fn x=true∨X.env.scope.names.lookup x=some .local:=by first | exact .inl rfl | exact .inr rfl | assumption):wpAny M A (storeName X.env x u) Q E s:=
 zC I hN hi hx r (λs' I' _=>h s' I') hf
theorem Inv.call'{s':Shared}{ch:List Addr}(I:Inv X pins σ H s)(ho:s'.os=s.os)(u:Un (frs X.stack) ch H H' s.heap s'.heap)(hok:HOk X.prog X.w H' s'.heap)(hg:AllBare s'.gens)
  (hch:∀b∈ch,(b∈X.ex∨X.s₀.heap.objs.size<=b)/\b≠X.env.locals/\(∀x c,X.env.cells.lookup x=some c->c≠b)/\∀p∈X.pn++pins,p.1≠b):Inv X pins σ H' s':=by
 obtain⟨h',g',d',t',o'⟩:=s';have e:o'=s.os:=ho;subst e;exact I.call (g':=g') (t':=t') (d':=d') u hok hg hch
end
abbrev XK:=Value->Option Addr->Hp->Prop
abbrev St:=List (Option V)
abbrev VK:=V->Hp->Prop
abbrev TE:=St->Hp->VK->Prop
abbrev TT:=St->Hp->(Bool->Hp->Prop)->Prop
abbrev TA:=St->Hp->(List V->Hp->Prop)->Prop
structure Ends where
 nx:St->Hp->Prop
 rt:VK
 bk:St->Hp->Prop:=λ_ _=>False
 ct:St->Hp->Prop:=λ_ _=>False
abbrev TS:=Ends->St->Hp->Prop
def EP(X:Cx)(pins:List (Addr×Obj))(σ:St)(Q:VK)(u:Value)(s':Shared):Prop:=∃v H',Inv X pins σ H' s'/\RelV v u/\Q v H'
def TP(X:Cx)(pins:List (Addr×Obj))(σ:St)(Q:Bool->Hp->Prop)(b:Bool)(s':Shared):Prop:=∃H',Inv X pins σ H' s'/\Q b H'
def AP(X:Cx)(pins:List (Addr×Obj))(σ:St)(Q:List V->Hp->Prop)(us:List Value)(s':Shared):Prop:=∃vs H',Inv X pins σ H' s'/\Vals vs us/\Q vs H'
def SP(X:Cx)(pins:List (Addr×Obj))(D:Ends)(f:Flow)(s':Shared):Prop:=
 match f with
 | .next=>∃σ' H',Inv X pins σ' H' s'/\D.nx σ' H'
 | .brk=>∃σ' H',Inv X pins σ' H' s'/\D.bk σ' H'
 | .cont=>∃σ' H',Inv X pins σ' H' s'/\D.ct σ' H'
 | .ret u=>∃v σ' H',Inv X pins σ' H' s'/\RelV v u/\D.rt v H'
def PE(X:Cx)(e:Expr)(t:TE):Prop:=
 ∀(pins:List (Addr×Obj)) (s:Shared) (σ:St) (H:Hp) (Q:VK),Inv X pins σ H s->t σ H Q->wpAny (model X.prog X.w) X.A (eval e X.env) (EP X pins σ Q) X.xe s
def PT(X:Cx)(e:Expr)(t:TT):Prop:=
 ∀(pins:List (Addr×Obj)) (s:Shared) (σ:St) (H:Hp) (Q:Bool->Hp->Prop),Inv X pins σ H s->t σ H Q->wpAny (model X.prog X.w) X.A (isTrue e X.env (eval e X.env)) (TP X pins σ Q) X.xe s
def PW(X:Cx)(e:Expr)(t:TT):Prop:=
 ∀(whole:Sem Value) (pins:List (Addr×Obj)) (s:Shared) (σ:St) (H:Hp) (Q:Bool->Hp->Prop),Inv X pins σ H s->t σ H Q->wpAny (model X.prog X.w) X.A (isTrue e X.env whole) (TP X pins σ Q) X.xe s
theorem PW.pt{X:Cx}{e:Expr}{t:TT}(h:PW X e t):PT X e t:=h _
def PA(X:Cx)(es:List Expr)(t:TA):Prop:=
 ∀(pos:Pos) (pins:List (Addr×Obj)) (s:Shared) (σ:St) (H:Hp) (Q:List V->Hp->Prop),Inv X pins σ H s->t σ H Q->wpAny (model X.prog X.w) X.A (spliced (backTo pos (starEach es X.env))) (AP X pins σ Q) X.xe s
def PS(X:Cx)(st:Stmt)(t:TS):Prop:=
 ∀(pins:List (Addr×Obj)) (s:Shared) (σ:St) (H:Hp) (D:Ends),Inv X pins σ H s->t D σ H->wpAny (model X.prog X.w) X.A (exec st X.env) (SP X pins D) X.xe s
def PSs(X:Cx)(st:List Stmt)(t:TS):Prop:=
 ∀(pins:List (Addr×Obj)) (s:Shared) (σ:St) (H:Hp) (D:Ends),Inv X pins σ H s->t D σ H->wpAny (model X.prog X.w) X.A (execs st X.env) (SP X pins D) X.xe s
theorem thn{α:Type}{t:Sem α}{Q Q':α->Shared->Prop}{M:Model}{A:Around}{E:Value->Shared->Prop}{s:Shared}(h:wpAny M A t Q E s)(hQ:∀a s,Q a s->Q' a s):wpAny M A t Q' E s:=tG h hQ λ_ _ x=>x
section
variable{X:Cx}
theorem bin{a b:Expr}{ta tb:TE}(ha:PE X a ta)(hb:PE X b tb){pins:List (Addr×Obj)}{s:Shared}{σ:St}{H:Hp}{R:V->V->Hp->Prop}(I:Inv X pins σ H s)(h:ta σ H λx H1=>tb σ H1 λy H2=>R x y H2)
  {α:Type} {Q:α->Shared->Prop} {f:Value->Value->Sem α}
  (hf:∀v u s2 x y H2,Inv X pins σ H2 s2->RelV x v->RelV y u->R x y H2->wpAny (model X.prog X.w) X.A (f v u) Q X.xe s2) :
  wpAny (model X.prog X.w) X.A (eval a X.env) (λv s₁=>wpAny (model X.prog X.w) X.A (eval b X.env) (λu s₂=>wpAny (model X.prog X.w) X.A (f v u) Q X.xe s₂) X.xe s₁) X.xe s:=by
 refine thn (ha pins s σ H _ I h) λv s1 ⟨x,H1,I1,r1,q1⟩=>?_;refine thn (hb pins s1 σ H1 _ I1 q1) λu s2 ⟨y,H2,I2,r2,q2⟩=>?_;exact hf v u s2 x y H2 I2 r1 r2 q2
def kI(i:Nat):TE:=fun σ H Q=>∃v,σ[i]? = some (some v)/\Q v H
def tC(v:V):TE:=λ_ H Q=>Q v H
theorem pe_var{i:Nat}{x:Str}{pos:Pos}(hN:X.N[i]? = some x)(hv:Vis X.env.scope x)(hd:(x==("__debug__" :Str))=false:=by decide)(hcd:(x==("__classdict__" :Str))=false:=by decide):PE X (.Name x pos) (kI i):=by
 intro pins s σ H Q I h;obtain⟨v,e,h⟩:=h;obtain⟨m,hn,hl⟩:=I.loc;obtain⟨u,r,l⟩:=hl i x v hN e hv;have fin:EP X pins σ Q u s:=⟨v,H,I,r,h⟩;rcases l with⟨hk,hm⟩ | ⟨hk,c,hc,hcell⟩
 ·exact wpAny_Name (wpAny_loadName_local I.ok.kind hk hn hm fin) hd
 ·rcases hk with hk | hk
  ·exact wpAny_Name (wpAny_loadName_cell I.ok.kind hk hc hcell fin) hd
  ·exact wpAny_Name (wpAny_loadName_free I.ok.kind hk hc hcell fin hcd) hd
theorem jD{i j pos} :PE X (.Constant (.int i) j pos) (tC (.int i)):=λ_ _ _ H _ I h=>wpAny_Constant_int ⟨.int i,H,I.tok _,⟨_,rfl⟩,h⟩
theorem AS{b j pos} :PE X (.Constant (.bool b) j pos) (tC (.bl b)):=λ_ _ _ H _ I h=>Constant_bool ⟨.bl b,H,I,rfl,h⟩
theorem HM{j pos} :PE X (.Constant .none j pos) (tC .non):=λ_ _ _ H _ I h=>Constant_none ⟨.non,H,I,rfl,h⟩
theorem qK{x j pos} :PE X (.Constant (.str x) j pos) (tC (.str x)):=λ_ _ _ H _ I h=>Calls.Constant_str ⟨.str x,H,I.tok _,⟨_,rfl⟩,h⟩
def Gl(X:Cx)(x:Str):Prop:=X.env.kindOf x=some .globalImplicit
theorem PB{E:Value->Shared->Prop}{pins:List (Addr×Obj)}{s:Shared}{σ:St}{H:Hp}{x:Str}{u:Value}{pos:Pos}{Q:Value->Shared->Prop}(I:Inv X pins σ H s)(hg:Gl X x)(hm:X.mg x=some u)(h:Q u s)
  (hd:(x==("__debug__" :Str))=false:=by decide):wpAny (model X.prog X.w) X.A (eval (.Name x pos) X.env) Q E s:=
 Calls.Name_function_global I.ok.kind hg (Calls.loadGlobal_global (by rw[I.ok.glob];exact I.mod.glob.keeps I.bk) hm h) hd
theorem xB{E:Value->Shared->Prop}{pins:List (Addr×Obj)}{s:Shared}{σ:St}{H:Hp}{x:Str}{u:Value}{pos:Pos}{Q:Value->Shared->Prop}(I:Inv X pins σ H s)(hg:Gl X x)(hm:X.mg x=none)(hv:bootBuiltins x=some u)(h:Q u s)
  (hn:x≠"__name__":=by decide) (hd:(x==("__debug__" :Str))=false:=by decide):wpAny (model X.prog X.w) X.A (eval (.Name x pos) X.env) Q E s:=by
 obtain⟨mb,h1,h2⟩:=I.mod.blt;exact Calls.Name_function_global I.ok.kind hg (Calls.loadGlobal_builtin (by rw[I.ok.glob];exact I.mod.glob.keeps I.bk) hm (by rw[I.ok.blt];exact h1.keeps I.bk) ((h2 x hn).trans hv) h) hd
theorem OG{x:Str}{v:V}{u:Value}{pos:Pos}(hg:Gl X x)(hm:X.mg x=some u)(r:RelV v u)(hd:(x==("__debug__" :Str))=false:=by decide):PE X (.Name x pos) (tC v):=
 λ_ _ _ H _ I h=>PB I hg hm ⟨v,H,I,r,h⟩ hd
theorem YY{x:Str}{v:V}{u:Value}{pos:Pos}(hg:Gl X x)(hm:X.mg x=none)(hv:bootBuiltins x=some u)(r:RelV v u)(hn:x≠"__name__":=by decide)(hd:(x==("__debug__" :Str))=false:=by decide):PE X (.Name x pos) (tC v):=
 λ_ _ _ H _ I h=>xB I hg hm hv ⟨v,H,I,r,h⟩ hn hd
variable{a b:Expr}{ta tb:TE}{pos:Pos}
def PC(X:Cx)(op:CmpOp)(a b:Expr)(t:TE):Prop:=
 ∀(pins:List (Addr×Obj)) (s:Shared) (σ:St) (H:Hp) (Q:VK),Inv X pins σ H s->t σ H Q->
  wpAny (model X.prog X.w) X.A (eval a X.env) (λv s₁=>wpAny (model X.prog X.w) X.A (eval b X.env) (λu s₂=>wpAny (model X.prog X.w) X.A (compareOp op v u) (EP X pins σ Q) X.xe s₂) X.xe s₁) X.xe s
theorem VV(b:Expr){op:CmpOp}(h:op≠.In)(h2:op≠.NotIn):behindInMarks op b=false:=by
 have e1:(op==CmpOp.In)=false:=by cases op<;>first | rfl | exact absurd rfl h
 have e2:(op==CmpOp.NotIn)=false:=by cases op<;>first | rfl | exact absurd rfl h2
 cases b<;>simp [behindInMarks,e1,e2]
def tIsN(ta:TE):TE:=fun σ H Q=>ta σ H λx H1=>Q (.bl (decide (x=.non))) H1
theorem RelV.none_iff{x:V}{v:Value}(r:RelV x v):(v==Value.none)=decide (x=.non):=by
 cases x with
 | non=>cases r;rfl
 | bl _=>cases r;rfl
 | int _=>obtain⟨t,rfl⟩:=r;rfl
 | str _=>obtain⟨t,rfl⟩:=r;rfl
 | byt _=>obtain⟨t,rfl⟩:=r;rfl
 | flt _=>obtain⟨t,rfl⟩:=r;rfl
 | ref _=>cases r;rfl
 | ty _=>cases r;rfl
theorem VA{j pos'}(ha:PE X a ta):PC X .Is a (.Constant .none j pos') (tIsN ta):=by
 intro pins s σ H Q I h;refine thn (ha pins s σ H _ I h) λv s1 ⟨x,H1,I1,r1,q1⟩=>?_;exact Constant_none (is_none_gen ⟨.bl _,H1,I1,by rw[r1.none_iff];rfl,q1⟩)
def tB(t:TE):TT:=fun σ H Q=>t σ H λx H1=>∃c,x=.bl c/\Q c H1
theorem MH{op:CmpOp}{t:TE}(h:PC X op a b t)(h1:behindInMarks op b=false:=by first | exact VV _ (by decide) (by decide) | rfl):PT X (.Compare a [op] [b] pos) (tB t):=by
 intro pins s σ H Q I hw;refine wpAny_isTrue_Compare1 (thn (h pins s σ H _ I hw) λv s1 h1=>thn h1 λu s2 h2=>thn h2 λc s3 ⟨x,H1,I1,r1,q1⟩=>?_) h1;obtain⟨d,rfl,q⟩:=q1;cases r1;exact wpAny_truthy_bool ⟨H1,I1,q⟩
theorem xK{e:Expr}{t:TE}(h:PE X e t)(he:∀whole,isTrue e X.env whole=(do let v<-whole;standAt e.pos;holding [v] (truthy v)):=by intro _;rfl):PT X e (tB t):=by
 intro pins s σ H Q I hw;refine isTrue_plain (thn (h pins s σ H _ I hw) λv s1 ⟨x,H1,I1,r1,q1⟩=>?_) (he _);obtain⟨d,rfl,q⟩:=q1;cases r1;exact wpAny_truthy_bool ⟨H1,I1,q⟩
variable{tA tB':TT}{rest:List Expr}
def tAnd(t u:TT):TT:=fun σ H Q=>t σ H λc H1=>if c=true then u σ H1 Q else Q false H1
def tOr(t u:TT):TT:=fun σ H Q=>t σ H λc H1=>if c=true then Q true H1 else u σ H1 Q
def tNot(t:TT):TT:=fun σ H Q=>t σ H λc H1=>Q (!c) H1
theorem wU(ha:PT X a tA):PW X (.BoolOp .And [a] pos) tA:=by
 intro wh pins s σ H Q I h;refine isTrue_and (thn (ha pins s σ H Q I h) λc s1 e=>?_);cases c with
 | true=>exact isTrue_and_nil e
 | false=>exact e
theorem yQ(ha:PT X a tA):PW X (.BoolOp .Or [a] pos) tA:=by
 intro wh pins s σ H Q I h;refine isTrue_or (thn (ha pins s σ H Q I h) λc s1 e=>?_);cases c with
 | false=>exact isTrue_or_nil e
 | true=>exact e
theorem CF(ha:PT X a tA)(hb:PW X (.BoolOp .And (b::rest) pos) tB'):PW X (.BoolOp .And (a::b::rest) pos) (tAnd tA tB'):=by
 intro wh pins s σ H Q I h;refine isTrue_and (thn (ha pins s σ H _ I h) λc s1 ⟨H1,I1,q1⟩=>?_);cases c with
 | true=>exact hb wh pins s1 σ H1 Q I1 q1
 | false=>exact⟨H1,I1,q1⟩
theorem wT(ha:PT X a tA)(hb:PW X (.BoolOp .Or (b::rest) pos) tB'):PW X (.BoolOp .Or (a::b::rest) pos) (tOr tA tB'):=by
 intro wh pins s σ H Q I h;refine isTrue_or (thn (ha pins s σ H _ I h) λc s1 ⟨H1,I1,q1⟩=>?_);cases c with
 | true=>exact⟨H1,I1,q1⟩
 | false=>exact hb wh pins s1 σ H1 Q I1 q1
theorem MG(ha:PT X a tA):PT X (.UnaryOp .Not a pos) (tNot tA):=by
 intro pins s σ H Q I h;exact isTrue_not (ha pins s σ H (λc H1=>Q (!c) H1) I h)
def tAndV(ta tb:TE):TE:=fun σ H Q=>ta σ H λx H1=>∃c,x=.bl c/\if c=true then tb σ H1 Q else Q (.bl false) H1
def tOrV(ta tb:TE):TE:=fun σ H Q=>ta σ H λx H1=>∃c,x=.bl c/\if c=true then Q (.bl true) H1 else tb σ H1 Q
theorem UW{op}{t:TE}(h:PE X a t):PE X (.BoolOp op [a] pos) t:=λpins s σ H Q I hw=>BoolOp_one (h pins s σ H Q I hw)
theorem pe_and(ha:PE X a ta)(hb:PE X (.BoolOp .And (b::rest) pos) tb):PE X (.BoolOp .And (a::b::rest) pos) (tAndV ta tb):=by
 intro pins s σ H Q I h;refine BoolOp_and (thn (ha pins s σ H _ I h) λv s1 ⟨x,H1,I1,r1,q1⟩=>?_);obtain⟨c,rfl,q1⟩:=q1;cases r1;refine wpAny_truthy_bool ?_;cases c with
 | true=>exact hb pins s1 σ H1 Q I1 q1
 | false=>exact⟨.bl false,H1,I1,rfl,q1⟩
theorem pe_or(ha:PE X a ta)(hb:PE X (.BoolOp .Or (b::rest) pos) tb):PE X (.BoolOp .Or (a::b::rest) pos) (tOrV ta tb):=by
 intro pins s σ H Q I h;refine BoolOp_or (thn (ha pins s σ H _ I h) λv s1 ⟨x,H1,I1,r1,q1⟩=>?_);obtain⟨c,rfl,q1⟩:=q1;cases r1;refine wpAny_truthy_bool ?_;cases c with
 | false=>exact hb pins s1 σ H1 Q I1 q1
 | true=>exact⟨.bl true,H1,I1,rfl,q1⟩
end
def SqL(K:tJ)(H:Hp)(a:Addr)(xs:List V):Prop:=
 Rd H a (.lst xs)∨
  ∃(o:Obj) (its:Array Value) (n:Nat),K.lookup a=some o/\o.cls=.type "list"/\o.dict=none/\o.data=.seq its n/\its.size<=sizeLine/\Vals xs its.toList
def SqT(K:tJ)(H:Hp)(a:Addr)(xs:List V):Prop:=
 Rd H a (.tup xs)∨
  ∃(o:Obj) (its:Array Value) (n:Nat),K.lookup a=some o/\o.cls=.type "tuple"/\o.data=.seq its n/\its.size<=sizeLine/\Vals xs its.toList
def absV:Value->Option V
 | .none=>some .non
 | .bool b=>some (.bl b)
 | .int i _=>some (.int i)
 | .str x _=>some (.str x)
 | .bytes b _=>some (.byt b)
 | .float b _=>some (.flt b)
 | .ref a=>some (.ref a)
 | .type n=>some (.ty n)
 | _=>none
theorem RelV.abs{x:V}{u:Value}(r:RelV x u):absV u=some x:=by
 cases x with
 | non=>cases r;rfl
 | bl _=>cases r;rfl
 | int _=>obtain⟨t,rfl⟩:=r;rfl
 | str _=>obtain⟨t,rfl⟩:=r;rfl
 | byt _=>obtain⟨t,rfl⟩:=r;rfl
 | flt _=>obtain⟨t,rfl⟩:=r;rfl
 | ref _=>cases r;rfl
 | ty _=>cases r;rfl
theorem RelV.inj{x y:V}{u:Value}(r:RelV x u)(q:RelV y u):x=y:=Option.some.inj (r.abs.symm.trans q.abs)
theorem Vals.inj:∀{xs ys:List V} {us:List Value},Vals xs us->Vals ys us->xs=ys
 | _,_,_,.nil,.nil=>rfl
 | _,_,_,.cons r t,.cons r' t'=>by rw[r.inj r',Vals.inj t t']
section
variable{X:Cx}{pins:List (Addr×Obj)}{σ:St}{H:Hp}{s:Shared}{a:Addr}{xs ys:List V}
theorem SqL.of{K:tJ}(h:H a=some (.lst xs)):SqL K H a xs:=.inl (.inl h)
theorem SqT.of{K:tJ}(h:H a=some (.tup xs)):SqT K H a xs:=.inl (.inl h)
theorem Inv.list(I:Inv X pins σ H s)(h:SqL X.K H a xs):∃its:List Value,Vals xs its/\PlainL s.heap a its.toArray/\xs.length<=sizeLine:=by
 rcases h with h | ⟨o,its,n,hk,hc,hd,hs,hz,r⟩
 ·obtain⟨z,its,n,r,e⟩:=h.ok I.hok;exact⟨its,r,⟨_,n,e,rfl,rfl,rfl⟩,z⟩
 ·refine⟨its.toList,r,⟨o,n,I.kIn a o hk,hc,hd,by simpa using hs⟩, ?_⟩;have e:=r.length;simp only[Array.length_toList]at e;omega
theorem Inv.tuple(I:Inv X pins σ H s)(h:SqT X.K H a xs):∃its:List Value,Vals xs its/\IsTup s.heap a its.toArray/\xs.length<=sizeLine:=by
 rcases h with h | ⟨o,its,n,hk,hc,hs,hz,r⟩
 ·obtain⟨z,its,r,p⟩:=h.ok I.hok;exact⟨its,r,p.1,z⟩
 ·refine⟨its.toList,r,⟨o,I.kIn a o hk,hc,n,by simpa using hs⟩, ?_⟩;have e:=r.length;simp only[Array.length_toList]at e;omega
theorem Inv.list_inj(I:Inv X pins σ H s)(h:SqL X.K H a xs)(h':SqL X.K H a ys):xs=ys:=by
 obtain⟨its,r,⟨o,n,e,_,_,d⟩,_⟩:=I.list h;obtain⟨its',r',⟨o',n',e',_,_,d'⟩,_⟩:=I.list h';rw[e]at e';cases e';rw[d]at d';injection d' with d1 _
 have:its=its':=by simpa using congrArg Array.toList d1
 subst this;exact r.inj r'
theorem Inv.tuple_inj(I:Inv X pins σ H s)(h:SqT X.K H a xs)(h':SqT X.K H a ys):xs=ys:=by
 obtain⟨its,r,⟨o,e,_,n,d⟩,_⟩:=I.tuple h;obtain⟨its',r',⟨o',e',_,n',d'⟩,_⟩:=I.tuple h';rw[e]at e';cases e';rw[d]at d';injection d' with d1 _
 have:its=its':=by simpa using congrArg Array.toList d1
 subst this;exact r.inj r'
end
abbrev Cx.wish(X:Cx)(E:Value->Shared->Prop):Cx:={ X with xe:=E }
abbrev Cx.nox(X:Cx):Cx:=X.wish λ_ _=>False
theorem Cx.Ok.wish{X:Cx}(ok:X.Ok)(E:Value->Shared->Prop):(X.wish E).Ok:=
 ⟨ok.mod,ok.kind,ok.glob,ok.blt,ok.above,ok.inj,ok.has,ok.cab,ok.hd,ok.frames,ok.stk,ok.exf,ok.bs,ok.bsz,ok.noex,ok.exfs,ok.funs,ok.frf⟩
theorem Cx.Ok.unwish{X:Cx}{E:Value->Shared->Prop}(ok:(X.wish E).Ok):X.Ok:=
 ⟨ok.mod,ok.kind,ok.glob,ok.blt,ok.above,ok.inj,ok.has,ok.cab,ok.hd,ok.frames,ok.stk,ok.exf,ok.bs,ok.bsz,ok.noex,ok.exfs,ok.funs,ok.frf⟩
section
variable{X:Cx}{pins:List (Addr×Obj)}{σ:St}{H:Hp}{s:Shared}{E:Value->Shared->Prop}
theorem Inv.wish(I:Inv X pins σ H s)(E:Value->Shared->Prop):Inv (X.wish E) pins σ H s:=⟨I.ok.wish E,I.os,I.bare,I.base,I.loc,I.cell,I.free,I.freeC,I.pin,I.hok,I.len⟩
theorem Inv.unwish(I:Inv (X.wish E) pins σ H s):Inv X pins σ H s:=⟨I.ok.unwish,I.os,I.bare,I.base,I.loc,I.cell,I.free,I.freeC,I.pin,I.hok,I.len⟩
theorem SP.unwish{D:Ends}{f:Flow}{s':Shared}(h:SP (X.wish E) pins D f s'):SP X pins D f s':=by
 cases f with
 | next=>obtain⟨σ',H',I,q⟩:=h;exact⟨σ',H',I.unwish,q⟩
 | brk=>obtain⟨σ',H',I,q⟩:=h;exact⟨σ',H',I.unwish,q⟩
 | cont=>obtain⟨σ',H',I,q⟩:=h;exact⟨σ',H',I.unwish,q⟩
 | ret u=>obtain⟨v,σ',H',I,r,q⟩:=h;exact⟨v,σ',H',I.unwish,r,q⟩
theorem PSs.nox{st:List Stmt}{t:TS}(h:PSs X.nox st t):PSs X st t:=λpins s σ H D I hw=>
 tG (h pins s σ H D (I.wish _) hw) (λ_ _ q=>q.unwish) λ_ _ z=>False.elim z
end
section
variable{X:Cx}{st:Stmt}{rest:List Stmt}{t u:TS}{e:Expr}{te:TE}{pos:Pos}
def tNext:TS:=λD σ H=>D.nx σ H
def qM(t u:TS):TS:=λD σ H=>t { D with nx:=u D } σ H
theorem kA:PSs X [] tNext:=λ_ _ σ H _ I h=>wpAny_execs_nil ⟨σ,H,I,h⟩
theorem jB(h1:PS X st t)(h2:PSs X rest u):PSs X (st::rest) (qM t u):=by
 intro pins s σ H D I h;refine wpAny_execs_cons (thn (h1 pins s σ H { D with nx:=u D } I h) λf s1 q=>?_);cases f with
 | next=>
  obtain⟨σ',H',I',q⟩:=q;exact h2 pins s1 σ' H' D I' q
 | ret v=>exact q
 | brk=>exact q
 | cont=>exact q
theorem jE(h1:PS X st t):PSs X [st] t:=by
 intro pins s σ H D I h;refine wpAny_execs_cons (thn (h1 pins s σ H D I h) λf s1 q=>?_);cases f with
 | next=>exact wpAny_execs_nil q
 | ret v=>exact q
 | brk=>exact q
 | cont=>exact q
theorem Inv.quiet{pins:List (Addr×Obj)}{σ:St}{H:Hp}{s:Shared}(I:Inv X pins σ H s):interactive X.env=false:=by simp [interactive,I.ok.kind]
def tDrop(te:TE):TS:=λD σ H=>te σ H λ_ H1=>D.nx σ H1
theorem qQ(he:PE X e te)(hs:swapsWith e none pos.line X.env=pure false:=by rfl):PS X (.Expr e pos) (tDrop te):=by
 intro pins s σ H D I h;exact wpAny_Expr_any (thn (he pins s σ H _ I h) λv s1 ⟨x,H1,I1,r1,q1⟩=>⟨σ,H1,I1,q1⟩) I.quiet hs
def RE(te:TE):TS:=λD σ H=>te σ H D.rt
theorem jS(he:PE X e te):PS X (.Return (some e) pos) (RE te):=by
 intro pins s σ H D I h;exact wpAny_Return_some (thn (he pins s σ H _ I h) λv s1 ⟨x,H1,I1,r1,q1⟩=>⟨x,σ,H1,I1,r1,q1⟩)
def RF(c:TT)(t u:TS):TS:=λD σ H=>c σ H λb H1=>if b=true then t D σ H1 else u D σ H1
theorem kN{c:Expr}{a b:List Stmt}{tc:TT}(hc:PT X c tc)(ha:PSs X a t)(hb:PSs X b u):PS X (.If c a b pos) (RF tc t u):=by
 intro pins s σ H D I h;refine wpAny_If (thn (hc pins s σ H _ I h) λd s1 ⟨H1,I1,q1⟩=>?_);cases d with
 | true=>exact ha pins s1 σ H1 D I1 q1
 | false=>exact hb pins s1 σ H1 D I1 q1
def tNever:TS:=λ_ _ _=>False
theorem UR:PS X st tNever:=λ_ _ _ _ _ _ h=>h.elim
theorem vZ{sts:List Stmt} :PSs X sts tNever:=λ_ _ _ _ _ _ h=>h.elim
end
abbrev TG:=V->St->Hp->(St->Hp->Prop)->Prop
abbrev TGs:=List V->St->Hp->(St->Hp->Prop)->Prop
def PG(X:Cx)(target:Expr)(t:TG):Prop:=
 ∀(pins:List (Addr×Obj)) (s:Shared) (σ:St) (H:Hp) (v:V) (u:Value) (Q:St->Hp->Prop),Inv X pins σ H s->RelV v u->t v σ H Q->
  wpAny (model X.prog X.w) X.A (assign target X.env u) (λ_ s'=>∃σ' H',Inv X pins σ' H' s'/\Q σ' H') X.xe s
def PGs(X:Cx)(ts:List Expr)(t:TGs):Prop:=
 ∀(pins:List (Addr×Obj)) (s:Shared) (σ:St) (H:Hp) (vs:List V) (us:List Value) (Q:St->Hp->Prop),Inv X pins σ H s->Vals vs us->t vs σ H Q->
  wpAny (model X.prog X.w) X.A (assignInOrder ((assignEach ts X.env).map (·.2)) us) (λ_ s'=>∃σ' H',Inv X pins σ' H' s'/\Q σ' H') X.xe s
abbrev TSet:=V->V->V->Hp->(Hp->Prop)->Prop
def PSet(X:Cx)(t:TSet):Prop:=
 ∀(pins:List (Addr×Obj)) (s:Shared) (σ:St) (H:Hp) (o i v:V) (ov iv u:Value) (Q:Hp->Prop),Inv X pins σ H s->RelV o ov->RelV i iv->RelV v u->t o i v H Q->
  wpAny (model X.prog X.w) X.A (setItem ov iv u) (λ_ s'=>∃H',Inv X pins σ H' s'/\Q H') X.xe s
abbrev TIp:=V->V->Hp->VK->Prop
def PIp(X:Cx)(op:Operator)(t:TIp):Prop:=
 ∀(pins:List (Addr×Obj)) (s:Shared) (σ:St) (H:Hp) (x y:V) (v u:Value) (Q:VK),Inv X pins σ H s->RelV x v->RelV y u->t x y H Q->
  wpAny (model X.prog X.w) X.A (inplaceOp op v u) (EP X pins σ Q) X.xe s
section
variable{X:Cx}{pos:Pos}
def jP(i:Nat):TG:=λv σ H Q=>Q (σ.set i (some v)) H
theorem jF{i:Nat}{x:Str}(hN:X.N.Nodup)(hi:X.N[i]? = some x)(hx:Loc X.env.scope x)(hf:X.fn x=true∨X.env.scope.names.lookup x=some .local:=by first | exact .inl rfl | exact .inr rfl | assumption):PG X (.Name x pos) (jP i):=by
 intro pins s σ H v u Q I r h;exact wpAny_assign_Name (yP I hN hi hx r (λs' I'=>⟨_,H,I',h⟩) hf)
def gNil:TGs:=λvs σ H Q=>vs=[]/\Q σ H
def qI(t:TG)(u:TGs):TGs:=λvs σ H Q=>∃v r,vs=v::r/\t v σ H fun σ' H'=>u r σ' H' Q
theorem kC:PGs X [] gNil:=by
 intro pins s σ H vs us Q I r h;obtain⟨e,h⟩:=h;subst e;cases r;exact assignInOrder_nil ⟨σ,H,I,h⟩
theorem jI{e:Expr}{es:List Expr}{t:TG}{u:TGs}(h1:PG X e t)(h2:PGs X es u)
  (hs:(assignEach (e::es) X.env).map (·.2)=assign e X.env::(assignEach es X.env).map (·.2):=by rfl):PGs X (e::es) (qI t u):=by
 intro pins s σ H vs us Q I r h;obtain⟨v,vr,e1,h⟩:=h;subst e1;cases r with
 | cons r rr=>
  rw[hs];refine assignInOrder_cons (thn (h1 pins s σ H _ _ _ I r h) λ_ s1 ⟨σ1,H1,I1,q1⟩=>?_);exact h2 pins s1 σ1 H1 _ _ Q I1 rr q1
def AM(K:tJ)(n:Nat)(t:TGs):TG:=λv σ H Q=>∃a xs,v=.ref a/\SqT K H a xs/\xs.length=n/\t xs σ H Q
theorem kJ{es:List Expr}{k:Nat}{t:TGs}{n:Nat}(hc:X.calm=true)(h:PGs X es t)
  (hn:(assignEach es X.env).length=n:=by rfl) (hst:(assignEach es X.env).findIdx? (·.1)=none:=by rfl):PG X (.Tuple es k pos) (AM X.K n t):=by
 intro pins s σ H v u Q I r hw;obtain⟨a,xs,e1,hq,hl,hw⟩:=hw;subst e1;cases r;obtain⟨its,rv,ht,hz⟩:=I.tuple hq;refine assign_Tuple_tuple (I.ok.hd hc) ht (by simp [hn,<-hl,rv.length]) hst λh' hx=>?_;have I1:Inv X pins σ H { s with heap:=h' } :=I.kept (t':=s.toks) λb o e=>hx b o (nM (nJ e)) e;exact h pins _ σ H xs _ Q I1 (by simpa using rv) hw
def KU(to ti:TE)(t:TSet):TG:=λv σ H Q=>to σ H λo H1=>ti σ H1 λi H2=>t o i v H2 λH3=>Q σ H3
theorem xY{o i:Expr}{to ti:TE}{t:TSet}(ho:PE X o to)(hi:PE X i ti)(hs:PSet X t)
  (ha:∀v,assign (.Subscript o i pos) X.env v=(do
   let ov<-holding [v] (eval o X.env);let iv<-holding [v,ov] (eval i X.env)
   standAt pos
   holding [v,ov,iv] (setItem ov iv v)
   release [v,ov,iv] []):=by intro _;rfl):PG X (.Subscript o i pos) (KU to ti t):=by
 intro pins s σ H v u Q I r h;rw[ha];refine tE (wpAny_holding (thn (ho pins s σ H _ I h) λov s1 ⟨x,H1,I1,r1,q1⟩=>?_));refine tE (wpAny_holding (thn (hi pins s1 σ H1 _ I1 q1) λiv s2 ⟨y,H2,I2,r2,q2⟩=>?_));refine tE (wpAny_standAt (tE (wpAny_holding (thn (hs pins s2 σ H2 x y v ov iv u _ I2 r1 r2 r q2) λ_ s3 ⟨H3,I3,q3⟩=>?_))));exact wpAny_release ⟨σ,H3,I3,q3⟩
def xO(te:TE)(g:TG):TS:=λD σ H=>te σ H λx H1=>g x σ H1 D.nx
theorem kU{tg e:Expr}{te:TE}{g:TG}(he:PE X e te)(hg:PG X tg g)(hs:swapsWithSole [tg] e pos.line X.env=pure false:=by rfl)(hw:swappedStores [tg] e X.env=pure none:=by rfl)
  (h1:(assignEach [tg] X.env).map (·.2)=[assign tg X.env]:=by rfl):PS X (.Assign [tg] e pos) (xO te g):=by
 intro pins s σ H D I h;refine wpAny_Assign_stores (thn (he pins s σ H _ I h) λv s1 ⟨x,H1,I1,r1,q1⟩=>?_) hs hw;rw[h1];exact thn (hg pins s1 σ H1 x v _ I1 r1 q1) λ_ s2 q=>q
theorem jN{i:Nat}{x:Str}{e:Expr}{te:TE}{pos':Pos}(hN:X.N.Nodup)(hi:X.N[i]? = some x)(hx:Loc X.env.scope x)(he:PE X e te)(hs:swapsWith e (some (.Name x pos')) pos.line X.env=pure false:=by rfl)(hf:X.fn x=true∨X.env.scope.names.lookup x=some .local:=by first | exact .inl rfl | exact .inr rfl | assumption) :
  PS X (.Assign [.Name x pos'] e pos) (xO te (jP i)):=by
 intro pins s σ H D I h;refine wpAny_Assign_Name (thn (he pins s σ H _ I h) λv s1 ⟨y,H1,I1,r1,q1⟩=>?_) hs;exact yP I1 hN hi hx r1 (λs2 I2=>⟨_,H1,I2,q1⟩) hf
def tPar(i j:Nat)(ta:TA):TS:=λD σ H=>ta σ H λvs H1=>∃v w,vs=[v,w]/\D.nx ((σ.set i (some v)).set j (some w)) H1
theorem CH{i j:Nat}{x y:Str}{a b:Expr}{ta:TA}{px py pt:Pos}{kt k2 pt2}(hc:X.calm=true)(hN:X.N.Nodup)(hi:X.N[i]? = some x)(hj:X.N[j]? = some y)(hij:i≠j)
  (hx:X.env.scope.names.lookup x=some .local) (hy:X.env.scope.names.lookup y=some .local) (ha:PA X [a,b] ta)
  (hw:swappedStores [.Tuple [.Name x px,.Name y py] kt pt] (.Tuple [a,b] k2 pt2) X.env=pure (some [x,y]))
  (hs:swapsWithSole [.Tuple [.Name x px,.Name y py] kt pt] (.Tuple [a,b] k2 pt2) pos.line X.env=pure false:=by rfl) :
  PS X (.Assign [.Tuple [.Name x px,.Name y py] kt pt] (.Tuple [a,b] k2 pt2) pos) (tPar i j ta):=by
 intro pins s σ H D I h;rw[exec_Assign_arm];refine tE (wpAny_standAt ?_);rw[hs];refine tE (tF ?_);rw[tH (by decide)];refine tE (Tuple_ (thn (ha _ pins s σ H _ I h) λus s1 ⟨vs,H1,I1,r1,q1⟩=>?_));obtain⟨v,w,e1,q1⟩:=q1;subst e1;obtain⟨u1,u2,rfl,rv,rw'⟩:∃u1 u2,us=[u1,u2]/\RelV v u1/\RelV w u2:=by
  cases r1 with
  | cons p q=>
   cases q with
   | cons p' q'=>
    cases q';exact⟨_,_,rfl,p,p'⟩
 refine wpAny_newObj_type ?_ uQ ;have I2:Inv X pins σ H1 { s1 with heap:=s1.heap.push { cls:=.type "tuple",data:=.seq [u1,u2].toArray } } :=I1.kept (t':=s1.toks) λb o e=>uZ _ e;rw[hw];refine tE (tF ?_);show wpAny (model X.prog X.w) X.A (do rule "assign.swapped-stores";let items<-unpackItems (.ref s1.heap.objs.size) 2 none;assignInOrder [λv=>bindName X.env y v,λv=>bindName X.env x v] items.reverse;pure Flow.next) _ _ _;refine tE (wpAny_rule (tE (unpackItems_tuple (items:=#[u1,u2]) (I.ok.hd hc) (IsTup.new s1.heap _) λh' hx'=>?_)));have I3:=I2.kept (h':=h') (t':=s1.toks) λb o e=>hx' b o (nM (nJ e)) e;show wpAny _ _ (assignInOrder [λv=>bindName X.env y v,λv=>bindName X.env x v] [u2,u1] >>= λ_=>pure Flow.next) _ _ _;refine tE (assignInOrder_cons (wpAny_bindName (yP I3 hN hj (.inl hy) rw' (λs2 I4=>?_) (.inr hy))));refine assignInOrder_cons (wpAny_bindName (yP I4 hN hi (.inl hx) rv (λs3 I5=>assignInOrder_nil (tF ?_)) (.inr hx)));rw[List.set_comm _ _ (Ne.symm hij)]at I5;exact⟨_,H1,I5,q1⟩
def tAug(i:Nat)(te:TE)(ti:TIp):TS:=λD σ H=>∃x,σ[i]? = some (some x)/\te σ H λy H1=>ti x y H1 λz H2=>D.nx (σ.set i (some z)) H2
theorem ps_aug{i:Nat}{x:Str}{e:Expr}{te:TE}{op:Operator}{ti:TIp}{pos':Pos}(hN:X.N.Nodup)(hi:X.N[i]? = some x)(hx:Loc X.env.scope x)(he:PE X e te)(ho:PIp X op ti)(hf:X.fn x=true∨X.env.scope.names.lookup x=some .local:=by first | exact .inl rfl | exact .inr rfl | assumption) :
  PS X (.AugAssign (.Name x pos') op e pos) (tAug i te ti):=by
 intro pins s σ H D I h;obtain⟨v,e1,h⟩:=h;obtain⟨m,hn,hl⟩:=I.loc;have vis:Vis X.env.scope x:=by rcases hx with k | k;exact .inl k;exact .inr (.inl k)
 obtain⟨u,r,l⟩:=hl i x v hi e1 vis;refine wpAny_AugAssign_Name ?_;have go:wpAny (model X.prog X.w) X.A (eval e X.env) (λw s₂=>wpAny (model X.prog X.w) X.A (inplaceOp op u w) (λr s₃=>wpAny (model X.prog X.w) X.A (storeName X.env x r) (λ_=>SP X pins D .next) X.xe s₃) X.xe s₂) X.xe s:=by
  refine thn (he pins s σ H _ I h) λw s1 ⟨y,H1,I1,r1,q1⟩=>?_;refine thn (ho pins s1 σ H1 v y u w _ I1 r r1 q1) λz s2 ⟨zv,H2,I2,r2,q2⟩=>?_;exact yP I2 hN hi hx r2 (λs3 I3=>⟨_,H2,I3,q2⟩) hf
 rcases l with⟨hk,hm⟩ | ⟨hk,c,hc,hcell⟩
 ·exact wpAny_loadName_local I.ok.kind hk hn hm go
 ·rcases hk with hk | hk
  ·exact wpAny_loadName_cell I.ok.kind hk hc hcell go
  ·rcases hx with k | k
   ·have:X.env.scope.names.lookup x=some .free:=hk;rw[k]at this;cases this
   ·have:X.env.scope.names.lookup x=some .free:=hk;rw[k]at this;cases this
end
section
variable{X:Cx}{pos:Pos}
def LV(c:TT)(tb:TS):TS:=λD σ H=>∃W:Nat->St->Hp->Prop,(∃m,W m σ H)/\∀m σ H,W m σ H->
 c σ H λb H1=>if b=true then ∃N:St->Hp->Prop,(∀σ' H',N σ' H'->∃m',m'<m/\W m' σ' H')/\tb { D with nx:=N,ct:=N,bk:=D.nx } σ H1 else D.nx σ H1
theorem yR{c:Expr}{body:List Stmt}{tc:TT}{tb:TS}(hp:PassesOwn (model X.prog X.w) X.A X.env X.xe)(hc:PT X c tc)(hb:PSs X body tb):PS X (.While c body [] pos) (LV tc tb):=by
 intro pins s σ H D I h;obtain⟨W,⟨m0,w0⟩,turn⟩:=h;refine wpAny_While (codeAny_whileLoop (λn s'=>∃σ' H',Inv X pins σ' H' s'/\W n σ' H') ?_ m0 ⟨σ,H,I,w0⟩);rintro n s1 ⟨σ1,H1,I1,w1⟩;refine wpAny_passesOwn hp (thn (hc pins s1 σ1 H1 _ I1 (turn n σ1 H1 w1)) λb s2 ⟨H2,I2,q2⟩=>?_);cases b with
 | true=>
  obtain⟨N,hN,q2⟩:=q2;rw[tI rfl];refine wpAny_passesOwn hp (thn (hb pins s2 σ1 H2 _ I2 q2) λf s3 q3=>?_);cases f with
  | next=>
   obtain⟨σ3,H3,I3,n3⟩:=q3;obtain⟨m',hm,w3⟩:=hN σ3 H3 n3;exact⟨m',hm,σ3,H3,I3,w3⟩
  | cont=>
   obtain⟨σ3,H3,I3,n3⟩:=q3;obtain⟨m',hm,w3⟩:=hN σ3 H3 n3;exact⟨m',hm,σ3,H3,I3,w3⟩
  | brk=>exact q3
  | ret v=>exact q3
 | false=>
  rw[tH gT];exact wpAny_execs_nil ⟨σ1,H2,I2,q2⟩
end
structure It where
 go:Nat->Hp->Prop
 yld:Nat->Hp->V->Hp->Prop
 stop:Nat->Hp->Prop
def FpOk(X:Cx)(pins:List (Addr×Obj))(H:Hp)(b:Addr):Prop:=
 H b=none/\b≠X.env.locals/\b∉X.fs/\(b∈X.ex∨X.s₀.heap.objs.size<=b)/\(∀x c,X.env.cells.lookup x=some c->c≠b)/\∀p∈X.pn++pins,p.1≠b
theorem Inv.fpOk{X:Cx}{pins:List (Addr×Obj)}{σ:St}{H H':Hp}{s:Shared}{b:Addr}(I:Inv X pins σ H s)(hb:s.heap.objs.size<=b)(hn:H' b=none):FpOk X pins H' b:=by
 refine⟨hn,Nat.ne_of_gt (gU I.lt hb),I.nofs hb,.inr (nK I.sz hb),λx c e z=>?_,λp hp z=>?_⟩
 ·obtain⟨v,q⟩:=I.cell x c e;exact absurd (gU q.lt (by rw[z];exact hb)) (nH _)
 ·exact absurd (gU (nJ (I.pin p hp).1) (by rw[z];exact hb)) (nH _)
structure Turn(P:Program)(w:World)(K:tJ)(tg:Expr)(J:It)(fp:List Addr)(it:Addr)(tn:Nat->Heap->Prop):Prop where
 mem:it∈fp
 obj:∀i h,tn i h->∀b∈fp,∃o,h.get? b=some o/\∀v,o.data≠.cell v
 keep:∀i h h',tn i h->(∀b∈fp,∀o,h.get? b=some o->h'.get? b=some o)->tn i h'
 item:∀(X:Cx),X.prog=P->X.w=w->X.K=K->X.calm=true->∀(i:Nat) (pins:List (Addr×Obj)) (s:Shared) (σ:St) (H:Hp) (E:Value->Shared->Prop),Inv X pins σ H s->(∀b∈fp,FpOk X pins H b)->tn i s.heap->J.go i H->
  wpAny (model P w) X.A (pyNext (.ref it)) (λr s1=>∃u,r=some u/\
   wpAny (model P w) X.A (letOwnedTupleGo tg (.ref it) u) (λ_ s2=>∃x H',Inv X pins σ H' s2/\RelV x u/\J.yld i H x H'/\tn (i+1) s2.heap/\∀b∈fp,H' b=none) E s1) E s
 done:∀(X:Cx),X.prog=P->X.w=w->X.K=K->X.calm=true->∀(i:Nat) (pins:List (Addr×Obj)) (s:Shared) (σ:St) (H:Hp) (E:Value->Shared->Prop),Inv X pins σ H s->(∀b∈fp,FpOk X pins H b)->tn i s.heap->J.stop i H->
  wpAny (model P w) X.A (pyNext (.ref it)) (λr s1=>r=none/\Inv X pins σ H s1) E s
 self:∀(A:Around) (i:Nat) (s:Shared) (Q:Value->Shared->Prop) (E:Value->Shared->Prop),tn i s.heap->Q (.ref it) s->wpAny (model P w) A (pyIter (.ref it)) Q E s
abbrev TI:=St->Hp->(It->Hp->Prop)->Prop
def PIE(X:Cx)(pins:List (Addr×Obj))(σ:St)(tg:Expr)(R:It->Hp->Prop)(itv:Value)(s2:Shared):Prop:=
 ∃(it:Addr) (fp:List Addr) (tn:Nat->Heap->Prop) (J:It) (H':Hp),itv=.ref it/\Inv X pins σ H' s2/\Turn X.prog X.w X.K tg J fp it tn/\tn 0 s2.heap/\(∀b∈fp,FpOk X pins H' b)/\R J H'
def PI(X:Cx)(tg iter:Expr)(wi:TI):Prop:=
 ∀(pins:List (Addr×Obj)) (s:Shared) (σ:St) (H:Hp) (R:It->Hp->Prop),Inv X pins σ H s->wi σ H R->
  wpAny (model X.prog X.w) X.A (eval iter X.env) (λv s1=>wpAny (model X.prog X.w) X.A (pyIter v) (PIE X pins σ tg R) X.xe s1) X.xe s
theorem PV{M:Model}{A:Around}{E:Value->Shared->Prop}{s:Shared}{tg:Expr}{it:Addr}{u:Value}{o:Obj}{n:String}{vs:Array Value}{Q:Unit->Shared->Prop}(ho:s.heap.get? it=some o)(hc:o.cls=.type n)(hd:o.data=.fields vs)
  (hn:["enumerate","zip","dict_itemiterator","dict_reverseitemiterator","odict_iterator","itertools.zip_longest","itertools.pairwise"].contains n=false) (hQ:Q () s):wpAny M A (letOwnedTupleGo tg (.ref it) u) Q E s:=by
 unfold letOwnedTupleGo;cases tg<;>first
  | exact tF hQ
  | (cases u<;>first
    | exact tF hQ
    | (refine tE (wpAny_load ho ?_);rw[hc,hd];show wpAny M A (if (["enumerate","zip","dict_itemiterator","dict_reverseitemiterator","odict_iterator","itertools.zip_longest","itertools.pairwise"].contains n&&vs[0]? ==some (rawInt _))=true then _ else _) Q E s;rw[tH (by intro h;rw[hn,Bool.false_and]at h;cases h)];exact tF hQ))
def Itl(K:tJ)(a:Addr):It:=
 ⟨λi H=>∃xs x,SqL K H a xs/\xs[i]? = some x,λi H x H'=>H'=H/\∀xs,SqL K H a xs->xs[i]? = some x,λi H=>∃xs,SqL K H a xs/\xs.length<=i⟩
def Itt(K:tJ)(a:Addr):It:=
 ⟨λi H=>∃xs x,SqT K H a xs/\xs[i]? = some x,λi H x H'=>H'=H/\∀xs,SqT K H a xs->xs[i]? = some x,λi H=>∃xs,SqT K H a xs/\xs.length<=i⟩
def Itr(lo:Int)(n:Nat):It:=⟨λi _=>i<n,λi H x H'=>H'=H/\x=.int (lo+i),λi _=>n<=i⟩
theorem RB{P:Program}{w:World}{K:tJ}{tg:Expr}(a it:Addr):Turn P w K tg (Itl K a) [it] it (λi h=>h.IsListIter it a i) where
 mem:=by simp
 obj:=λi h st b hb=>by
  have e:b=it:=by simpa using hb
  subst e;obtain⟨o,e,c,d⟩:=st;exact⟨o,e,λv z=>by rw[d]at z;cases z⟩
 keep:=λi h h' st k=>st.at λo e=>k it (by simp) o e
 item:=by
  intro X hP hw hK hc i pins s σ H E I hf st hg;subst hP hw hK;obtain⟨xs,x,hq,hx⟩:=hg;obtain⟨its,rv,p,hz⟩:=I.list hq;obtain⟨u,hu,ru⟩:=rv.get hx;obtain⟨f0,f1,f2,f3,f4,f5⟩:=hf it (by simp);refine wpAny_pyNext_list_item st p.isList (x:=u) (by simpa using hu) λh' st' sb=>?_;have I1:Inv X pins σ H { s with heap:=h' } :=I.turned (t':=s.toks) (λb o hb e=>(sb.2 b hb).trans e) f0 f1 f3 f4 f5;obtain⟨o,e,c,d⟩:=id st';exact⟨u,rfl,PV (s:={ s with heap:=h' }) e c d (by decide) ⟨x,H,I1,ru,⟨rfl,λys hy=>by rw[I.list_inj hy hq];exact hx⟩,st',λb hb=>(hf b hb).1⟩⟩
 done:=by
  intro X hP hw hK hc i pins s σ H E I hf st hg;subst hP hw hK;obtain⟨xs,hq,hx⟩:=hg;obtain⟨its,rv,p,hz⟩:=I.list hq;obtain⟨f0,f1,f2,f3,f4,f5⟩:=hf it (by simp);have hl:=rv.length;exact wpAny_pyNext_list_end (I.ok.hd hc) st p.isList (by simp;omega) λh' eb=>⟨rfl,I.turned (t':=s.toks) (λb o hb e=>eb b o hb e) f0 f1 f3 f4 f5⟩
 self:=λ_ _ _ _ _ st h=>wpAny_pyIter_listiter st h
theorem LQ{P:Program}{w:World}{K:tJ}{tg:Expr}(a it:Addr):Turn P w K tg (Itt K a) [it] it (λi h=>h.IsTupleIter it a i) where
 mem:=by simp
 obj:=λi h st b hb=>by
  have e:b=it:=by simpa using hb
  subst e;obtain⟨o,e,c,d⟩:=st;exact⟨o,e,λv z=>by rw[d]at z;cases z⟩
 keep:=λi h h' st k=>st.at λo e=>k it (by simp) o e
 item:=by
  intro X hP hw hK hc i pins s σ H E I hf st hg;subst hP hw hK;obtain⟨xs,x,hq,hx⟩:=hg;obtain⟨its,rv,p,hz⟩:=I.tuple hq;obtain⟨u,hu,ru⟩:=rv.get hx;obtain⟨f0,f1,f2,f3,f4,f5⟩:=hf it (by simp);refine wpAny_pyNext_tuple_item st (show s.heap.IsTuple a its.toArray from p) (x:=u) (by simpa using hu) λh' st' sb=>?_;have I1:Inv X pins σ H { s with heap:=h' } :=I.turned (t':=s.toks) (λb o hb e=>(sb.2 b hb).trans e) f0 f1 f3 f4 f5;obtain⟨o,e,c,d⟩:=id st';exact⟨u,rfl,PV (s:={ s with heap:=h' }) e c d (by decide) ⟨x,H,I1,ru,⟨rfl,λys hy=>by rw[I.tuple_inj hy hq];exact hx⟩,st',λb hb=>(hf b hb).1⟩⟩
 done:=by
  intro X hP hw hK hc i pins s σ H E I hf st hg;subst hP hw hK;obtain⟨xs,hq,hx⟩:=hg;obtain⟨its,rv,p,hz⟩:=I.tuple hq;obtain⟨f0,f1,f2,f3,f4,f5⟩:=hf it (by simp);have hl:=rv.length;exact wpAny_pyNext_tuple_end (I.ok.hd hc) st (show s.heap.IsTuple a its.toArray from p) (by simp;omega) λh' eb=>⟨rfl,I.turned (t':=s.toks) (λb o hb e=>eb b o hb e) f0 f1 f3 f4 f5⟩
 self:=λ_ _ _ _ _ st h=>wpAny_pyIter_tupleiter st h
theorem LR{P:Program}{w:World}{K:tJ}{tg:Expr}(it:Addr)(lo:Int)(n:Nat):Turn P w K tg (Itr lo n) [it] it (λi h=>IsRangeIter h it (lo+(i:Nat)*1) ((n:Int)-(i:Nat)) 1) where
 mem:=by simp
 obj:=λi h st b hb=>by
  have e:b=it:=by simpa using hb
  subst e;exact⟨_,st,λv z=>by
   have z':Data.fields _=Data.cell v:=z;cases z'⟩
 keep:=λi h h' st k=>k it (by simp) _ st
 item:=by
  intro X hP hw hK hc i pins s σ H E I hf st hg;subst hP hw hK;obtain⟨f0,f1,f2,f3,f4,f5⟩:=hf it (by simp);have W:=Walks.range (prog:=X.prog) (w:=X.w) (I.ok.hd hc) it lo 1 n;refine W.item i s _ _ hg st λv h' tk hv st' kk=>?_;obtain⟨t,rfl⟩:=hv;have I1:Inv X pins σ H { s with heap:=h',toks:=tk } :=I.turned (λb o hb e=>kk b o (by simpa using hb) e) f0 f1 f3 f4 f5;refine⟨_,rfl,PV (s:={ s with heap:=h',toks:=tk }) (n:="range_iterator") st' rfl rfl (by decide) ⟨.int (lo+i),H,I1,⟨t, ?_⟩,⟨rfl,rfl⟩,st',λb hb=>(hf b hb).1⟩⟩;rw[Int.mul_one]
 done:=by
  intro X hP hw hK hc i pins s σ H E I hf st hg;subst hP hw hK;obtain⟨f0,f1,f2,f3,f4,f5⟩:=hf it (by simp);exact wpAny_pyNext_range_end (I.ok.hd hc) st (by have:n<=i:=hg;omega) λh' eb=>⟨rfl,I.turned (t':=s.toks) (λb o hb e=>eb b o hb e) f0 f1 f3 f4 f5⟩
 self:=λ_ _ _ _ _ st h=>wpAny_pyIter_rangeiter st h
section
variable{X:Cx}{tg:Expr}
def iList(K:tJ)(tl:TE):TI:=fun σ H R=>tl σ H λx H1=>∃a,x=.ref a/\(∃xs,SqL K H1 a xs)/\R (Itl K a) H1
def iTup(K:tJ)(tl:TE):TI:=fun σ H R=>tl σ H λx H1=>∃a,x=.ref a/\(∃xs,SqT K H1 a xs)/\R (Itt K a) H1
theorem kZ{l:Expr}{tl:TE}(hl:PE X l tl):PI X tg l (iList X.K tl):=by
 intro pins s σ H R I h;refine thn (hl pins s σ H _ I h) λv s1 ⟨x,H1,I1,r1,q1⟩=>?_;obtain⟨a,e,⟨xs,hq⟩,q⟩:=q1;subst e;cases r1;obtain⟨its,rv,p,hz⟩:=I1.list hq;refine wpAny_pyIter_list p.isList ?_;refine⟨s1.heap.objs.size,[s1.heap.objs.size],_,_,H1,rfl,I1.kept (t':=s1.toks) λb o e=>uZ _ e,RB a _,⟨_,gO _ rfl,rfl,rfl⟩,λb hb=>?_,q⟩;have e:b=s1.heap.objs.size:=by simpa using hb
 subst e;exact I1.fpOk uO (I1.hok.fresh uO)
theorem HL{l:Expr}{tl:TE}(hl:PE X l tl):PI X tg l (iTup X.K tl):=by
 intro pins s σ H R I h;refine thn (hl pins s σ H _ I h) λv s1 ⟨x,H1,I1,r1,q1⟩=>?_;obtain⟨a,e,⟨xs,hq⟩,q⟩:=q1;subst e;cases r1;obtain⟨its,rv,p,hz⟩:=I1.tuple hq;refine wpAny_pyIter_tuple (show s1.heap.IsTuple a its.toArray from p) ?_;refine⟨s1.heap.objs.size,[s1.heap.objs.size],_,_,H1,rfl,I1.kept (t':=s1.toks) λb o e=>uZ _ e,LQ a _,⟨_,gO _ rfl,rfl,rfl⟩,λb hb=>?_,q⟩;have e:b=s1.heap.objs.size:=by simpa using hb
 subst e;exact I1.fpOk uO (I1.hok.fresh uO)
theorem JG{pins:List (Addr×Obj)}{σ:St}{H:Hp}{s:Shared}{R:It->Hp->Prop}{E:Value->Shared->Prop}{lo hi:Int}{t u v:Tok}{tk:Nat}(I:Inv X pins σ H s)(h1: -(2^62)<=lo)(h2:lo<2^62)(h3: -(2^62)<=hi)(h4:hi<2^62)
  (q:R (Itr lo (hi-lo).toNat) H):wpAny (model X.prog X.w) X.A (pyIter (.ref s.heap.objs.size)) (PIE X pins σ tg R) E { s with heap:=s.heap.push { cls:=.type "range",data:=.fields #[.int lo t,.int hi u,.int 1 v] },toks:=tk } :=by
 refine wpAny_pyIter_range (IsRange.new ..) (small_one h1 h2 h3 h4) ?_;have I1:Inv X pins σ H { s with heap:=s.heap.push { cls:=.type "range",data:=.fields #[.int lo t,.int hi u,.int 1 v] },toks:=tk } :=I.kept λb o e=>uZ _ e;refine⟨(s.heap.push { cls:=.type "range",data:=.fields #[.int lo t,.int hi u,.int 1 v] }).objs.size,[(s.heap.push { cls:=.type "range",data:=.fields #[.int lo t,.int hi u,.int 1 v] }).objs.size],_,_,H,rfl,
  I1.kept (t':=tk) λb o e=>uZ _ e,LR _ lo (hi-lo).toNat, ?_,λb hb=>?_,q⟩
 ·have e1:lo+((0:Nat):Int)*1=lo:=by simp
  have e2:(((hi-lo).toNat:Nat):Int)-((0:Nat):Int)=Builtin.Range.rangeSize lo hi 1:=by rw[rangeSize_one];split<;>omega
  show IsRangeIter _ _ (lo+((0:Nat):Int)*1) ((((hi-lo).toNat:Nat):Int)-((0:Nat):Int)) 1;rw[e1,e2];exact gO _ rfl
 ·have e:b=(s.heap.push { cls:=.type "range",data:=.fields #[.int lo t,.int hi u,.int 1 v] }).objs.size:=by simpa using hb
  subst e;exact I1.fpOk uO (I1.hok.fresh uO)
def iRng1(ta:TA):TI:=fun σ H R=>ta σ H λvs H1=>∃j:Int,vs=[.int j]/\-(2^62)<=j/\j<2^62/\R (Itr 0 j.toNat) H1
def iRng2(ta:TA):TI:=fun σ H R=>ta σ H λvs H1=>∃i j:Int,vs=[.int i,.int j]/\(-(2^62)<=i/\i<2^62/\-(2^62)<=j/\j<2^62)/\R (Itr i (j-i).toNat) H1
theorem kQ{a:Expr}{ta:TA}{p pos:Pos}(hg:Gl X "range")(hm:X.mg "range" = none)(ha:PA X [a] ta)(hs:starEach [a] X.env=[(false,eval a X.env)]:=by rfl):PI X tg (.Call (.Name "range" p) [a] [] pos) (iRng1 ta):=by
 intro pins s σ H R I h;refine Call_ (xB I hg hm boot_range (PyProof.Rows.callWith_type1 (thn (ha pos pins s σ H _ I h) λus s1 ⟨vs,H1,I1,r1,q1⟩=>?_) hs rfl));obtain⟨j,e,q1,q2,q⟩:=q1;subst e;cases r1 with
 | cons r rr=>
  cases rr;obtain⟨t,rfl⟩:=r;exact call_range_1 (JG I1 (by omega) (by omega) q1 q2 (by simpa using q))
theorem RV{a b:Expr}{ta:TA}{p pos:Pos}(hg:Gl X "range")(hm:X.mg "range" = none)(ha:PA X [a,b] ta)(hs:starEach [a,b] X.env=[(false,eval a X.env),(false,eval b X.env)]:=by rfl)(hs2:starEach [b] X.env=[(false,eval b X.env)]:=by rfl) :
  PI X tg (.Call (.Name "range" p) [a,b] [] pos) (iRng2 ta):=by
 intro pins s σ H R I h;refine Call_ (xB I hg hm boot_range (PyProof.Rows.callWith_type1 (thn (ha pos pins s σ H _ I h) λus s1 ⟨vs,H1,I1,r1,q1⟩=>?_) (by rw[hs,hs2]) (by rw[hs2];rfl)));obtain⟨i,j,e,⟨q1,q2,q3,q4⟩,q⟩:=q1;subst e;cases r1 with
 | cons r rr=>
  cases rr with
  | cons r' rr=>
   cases rr;obtain⟨t,rfl⟩:=r;obtain⟨t',rfl⟩:=r';exact call_range_2 (JG I1 q1 q2 q3 q4 q)
def tFor(wi:TI)(g:TG)(tb:TS):TS:=λD σ H=>wi σ H λJ H1=>∃W:Nat->Nat->St->Hp->Prop,(∃m,W 0 m σ H1)/\∀i m σ H,W i m σ H->
 (J.stop i H/\D.nx σ H)∨(J.go i H/\∃N:St->Hp->Prop,(∀σ' H',N σ' H'->∃m',m'<m/\W (i+1) m' σ' H')/\∀x H',J.yld i H x H'->g x σ H' fun σ2 H2=>tb { D with nx:=N,ct:=N,bk:=D.nx } σ2 H2)
def CI(fp:List Addr)(h:Heap):List (Addr×Obj):=fp.filterMap λb=>(h.get? b).map λo=>(b,o)
theorem kG{fp:List Addr}{h:Heap}{b:Addr}{o:Obj}(hb:b∈fp)(e:h.get? b=some o):(b,o)∈CI fp h:=List.mem_filterMap.mpr ⟨b,hb,by rw[e];rfl⟩
theorem SF{fp:List Addr}{h:Heap}{p:Addr×Obj}(hp:p∈CI fp h):p.1∈fp/\h.get? p.1=some p.2:=by
 obtain⟨b,hb,e⟩:=List.mem_filterMap.mp hp;cases q:h.get? b with
 | none=>rw[q]at e;cases e
 | some o=>
  rw[q]at e;have e':(b,o)=p:=Option.some.inj e;subst e';exact⟨hb,q⟩
theorem Inv.pinned{pins:List (Addr×Obj)}{σ:St}{H:Hp}{s:Shared}{fp:List Addr}(I:Inv X pins σ H s)(hf:∀b∈fp,FpOk X pins H b)(ho:∀b∈fp,∃o,s.heap.get? b=some o/\∀v,o.data≠.cell v):Inv X (pins++CI fp s.heap) σ H s:=
 I.pins_of λp hp=>(mS.mp hp).elim (λz=>I.pin p (gB _ z)) λz=>by
  obtain⟨hb,e⟩:=SF z;obtain⟨f0,f1,f2,_⟩:=hf p.1 hb;obtain⟨o,e',d⟩:=ho p.1 hb;rw[e]at e';cases e';exact⟨e,f0,f1,f2,d⟩
theorem Inv.unpinned{pins pl:List (Addr×Obj)}{σ:St}{H:Hp}{s:Shared}(I:Inv X (pins++pl) σ H s):Inv X pins σ H s:=I.pins_of λp hp=>I.pin p (gB _ (List.mem_append_left _ hp))
theorem kO{iter:Expr}{body:List Stmt}{wi:TI}{g:TG}{tb:TS}{pos:Pos}(hp:PassesOwn (model X.prog X.w) X.A X.env X.xe)(hc:X.calm=true)(hi:PI X tg iter wi)(hg:PG X tg g)(hb:PSs X body tb)
  (hs:∀x,foldedSetIterable iter X.env x=pure x:=by intro _;rfl):PS X (.For tg iter body [] pos) (tFor wi g tb):=by
 intro pins s σ H D I h;refine wpAny_For (thn (hi pins s σ H _ I h) λv s1 h1=>thn h1 λitv s2 h2=>?_) hs;obtain⟨it,fp,tn,J,H2,e,I2,T,st2,f2,W,⟨m0,w0⟩,turn⟩:=h2;subst e;have stat:∀{H':Hp},(∀b∈fp,H' b=none)->∀b∈fp,FpOk X pins H' b:=λhn b hb=>⟨hn b hb,(f2 b hb).2⟩;refine codeAny_forLoop_any (λn s'=>∃i σ' H',Inv X pins σ' H' s'/\tn i s'.heap/\(∀b∈fp,H' b=none)/\W i n σ' H') ?_ m0 ⟨0,σ,H2,I2,st2,λb hb=>(f2 b hb).1,w0⟩;rintro n s3 ⟨i,σ3,H3,I3,st3,fr3,w3⟩;rcases turn i n σ3 H3 w3 with⟨stop,qn⟩ | ⟨go,N,hN,step⟩
 ·refine wpAny_passesOwn hp (thn (T.done X rfl rfl rfl hc i pins s3 σ3 H3 X.xe I3 (stat fr3) st3 stop) λr s4 ⟨hr,I4⟩=>?_);subst hr;exact wpAny_execs_nil ⟨σ3,H3,I4,qn⟩
 ·refine wpAny_passesOwn hp (thn (T.item X rfl rfl rfl hc i pins s3 σ3 H3 X.xe I3 (stat fr3) st3 go) λr s4 ⟨u,hr,h4⟩=>?_);subst hr;refine wpAny_passesOwn hp (thn h4 λ_ s5 ⟨x,H5,I5,r5,y5,st5,fr5⟩=>?_);have I5':=I5.pinned (stat fr5) (T.obj _ _ st5);refine wpAny_passesOwn hp (thn (hg _ s5 σ3 H5 x u _ I5' r5 (step x H5 y5)) λ_ s6 ⟨σ6,H6,I6,q6⟩=>?_);refine wpAny_passesOwn hp (thn (hb _ s6 σ6 H6 _ I6 q6) λf s7 q7=>?_);have again:∀{σ7:St} {H7:Hp},Inv X (pins++CI fp s5.heap) σ7 H7 s7->N σ7 H7->∃m,m<n/\∃i σ' H',Inv X pins σ' H' s7/\tn i s7.heap/\(∀b∈fp,H' b=none)/\W i m σ' H':=fun {σ7 H7} I7 n7=>by
   obtain⟨m',hm,w7⟩:=hN σ7 H7 n7;refine⟨m',hm,i+1,σ7,H7,I7.unpinned,T.keep _ _ _ st5 λb hb o e=>(I7.pin (b,o) (gB _ (gB _ (kG hb e)))).1,λb hb=>?_,w7⟩;obtain⟨o,e,d⟩:=T.obj _ _ st5 b hb;exact(I7.pin (b,o) (gB _ (gB _ (kG hb e)))).2.1
  cases f with
  | next=>obtain⟨σ7,H7,I7,n7⟩:=q7;exact again I7 n7
  | cont=>obtain⟨σ7,H7,I7,n7⟩:=q7;exact again I7 n7
  | brk=>obtain⟨σ7,H7,I7,q7⟩:=q7;exact⟨σ7,H7,I7.unpinned,q7⟩
  | ret v=>obtain⟨x7,σ7,H7,I7,r7,q7⟩:=q7;exact⟨x7,σ7,H7,I7.unpinned,r7,q7⟩
end
theorem qT{K:tJ}{a:Addr}{xs:List V}{g:TG}{tb:TS}{D:Ends}{σ:St}{H:Hp}(Pv:Nat->St->Hp->Prop)(h0:Pv 0 σ H)(hl:∀i σ H,i<=xs.length->Pv i σ H->SqL K H a xs)
  (hs:∀i x σ H,xs[i]? = some x->Pv i σ H->g x σ H fun σ2 H2=>tb { D with nx:=Pv (i+1),ct:=Pv (i+1),bk:=D.nx } σ2 H2) (hd:∀σ H,Pv xs.length σ H->D.nx σ H) :
  ∃W:Nat->Nat->St->Hp->Prop,(∃m,W 0 m σ H)/\∀i m σ H,W i m σ H->
   ((Itl K a).stop i H/\D.nx σ H)∨((Itl K a).go i H/\∃N:St->Hp->Prop,(∀σ' H',N σ' H'->∃m',m'<m/\W (i+1) m' σ' H')/\∀x H',(Itl K a).yld i H x H'->g x σ H' fun σ2 H2=>tb { D with nx:=N,ct:=N,bk:=D.nx } σ2 H2):=by
 refine⟨λi m σ H=>m=xs.length-i/\i<=xs.length/\Pv i σ H,⟨xs.length,by simp,nX _,h0⟩, ?_⟩;rintro i m σ H ⟨rfl,hi,p⟩;have q:=hl i σ H hi p;by_cases hlt:i<xs.length
 ·refine .inr ⟨⟨xs,xs[i],q,by simp [hlt]⟩,Pv (i+1),fun σ' H' p'=>⟨xs.length-(i+1),by omega,rfl,hlt,p'⟩,λx H' y=>?_⟩;obtain⟨e,y⟩:=y;subst e;exact hs i x σ _ (y xs q) p
 ·have e:i=xs.length:=by omega
  subst e;exact .inl ⟨⟨xs,q,nW _⟩,hd σ H p⟩
theorem for_tup{K:tJ}{a:Addr}{xs:List V}{g:TG}{tb:TS}{D:Ends}{σ:St}{H:Hp}(Pv:Nat->St->Hp->Prop)(h0:Pv 0 σ H)(hl:∀i σ H,i<=xs.length->Pv i σ H->SqT K H a xs)
  (hs:∀i x σ H,xs[i]? = some x->Pv i σ H->g x σ H fun σ2 H2=>tb { D with nx:=Pv (i+1),ct:=Pv (i+1),bk:=D.nx } σ2 H2) (hd:∀σ H,Pv xs.length σ H->D.nx σ H) :
  ∃W:Nat->Nat->St->Hp->Prop,(∃m,W 0 m σ H)/\∀i m σ H,W i m σ H->
   ((Itt K a).stop i H/\D.nx σ H)∨((Itt K a).go i H/\∃N:St->Hp->Prop,(∀σ' H',N σ' H'->∃m',m'<m/\W (i+1) m' σ' H')/\∀x H',(Itt K a).yld i H x H'->g x σ H' fun σ2 H2=>tb { D with nx:=N,ct:=N,bk:=D.nx } σ2 H2):=by
 refine⟨λi m σ H=>m=xs.length-i/\i<=xs.length/\Pv i σ H,⟨xs.length,by simp,nX _,h0⟩, ?_⟩;rintro i m σ H ⟨rfl,hi,p⟩;have q:=hl i σ H hi p;by_cases hlt:i<xs.length
 ·refine .inr ⟨⟨xs,xs[i],q,by simp [hlt]⟩,Pv (i+1),fun σ' H' p'=>⟨xs.length-(i+1),by omega,rfl,hlt,p'⟩,λx H' y=>?_⟩;obtain⟨e,y⟩:=y;subst e;exact hs i x σ _ (y xs q) p
 ·have e:i=xs.length:=by omega
  subst e;exact .inl ⟨⟨xs,q,nW _⟩,hd σ H p⟩
theorem qR{lo:Int}{n:Nat}{g:TG}{tb:TS}{D:Ends}{σ:St}{H:Hp}(Pv:Nat->St->Hp->Prop)(h0:Pv 0 σ H)
  (hs:∀i σ H,i<n->Pv i σ H->g (.int (lo+i)) σ H fun σ2 H2=>tb { D with nx:=Pv (i+1),ct:=Pv (i+1),bk:=D.nx } σ2 H2) (hd:∀σ H,Pv n σ H->D.nx σ H) :
  ∃W:Nat->Nat->St->Hp->Prop,(∃m,W 0 m σ H)/\∀i m σ H,W i m σ H->
   ((Itr lo n).stop i H/\D.nx σ H)∨((Itr lo n).go i H/\∃N:St->Hp->Prop,(∀σ' H',N σ' H'->∃m',m'<m/\W (i+1) m' σ' H')/\∀x H',(Itr lo n).yld i H x H'->g x σ H' fun σ2 H2=>tb { D with nx:=N,ct:=N,bk:=D.nx } σ2 H2):=by
 refine⟨λi m σ H=>m=n-i/\i<=n/\Pv i σ H,⟨n,by simp,nX _,h0⟩, ?_⟩;rintro i m σ H ⟨rfl,hi,p⟩;by_cases hlt:i<n
 ·refine .inr ⟨hlt,Pv (i+1),fun σ' H' p'=>⟨n-(i+1),by omega,rfl,hlt,p'⟩,λx H' y=>?_⟩;obtain⟨e,y⟩:=y;subst e y;exact hs i σ _ hlt p
 ·have e:i=n:=by omega
  subst e;exact .inl ⟨nW _,hd σ H p⟩
theorem IR{c:TT}{tb:TS}{D:Ends}{σ:St}{H:Hp}(Pv:St->Hp->Prop)(μ:St->Hp->Nat)(h0:Pv σ H)
  (hs:∀σ H,Pv σ H->c σ H λb H1=>if b=true then tb { D with nx:=fun σ' H'=>Pv σ' H'/\μ σ' H'<μ σ H,ct:=fun σ' H'=>Pv σ' H'/\μ σ' H'<μ σ H,bk:=D.nx } σ H1 else D.nx σ H1)
  (mono:∀σ H Q Q',(∀b H1,Q b H1->Q' b H1)->c σ H Q->c σ H Q'):LV c tb D σ H:=by
 refine⟨λm σ H=>m=μ σ H/\Pv σ H,⟨_,rfl,h0⟩, ?_⟩;rintro m σ H ⟨rfl,p⟩;refine mono σ H _ _ (λb H1 q=>?_) (hs σ H p);cases b with
 | true=>exact⟨_,fun σ' H' ⟨p',l⟩=>⟨_,l,rfl,p'⟩,q⟩
 | false=>exact q
abbrev R2:=V->V->Hp->VK->Prop
def OpR(X:Cx)(f:Value->Value->Sem Value)(r:R2):Prop:=
 ∀(pins:List (Addr×Obj)) (s:Shared) (σ:St) (H:Hp) (x y:V) (v u:Value) (Q:VK),Inv X pins σ H s->RelV x v->RelV y u->r x y H Q->
  wpAny (model X.prog X.w) X.A (f v u) (EP X pins σ Q) X.xe s
def UnR(X:Cx)(f:Value->Sem Value)(r:V->Hp->VK->Prop):Prop:=
 ∀(pins:List (Addr×Obj)) (s:Shared) (σ:St) (H:Hp) (x:V) (v:Value) (Q:VK),Inv X pins σ H s->RelV x v->r x H Q->
  wpAny (model X.prog X.w) X.A (f v) (EP X pins σ Q) X.xe s
def CallR(X:Cx)(f:Value)(r:List V->Hp->VK->Prop):Prop:=
 ∀(pins:List (Addr×Obj)) (s:Shared) (σ:St) (H:Hp) (xs:List V) (us:List Value) (Q:VK),Inv X pins σ H s->Vals xs us->r xs H Q->
  wpAny (model X.prog X.w) X.A (call f us) (EP X pins σ Q) X.xe s
def tOp(r:R2)(ta tb:TE):TE:=fun σ H Q=>ta σ H λx H1=>tb σ H1 λy H2=>r x y H2 Q
def tUn(r:V->Hp->VK->Prop)(ta:TE):TE:=fun σ H Q=>ta σ H λx H1=>r x H1 Q
def rI(C:Int->Int->Prop)(g:Int->Int->V):R2:=λx y H Q=>∃i j,x=.int i/\y=.int j/\C i j/\Q (g i j) H
def rI0(g:Int->Int->V):R2:=λx y H Q=>∃i j,x=.int i/\y=.int j/\Q (g i j) H
def rU(g:Int->V):V->Hp->VK->Prop:=λx H Q=>∃i,x=.int i/\Q (g i) H
section
variable{X:Cx}{a b c:Expr}{ta tb tc:TE}{pos:Pos}
theorem binT(ha:PE X a ta)(hb:PE X b tb){pins:List (Addr×Obj)}{s:Shared}{σ:St}{H:Hp}{R:V->V->Hp->Prop}(I:Inv X pins σ H s)
  (h:ta σ H λx H1=>tb σ H1 λy H2=>R x y H2) {Q:Value->Shared->Prop} {f:Value->Value->Sem Value}
  (hf:∀v u s2 x y H2,Inv X pins σ H2 s2->RelV x v->RelV y u->R x y H2->wpAny (model X.prog X.w) X.A (f v u) Q X.xe s2) :
  wpAny (model X.prog X.w) X.A (eval a X.env) (λv s₁=>wpAny (model X.prog X.w) X.A (eval b X.env) (λu s₂=>wpAny (model X.prog X.w) X.A (f v u) Q X.xe s₂) X.xe s₁) X.xe s:=by
 refine thn (ha pins s σ H _ I h) λv s1 ⟨x,H1,I1,r1,q1⟩=>?_;refine thn (hb pins s1 σ H1 _ I1 q1) λu s2 ⟨y,H2,I2,r2,q2⟩=>?_;exact hf v u s2 x y H2 I2 r1 r2 q2
theorem jK{op:Operator}{r:R2}(ho:OpR X (binaryOp op) r)(ha:PE X a ta)(hb:PE X b tb):PE X (.BinOp a op b pos) (tOp r ta tb):=by
 intro pins s σ H Q I h;exact wpAny_BinOp (binT ha hb I h λv u s2 x y H2 I2 rx ry q=>ho pins s2 σ H2 x y v u Q I2 rx ry q)
theorem JM{op:UnaryOp}{r:V->Hp->VK->Prop}(ho:UnR X (unaryOp op) r)(ha:PE X a ta):PE X (.UnaryOp op a pos) (tUn r ta):=by
 intro pins s σ H Q I h;exact UnaryOp_ (thn (ha pins s σ H _ I h) λv s1 ⟨x,H1,I1,r1,q1⟩=>ho pins s1 σ H1 x v Q I1 r1 q1)
theorem opI{f:Value->Value->Sem Value}{C:Int->Int->Prop}{g:Int->Int->Int}
  (rule:∀(i j:Int) (t u:Tok) (s:Shared) (Q:Value->Shared->Prop) (E:Value->Shared->Prop),C i j->Q (.int (g i j) s.toks) { s with toks:=s.toks+1 }->wpAny (model X.prog X.w) X.A (f (.int i t) (.int j u)) Q E s) :
  OpR X f (rI C λi j=>.int (g i j)):=by
 intro pins s σ H x y v u Q I rx ry h;obtain⟨i,j,rfl,rfl,hc,q⟩:=h;obtain⟨t,rfl⟩:=rx;obtain⟨t',rfl⟩:=ry;exact rule i j t t' s _ _ hc ⟨.int (g i j),H,I.tok _,⟨_,rfl⟩,q⟩
theorem opI0{f:Value->Value->Sem Value}{g:Int->Int->Int}
  (rule:∀(i j:Int) (t u:Tok) (s:Shared) (Q:Value->Shared->Prop) (E:Value->Shared->Prop),Q (.int (g i j) s.toks) { s with toks:=s.toks+1 }->wpAny (model X.prog X.w) X.A (f (.int i t) (.int j u)) Q E s) :
  OpR X f (rI0 λi j=>.int (g i j)):=by
 intro pins s σ H x y v u Q I rx ry h;obtain⟨i,j,rfl,rfl,q⟩:=h;obtain⟨t,rfl⟩:=rx;obtain⟨t',rfl⟩:=ry;exact rule i j t t' s _ _ ⟨.int (g i j),H,I.tok _,⟨_,rfl⟩,q⟩
theorem ZF{f:Value->Value->Sem Value}{g:Int->Int->Bool}
  (rule:∀(i j:Int) (t u:Tok) (s:Shared) (Q:Value->Shared->Prop) (E:Value->Shared->Prop),Q (.bool (g i j)) s->wpAny (model X.prog X.w) X.A (f (.int i t) (.int j u)) Q E s) :
  OpR X f (rI0 λi j=>.bl (g i j)):=by
 intro pins s σ H x y v u Q I rx ry h;obtain⟨i,j,rfl,rfl,q⟩:=h;obtain⟨t,rfl⟩:=rx;obtain⟨t',rfl⟩:=ry;exact rule i j t t' s _ _ ⟨.bl (g i j),H,I,rfl,q⟩
def CDiv(i j:Int):Prop:=0<j/\j<1073741824
def CPow(i j:Int):Prop:=0<=j/\j<=1000000/\i.natAbs<2^64
def CMul(i j:Int):Prop:=(-(2^64)<i/\i<2^64)∨(-(2^64)<j/\j<2^64)
theorem CMul.ok{i j:Int}(h:CMul i j):IntMulOk i j:=by
 rcases h with⟨h1,h2⟩ | ⟨h1,h2⟩
 ·exact .of_left (intBits_le_64 h1 h2)
 ·exact .of_right (intBits_le_64 h1 h2)
theorem kW:OpR X (binaryOp .Add) (rI0 λi j=>.int (i+j)):=opI0 λ_ _ _ _ _ _ _ q=>add_int q
theorem qL:OpR X (binaryOp .Sub) (rI0 λi j=>.int (i-j)):=opI0 λ_ _ _ _ _ _ _ q=>sub_int q
theorem CK:OpR X (binaryOp .Mult) (rI CMul λi j=>.int (i*j)):=opI λ_ _ _ _ _ _ _ hc q=>mul_int q hc.ok
theorem ZD:OpR X (binaryOp .FloorDiv) (rI CDiv λi j=>.int (i/j)):=opI λi j _ _ _ _ _ hc q=>by
 have h1:(0:Int)<j:=hc.1;have h2:j<1073741824:=hc.2;exact floordiv_int (by omega) (by rw[Int.fdiv_eq_ediv_of_nonneg i (by omega)];exact q) (.inl (PyProof.noPylong_small (by omega)))
theorem vD:OpR X (binaryOp .Mod) (rI (λ_ j=>0<j) λi j=>.int (i%j)):=opI λi j _ _ _ _ _ hc q=>by
 have h1:(0:Int)<j:=hc;exact mod_int' (by omega) (by rw[Int.fmod_eq_emod_of_nonneg i (by omega)];exact q)
theorem VC:OpR X (binaryOp .Pow) (rI CPow λi j=>.int (i^j.toNat)):=opI λ_ _ _ _ _ _ _ hc q=>pow_int_small hc.1 hc.2.1 hc.2.2 q
theorem iop_sub:OpR X (inplaceOp .Sub) (rI0 λi j=>.int (i-j)):=opI0 λ_ _ _ _ _ _ _ q=>isub_int q
theorem unI{f:Value->Sem Value}{g:Int->Int}
  (rule:∀(i:Int) (t:Tok) (s:Shared) (Q:Value->Shared->Prop) (E:Value->Shared->Prop),Q (.int (g i) s.toks) { s with toks:=s.toks+1 }->wpAny (model X.prog X.w) X.A (f (.int i t)) Q E s) :
  UnR X f (rU λi=>.int (g i)):=by
 intro pins s σ H x v Q I rx h;obtain⟨i,rfl,q⟩:=h;obtain⟨t,rfl⟩:=rx;exact rule i t s _ _ ⟨.int (g i),H,I.tok _,⟨_,rfl⟩,q⟩
theorem BR:UnR X (unaryOp .USub) (rU λi=>.int (-i)):=unI λ_ _ _ _ _ q=>neg_int q
end
def scal:V->V->Bool
 | .non,.non=>true | .non,.int _=>true | .int _,.non=>true | .non,.bl _=>true | .bl _,.non=>true | .non,.str _=>true | .str _,.non=>true
 | .int _,.int _=>true | .bl _,.bl _=>true | .str _,.str _=>true | .byt _,.byt _=>true
 | .int _,.str _=>true | .str _,.int _=>true | .bl _,.str _=>true | .str _,.bl _=>true
 | _,_=>false
def rEq:R2:=λx y H Q=>scal x y=true/\Q (.bl (decide (x=y))) H
def rNe:R2:=λx y H Q=>scal x y=true/\Q (.bl (!decide (x=y))) H
theorem QI{i j:Int} :decide (V.int i=V.int j)=(i==j):=by
 rw[Bool.eq_iff_iff];simp
theorem XU{i j:Bool} :decide (V.bl i=V.bl j)=(i==j):=by
 rw[Bool.eq_iff_iff];simp
theorem QH{i j:Str} :decide (V.str i=V.str j)=(i==j):=by
 rw[Bool.eq_iff_iff];simp
theorem QJ{i j:Array UInt8} :decide (V.byt i=V.byt j)=(i.toList==j.toList):=by
 rw[Bool.eq_iff_iff];cases i;cases j;simp
section
variable{X:Cx}{a b c:Expr}{ta tb tc:TE}{pos:Pos}
theorem kM{pins:List (Addr×Obj)}{σ:St}{H:Hp}{s:Shared}{Q:VK}{k k':Bool}(I:Inv X pins σ H s)(q:Q (.bl k) H)(e:k=k'):EP X pins σ Q (.bool k') s:=by
 subst e;exact⟨.bl k,H,I,rfl,q⟩
theorem xR:OpR X (compareOp .Eq) rEq:=by
 intro pins s σ H x y v u Q I rx ry h;obtain⟨hs,q⟩:=h;cases x with
 | non=>
  cases rx;cases y with
  | non=>cases ry;exact PySem.EqNone.eq_none_none (kM I q (by simp))
  | bl j=>cases ry;exact PySem.EqNone.eq_none_bool (kM I q (by simp))
  | int j=>obtain⟨t',rfl⟩:=ry;exact PySem.EqNone.eq_none_int (kM I q (by simp))
  | str j=>obtain⟨t',rfl⟩:=ry;exact PySem.EqNone.eq_none_str (kM I q (by simp))
  | _=>exact absurd (show false=true from hs) gT
 | bl i=>
  cases rx;cases y with
  | non=>cases ry;exact PySem.EqNone.eq_bool_none (kM I q (by simp))
  | bl j=>cases ry;exact eq_bool (kM I q XU)
  | str j=>obtain⟨t',rfl⟩:=ry;exact PySem.EqMixed.eq_bool_str (kM I q (by simp))
  | _=>exact absurd (show false=true from hs) gT
 | int i=>
  obtain⟨t,rfl⟩:=rx;cases y with
  | non=>cases ry;exact PySem.EqNone.eq_int_none (kM I q (by simp))
  | int j=>obtain⟨t',rfl⟩:=ry;exact eq_int (kM I q QI)
  | str j=>obtain⟨t',rfl⟩:=ry;exact PySem.EqMixed.eq_int_str (kM I q (by simp))
  | _=>exact absurd (show false=true from hs) gT
 | str i=>
  obtain⟨t,rfl⟩:=rx;cases y with
  | non=>cases ry;exact PySem.EqNone.eq_str_none (kM I q (by simp))
  | bl j=>cases ry;exact PySem.EqMixed.eq_str_bool (kM I q (by simp))
  | int j=>obtain⟨t',rfl⟩:=ry;exact PySem.EqMixed.eq_str_int (kM I q (by simp))
  | str j=>obtain⟨t',rfl⟩:=ry;exact eq_str (kM I q QH)
  | _=>exact absurd (show false=true from hs) gT
 | byt i=>
  obtain⟨t,rfl⟩:=rx;cases y with
  | byt j=>obtain⟨t',rfl⟩:=ry;exact PySem.W.eq_bytes (kM I q QJ)
  | _=>exact absurd (show false=true from hs) gT
 | _=>cases y<;>exact absurd (show false=true from hs) gT
theorem JR:OpR X (compareOp .NotEq) rNe:=by
 intro pins s σ H x y v u Q I rx ry h;obtain⟨hs,q⟩:=h;cases x with
 | non=>
  cases rx;cases y with
  | non=>cases ry;exact PySem.EqNone.ne_none_none (kM I q (by simp))
  | bl j=>cases ry;exact PySem.EqNone.ne_none_bool (kM I q (by simp))
  | int j=>obtain⟨t',rfl⟩:=ry;exact PySem.EqNone.ne_none_int (kM I q (by simp))
  | str j=>obtain⟨t',rfl⟩:=ry;exact PySem.EqNone.ne_none_str (kM I q (by simp))
  | _=>exact absurd (show false=true from hs) gT
 | bl i=>
  cases rx;cases y with
  | non=>cases ry;exact PySem.EqNone.ne_bool_none (kM I q (by simp))
  | bl j=>cases ry;exact ne_bool (kM I q (congrArg not XU))
  | str j=>obtain⟨t',rfl⟩:=ry;exact PySem.EqMixed.ne_bool_str (kM I q (by simp))
  | _=>exact absurd (show false=true from hs) gT
 | int i=>
  obtain⟨t,rfl⟩:=rx;cases y with
  | non=>cases ry;exact PySem.EqNone.ne_int_none (kM I q (by simp))
  | int j=>obtain⟨t',rfl⟩:=ry;exact ne_int (kM I q (congrArg not QI))
  | str j=>obtain⟨t',rfl⟩:=ry;exact PySem.EqMixed.ne_int_str (kM I q (by simp))
  | _=>exact absurd (show false=true from hs) gT
 | str i=>
  obtain⟨t,rfl⟩:=rx;cases y with
  | non=>cases ry;exact PySem.EqNone.ne_str_none (kM I q (by simp))
  | bl j=>cases ry;exact PySem.EqMixed.ne_str_bool (kM I q (by simp))
  | int j=>obtain⟨t',rfl⟩:=ry;exact PySem.EqMixed.ne_str_int (kM I q (by simp))
  | str j=>obtain⟨t',rfl⟩:=ry;exact ne_str (kM I q (congrArg not QH))
  | _=>exact absurd (show false=true from hs) gT
 | byt i=>
  obtain⟨t,rfl⟩:=rx;cases y with
  | byt j=>obtain⟨t',rfl⟩:=ry;exact PySem.W.ne_bytes (kM I q (congrArg not QJ))
  | _=>exact absurd (show false=true from hs) gT
 | _=>cases y<;>exact absurd (show false=true from hs) gT
theorem zV:OpR X (compareOp .Lt) (rI0 λi j=>.bl (decide (i<j))):=ZF λ_ _ _ _ _ _ _ q=>lt_int q
theorem op_le:OpR X (compareOp .LtE) (rI0 λi j=>.bl (decide (i<=j))):=ZF λ_ _ _ _ _ _ _ q=>le_int q
theorem OK:OpR X (compareOp .Gt) (rI0 λi j=>.bl (decide (j<i))):=ZF λ_ _ _ _ _ _ _ q=>gt_int q
theorem JS:OpR X (compareOp .GtE) (rI0 λi j=>.bl (decide (j<=i))):=ZF λ_ _ _ _ _ _ _ q=>ge_int q
theorem jX(b:Expr){op:CmpOp}(h:op≠.In:=by decide)(h2:op≠.NotIn:=by decide):behindInMarks op b=false:=by
 have e1:(op==CmpOp.In)=false:=by cases op<;>first | rfl | exact absurd rfl h
 have e2:(op==CmpOp.NotIn)=false:=by cases op<;>first | rfl | exact absurd rfl h2
 cases b<;>simp [behindInMarks,e1,e2]
theorem zJ{op:CmpOp}{r:R2}(ho:OpR X (compareOp op) r)(ha:PE X a ta)(hb:PE X b tb)(hm:behindInMarks op b=false):PE X (.Compare a [op] [b] pos) (tOp r ta tb):=by
 intro pins s σ H Q I h;exact wpAny_Compare1 (binT ha hb I h λv u s2 x y H2 I2 rx ry q=>ho pins s2 σ H2 x y v u Q I2 rx ry q) hm
def NM(t:TE):TT:=fun σ H Q=>t σ H λx H'=>∃k,x=.bl k/\Q k H'
theorem jU{op:CmpOp}{r:R2}(ho:OpR X (compareOp op) r)(ha:PE X a ta)(hb:PE X b tb)(hm:behindInMarks op b=false):PT X (.Compare a [op] [b] pos) (NM (tOp r ta tb)):=by
 intro pins s σ H Q I h;refine wpAny_isTrue_Compare1 (thn (ha pins s σ H _ I h) λv s1 ⟨x,H1,I1,r1,q1⟩=>thn (hb pins s1 σ H1 _ I1 q1) λu s2 ⟨y,H2,I2,r2,q2⟩=>
  thn (ho pins s2 σ H2 x y v u _ I2 r1 r2 q2) λc s3 ⟨z,H3,I3,r3,k,e,q3⟩=>?_) hm
 subst e;cases r3;exact wpAny_truthy_bool ⟨H3,I3,q3⟩
theorem HW:(sizeLine:Nat)<2^63:=by rw[sizeLine_eq];decide
theorem xA{x:V}{us:List Value}(r:Vals [x] us):∃u,us=[u]/\RelV x u:=by
 cases r with
 | cons r1 r2=>cases r2;exact⟨_,rfl,r1⟩
theorem vals2{x y:V}{us:List Value}(r:Vals [x,y] us):∃u w',us=[u,w']/\RelV x u/\RelV y w':=by
 cases r with
 | cons r1 r2=>
  cases r2 with
  | cons r3 r4=>cases r4;exact⟨_,_,rfl,r1,r3⟩
theorem XX:CallR X (.builtin "abs") (λxs H Q=>∃i,xs=[.int i]/\Q (.int (if i<0 then -i else i)) H):=by
 intro pins s σ H xs us Q I r h;obtain⟨i,rfl,q⟩:=h;obtain⟨u,rfl,t,rfl⟩:=xA r;exact call_abs_int λu tk=>⟨.int (if i<0 then -i else i),H,I.tok _,⟨_,rfl⟩,q⟩
theorem FK:CallR X (.type "int") (λxs H Q=>(∃i,xs=[.int i]/\Q (.int i) H)∨∃k,xs=[.bl k]/\Q (.int (if k then 1 else 0)) H):=by
 intro pins s σ H xs us Q I r h;rcases h with⟨i,rfl,q⟩ | ⟨k,rfl,q⟩
 ·obtain⟨u,rfl,t,rfl⟩:=xA r;exact call_int_int ⟨.int i,H,I,⟨_,rfl⟩,q⟩
 ·obtain⟨u,rfl,r1⟩:=xA r;cases r1;exact call_int_bool ⟨.int (if k then 1 else 0),H,I.tok _,⟨_,rfl⟩,q⟩
end
structure ObjM(h:Heap)(x dx C:Addr)(mA:Str->Option Value):Prop where
 obj:h.get? x=some (PySem.W.instObj C dx)
 ns:h.Ns1 dx mA
 ne:dx≠x
theorem SL{h:Heap}{dx:Addr}{mA:Str->Option Value}(n:h.Ns1 dx mA):∃od,h.get? dx=some od/\∀name,PySem.W.lookIn name od=some (mA name):=by
 obtain⟨o,es,ep,ho,hd,hk,_,hm⟩:=n;refine⟨o,ho,λname=>?_⟩;have e:=hm name;unfold nsFind findBy at e;rw[<-Array.find?_toList]at e;unfold PySem.W.lookIn;rw[hd];dsimp only;split
 ·rename_i y q;rw[q]at e;exact congrArg some e
 ·rename_i q;rw[q]at e;have a:es.toList.any (·.refKey)=false:=by
   rw[List.any_eq_false];intro y hy;obtain⟨z,t,hkey⟩:=hk y (Array.mem_toList_iff.mp hy);simp [DictEntry.refKey,hkey]
  have a':¬es.toList.any (·.refKey)=true:=by rw[a];exact gT
  rw[tH a'];exact congrArg some e
theorem ObjM.look{h:Heap}{x dx C:Addr}{mA:Str->Option Value}(I:ObjM h x dx C mA):∃od,PySem.W.InstAt h x (PySem.W.instObj C dx) C (some od)/\∀name,PySem.W.lookIn name od=some (mA name):=
 let ⟨od,ho,hl⟩:=SL I.ns
 ⟨od,⟨I.obj,rfl,rfl,ho⟩,hl⟩
section
variable{prog:Program}{w:World}{A:Around}{E:Value->Shared->Prop}{s:Shared}{K:tJ}{x dx C f:Addr}{mA:Str->Option Value}{name:Str}{v:Value}
end
theorem RelO.some_of{v:V}{o:Option Value}(r:RelO (some v) o):∃u,o=some u/\RelV v u:=by
 cases o with
 | none=>exact(show False from r).elim
 | some u=>exact⟨u,rfl,r⟩
section
variable{P:Program}{w:World}{H H':Hp}{h h':Heap}{a C dx:Addr}{fs fs':List (Str×V)}
theorem ins_get(hok:HOk P w H h)(e:H a=some (.ins C dx fs)):∃mA,ObjM h a dx C mA/\(∀f,RelO (fs.lookup f) (mA f))/\PySem.Within mA (fs.map (·.1))/\fs.length<=1000/\H dx=some (.own a):=by
 obtain⟨d,z,ne,ob,mA,n,r,q⟩:=(show ObjOk P w H h a (.ins C dx fs)from hok a _ e);exact⟨mA,⟨ob,n,ne⟩,r,q,z,d⟩
end
structure Cls(K:tJ)(C:Addr):Prop where
 pg:PySem.W.plainGet K C Str.empty=true
 hd:PySem.W.hasDictIn K C=true
 po:PySem.W.plainOver K C=true
 sa:PySem.W.findIn K (.ref C) "__setattr__" = some (some (.builtin "object.__setattr__"))
theorem Cls.get{K:tJ}{C:Addr}(c:Cls K C)(f:Str):PySem.W.plainGet K C f=true:=c.pg
structure Con(K:tJ)(C:Addr)(f:Str)(v:V)(u:Value):Prop where
 at_:PySem.W.findIn K (.ref C) f=some (some u)
 rel:RelV v u
 get:PySem.W.specialIn K u "__get__" = some none
 cp:PySem.W.copiedNames.contains f=false
structure Meth(K:tJ)(C:Addr)(m:Str)(f:Addr):Prop where
 at_:PySem.W.findIn K (.ref C) m=some (some (.ref f))
 fn:PySem.W.isFn K (.ref f)=true
 kp:PySem.W.keepIn K (.ref f)=true
section
variable{X:Cx}{pins:List (Addr×Obj)}{σ:St}{H:Hp}{s:Shared}{a C dx:Addr}{fs:List (Str×V)}{f:Str}{v:V}{A:Around}{E:Value->Shared->Prop}
end
section
variable{X:Cx}{o e value:Expr}{f:Str}{pos pos' tpos:Pos}{ta tv:TE}
end
section
variable{X:Cx}{pins:List (Addr×Obj)}{σ:St}{H:Hp}{s:Shared}{A:Around}{E:Value->Shared->Prop}{Q:Value->Shared->Prop}{c:Value}{b:Bool}
inductive TyOf(K:tJ)(H:Hp):V->Value->Prop where
 | non:TyOf K H .non (.type "NoneType")
 | bl (x:Bool):TyOf K H (.bl x) (.type "bool")
 | int (i:Int):TyOf K H (.int i) (.type "int")
 | str (x:Str):TyOf K H (.str x) (.type "str")
 | flt (x:UInt64):TyOf K H (.flt x) (.type "float")
 | lst {a:Addr} {xs:List V} (e:H a=some (.lst xs)):TyOf K H (.ref a) (.type "list")
 | frz {a:Addr} {o:Obj} {xs:List V} (e:H a=some (.frz o (.lst xs))):TyOf K H (.ref a) (.type "list")
 | tup {a:Addr} {xs:List V} (e:H a=some (.tup xs)):TyOf K H (.ref a) (.type "tuple")
 | dK {a:Addr} {kvs:List (Key×V)} (e:H a=some (.dK kvs)):TyOf K H (.ref a) (.type "dict")
 | dT {a:Addr} {kvs:List (List Key×V)} (e:H a=some (.dT kvs)):TyOf K H (.ref a) (.type "dict")
 | ins {a C dx:Addr} {fs:List (Str×V)} (e:H a=some (.ins C dx fs)) (cl:Cls K C) (ha:PySem.W.findIn K (.ref C) "__class__" = some (some (.builtin "object.__class__")))
   (hn:PySem.W.specialIn K (.builtin "object.__class__") "__get__" = some (some (.builtin "getset_descriptor.__get__"))) (htk:PySem.W.takesIn K (.builtin "object.__class__")=some true)
   (hm:PySem.W.mroIn K C (.type "object")=some true):TyOf K H (.ref a) (.ref C)
theorem SS{x:V}{u t:Value}(I:Inv X pins σ H s)(rx:RelV x u)(ty:TyOf X.K H x t)(e:PySem.W.kitOne X.K t c=some b)(h:∀tk,Q (.bool b) { s with toks:=tk }) :
  wpAny (model X.prog X.w) A (call (.builtin "isinstance") [u,c]) Q E s:=by
 cases ty with
 | non=>cases (show u=Value.none from rx);exact PySem.W.kia_one PySem.W.kitx_none I.kIn True.intro e (λz=>nomatch z) h
 | bl y=>cases (show u=Value.bool y from rx);exact PySem.W.kia_one PySem.W.kitx_bool I.kIn True.intro e (λz=>nomatch z) h
 | int i=>obtain⟨t,q⟩:=(show ∃t,u=Value.int i t from rx);cases q;exact PySem.W.kia_one PySem.W.kitx_int I.kIn True.intro e (λz=>nomatch z) h
 | str y=>obtain⟨t,q⟩:=(show ∃t,u=Value.str y t from rx);cases q;exact PySem.W.kia_one PySem.W.kitx_str I.kIn True.intro e (λz=>nomatch z) h
 | flt y=>obtain⟨t,q⟩:=(show ∃t,u=Value.float y t from rx);cases q;exact PySem.W.kia_one PySem.W.kitx_float I.kIn True.intro e (λz=>nomatch z) h
 | @lst a xs ea=>
  cases (show u=Value.ref a from rx);obtain⟨_,_,n,_,h1⟩:=(show ObjOk X.prog X.w H s.heap a (.lst xs)from I.hok a _ ea);exact PySem.W.kia_one PySem.W.kitx_list I.kIn ⟨_,h1,rfl⟩ e (λz=>nomatch z) h
 | @frz a ob xs ea=>
  cases (show u=Value.ref a from rx);obtain⟨_,_,_,n,_,h1⟩:=(show ObjOk X.prog X.w H s.heap a (.frz ob (.lst xs))from I.hok a _ ea);exact PySem.W.kia_one PySem.W.kitx_list I.kIn ⟨_,h1,rfl⟩ e (λz=>nomatch z) h
 | @tup a xs ea=>
  cases (show u=Value.ref a from rx);obtain⟨_,_,_,p⟩:=(show ObjOk X.prog X.w H s.heap a (.tup xs)from I.hok a _ ea);obtain⟨o,h1,h2,_⟩:=p.1;exact PySem.W.kia_one PySem.W.kitx_tuple I.kIn ⟨o,h1,h2⟩ e (λz=>nomatch z) h
 | @dK a kvs ea=>
  cases (show u=Value.ref a from rx);obtain⟨_,_,vs,_,p⟩:=(show ObjOk X.prog X.w H s.heap a (.dK kvs)from I.hok a _ ea);obtain⟨o,es,ep,h1,h2,_⟩:=p;exact PySem.W.kia_one PySem.W.kitx_dict I.kIn ⟨o,h1,h2.1⟩ e (λz=>nomatch z) h
 | @dT a kvs ea=>
  cases (show u=Value.ref a from rx);obtain⟨_,_,xs,_,o,es,ep,h1,h2,_⟩:=(show ObjOk X.prog X.w H s.heap a (.dT kvs)from I.hok a _ ea);exact PySem.W.kia_one PySem.W.kitx_dict I.kIn ⟨o,h1,h2.1⟩ e (λz=>nomatch z) h
 | @ins a C dx fs ea cl ha hn htk hm=>
  cases (show u=Value.ref a from rx);obtain⟨mA,O,_⟩:=ins_get I.hok ea;obtain⟨od,J,_⟩:=O.look;exact PySem.W.kia_one (PySem.W.kitx_own (cl.get _) cl.hd ha hn htk hm) I.kIn J e (λz=>nomatch z) h
end
structure Room(k:Nat)(A:Around):Prop where
 hd:A.handled=none
 dp:A.depth+3*k+5<recursionLimit
 un:A.units+16*k+200<cLine
theorem Room.mono{j k:Nat}{A:Around}(r:Room k A)(h:j<=k):Room j A:=⟨r.hd,by have:=r.dp;omega,by have:=r.un;omega⟩
theorem Room.deeper{k:Nat}{A:Around}(r:Room (k+1) A)(env:Env):Room k (A.deeper env):=
 ⟨r.hd,by have:=r.dp;show A.depth+1+3*k+5<_;omega,by have:=r.un;show A.units+3+16*k+200<_;omega⟩
theorem Room.depth{k:Nat}{A:Around}(r:Room k A):A.depth<recursionLimit:=by have:=r.dp;omega
theorem Room.units{k:Nat}{A:Around}(r:Room k A):A.units+64<cLine:=by have:=r.un;omega
def tNil:TA:=λ_ H Q=>Q [] H
def vJ(ta:TE)(tr:TA):TA:=fun σ H Q=>ta σ H λx H1=>tr σ H1 λxs H2=>Q (x::xs) H2
section
variable{X:Cx}{e:Expr}{es:List Expr}{te:TE}{t:TA}{pos:Pos}
theorem jC:PA X [] tNil:=λ_ _ _ _ H Q I h=>Calls.spliced_nil ⟨[],H,I,.nil,h⟩
theorem jA(ha:PE X e te)(hr:PA X es t)(hs:starEach (e::es) X.env=(false,eval e X.env)::starEach es X.env:=by rfl):PA X (e::es) (vJ te t):=by
 intro pos pins s σ H Q I h;rw[hs];show wpAny _ _ (spliced ((false,eval e X.env)::backTo pos (starEach es X.env))) _ _ s;refine Calls.spliced_cons (thn (ha pins s σ H _ I h) λu s1 ⟨x,H1,I1,r1,q1⟩=>?_);exact thn (hr pos pins s1 σ H1 _ I1 q1) λus s2 ⟨xs,H2,I2,r2,q2⟩=>⟨x::xs,H2,I2,.cons r1 r2,q2⟩
def tTup(t:TA):TE:=fun σ H Q=>t σ H λxs H1=>xs.length<=sizeLine/\∀p,H1 p=none->Q (.ref p) (upd H1 p (.tup xs))
theorem pe_tup{x1}(h:PA X es t):PE X (.Tuple es x1 pos) (tTup t):=by
 intro pins s σ H Q I hq;refine wpAny_Tuple_spliced (thn (h pos pins s σ H _ I hq) λus s1 ⟨xs,H1,I1,r,z,q⟩=>⟨by rw[<-r.length];exact z, ?_⟩);have hf:H1 s1.heap.objs.size=none:=I1.hok.fresh uO ;refine⟨.ref s1.heap.objs.size,upd H1 s1.heap.objs.size (.tup xs),I1.laid (t':=s1.toks) (λb u e=>uZ _ e) uO ?_,rfl,q _ hf⟩;exact⟨z,us,r,⟨_,gO _ rfl,rfl,_,rfl⟩,.of (gO _ rfl) rfl⟩
end
abbrev Sp:=List V->Hp->VK->XK->Prop
abbrev CXT:=List Env->Hp->Shared->XK->Value->Shared->Prop
structure Env0(P:Program)(w:World)(K:tJ)(mg:Str->Option Value)(base:Heap)(A:Around)(outer:List Env)(s:Shared)(H:Hp):Prop where
 frames:A.frames=some outer
 mod:Mod K mg base
 bs:∀b o,base.get? b=some o->s.heap.get? b=some o/\H b=none
 bsz:base.objs.size<=s.heap.objs.size
 funs:s.heap.FunFrames base outer
 frf:∀b∈frs outer,H b=none
 hok:HOk P w H s.heap
 bare:AllBare s.gens
def CE(outer:List Env)(P:Program)(w:World)(H:Hp)(s:Shared)(Q:VK)(u:Value)(s':Shared):Prop:=
 ∃v H',s'.os=s.os/\AllBare s'.gens/\Un (frs outer) [] H H' s.heap s'.heap/\HOk P w H' s'.heap/\RelV v u/\Q v H'
def CR(CX:CXT)(outer:List Env)(P:Program)(w:World)(H:Hp)(s:Shared)(Q:VK)(E:XK)(r:Result)(s':Shared):Prop:=
 match r with
 | .ok (.ret u)=>CE outer P w H s Q u s'
 | .ok _=>False
 | .error e=>CX outer H s E e s'
structure FnOk(P:Program)(w:World)(K:tJ)(mg:Str->Option Value)(base:Heap)(CX:CXT)(k:Nat)(f:Addr)(fd:FuncData)(ps:List Str)(sp:Sp):Prop where
 len:∀vs H Q E,sp vs H Q E->vs.length=ps.length
 run:∀(A:Around) (outer:List Env) (s:Shared) (H:Hp) (args:Args) (us:List Value) (vs:List V) (Q:VK) (E:XK),Room k A->Env0 P w K mg base A outer s H->BindsTo s fd args (ps.zip us)->Vals vs us->sp vs H Q E->
  codeAny (model P w) A (.call (.ref f) args) (CR CX outer P w H s Q E) s
section
variable{X:Cx}{pins:List (Addr×Obj)}{σ:St}{H:Hp}{s s':Shared}
theorem Inv.env0(I:Inv X pins σ H s):Env0 X.prog X.w X.K X.mg X.base X.A X.stack s H:=
 ⟨I.ok.frames,I.ok.mod,I.bs,nK I.ok.bsz I.sz,I.stack,I.stkFree,I.hok,I.bare⟩
theorem Inv.after{Q:VK}{u:Value}(I:Inv X pins σ H s)(h:CE X.stack X.prog X.w H s Q u s'):EP X pins σ Q u s':=by
 obtain⟨v,H',os,bare,un,hok,r,q⟩:=h;obtain⟨hh,g,d,t,os'⟩:=s';obtain rfl:os'=s.os:=os;exact⟨v,H',I.call (h':=hh) (g':=g) (d':=d) (t':=t) (ch:=[]) un hok bare (λb z=>absurd z (by simp)),r,q⟩
end
def NN(sp:Sp)(dvs:List V)(E:XK)(t:TA):TE:=fun σ H Q=>t σ H λvs H1=>sp (vs++dvs) H1 Q E
def Binds(K:tJ)(fd:FuncData)(ps:List Str)(ds:List Value):Prop:=
 ∀(s:Shared) (us:List Value),K.In s.heap->(us++ds).length=ps.length->BindsTo s fd ⟨us,[]⟩ (ps.zip (us++ds))
theorem Binds.all{K:tJ}{fd:FuncData}{ps:List Str}(h:∀us:List Value,us.length=ps.length->bindArgs fd ⟨us,[]⟩=pure (ps.zip us)):Binds K fd ps []:=λs us _ hl=>by
 rw[List.append_nil]at hl ⊢;exact .of_eq (h us hl)
def Passes(CX:CXT)(X:Cx)(E:XK):Prop:=∀(pins:List (Addr×Obj)) (σ:St) (H:Hp) (s:Shared) (e:Value) (s':Shared),Inv X pins σ H s->CX X.stack H s E e s'->X.xe e s'
section
variable{X:Cx}{CX:CXT}{k:Nat}{f C:Addr}{fd:FuncData}{ps:List Str}{sp:Sp}{dvs:List V}{ds:List Value}{E:XK}{x m:Str}{p pos apos:Pos}{e o:Expr}{es:List Expr}{ta:TE}{t:TA}
theorem run_fn{pins:List (Addr×Obj)}{σ:St}{H:Hp}{s:Shared}{Q:VK}{us:List Value}{vs:List V}(F:FnOk X.prog X.w X.K X.mg X.base CX k f fd ps sp)(hr:Room k X.A)(hb:Binds X.K fd ps ds)(hd:Vals dvs ds)(hx:Passes CX X E)
  (I:Inv X pins σ H s) (r:Vals vs us) (h:sp (vs++dvs) H Q E):wpAny (model X.prog X.w) X.A (call (.ref f) us) (EP X pins σ Q) X.xe s:=by
 have r2:Vals (vs++dvs) (us++ds):=r.append hd;have hl:(us++ds).length=ps.length:=by rw[<-r2.length];exact F.len _ _ _ _ h
 refine wpAny_call (codeAny_mono (F.run X.A X.stack s H ⟨us,[]⟩ (us++ds) (vs++dvs) Q E hr I.env0 (hb s us I.kIn hl) r2 h) λr s' hq=>?_);cases r with
 | error e=>exact hx pins σ H s e s' I hq
 | ok fl=>
  cases fl with
  | ret u=>exact I.after hq
  | next=>exact False.elim hq
  | brk=>exact False.elim hq
  | cont=>exact False.elim hq
theorem jH(F:FnOk X.prog X.w X.K X.mg X.base CX k f fd ps sp)(hr:Room k X.A)(hg:Gl X x)(hm:X.mg x=some (.ref f))(hk:PySem.W.keepIn X.K (.ref f)=true)(hb:Binds X.K fd ps ds)(hd:Vals dvs ds)(hx:Passes CX X E)
  (ha:PA X (e::es) t) (hdb:(x==("__debug__" :Str))=false:=by decide) (he:starEach (e::es) X.env=(false,eval e X.env)::starEach es X.env:=by rfl) (hpl:(backTo pos (starEach es X.env)).any (·.1)=false:=by rfl) :
  PE X (.Call (.Name x p) (e::es) [] pos) (NN sp dvs E t):=by
 intro pins s σ H Q I h;refine wpAny_Call_Name_kw (PB I hg hm ?_ hdb);refine PySem.W.callWith_K (h₀:=X.base) I.ok.mod.kin hk (thn (ha pos pins s σ H _ I h) λus s1 ⟨vs,H1,I1,r,q⟩=>⟨I1.kIn, ?_⟩) he hpl;exact run_fn F hr hb hd hx I1 r q
structure Mk(K:tJ)(C f:Addr):Prop where
 makes:PySem.W.makesIn K C=true
 init:PySem.W.findIn K (.ref C) "__init__" = some (some (.ref f))
 fn:PySem.W.isFn K (.ref f)=true
 kp:PySem.W.keepIn K (.ref C)=true
end
def PK(X:Cx)(kws:List Keyword)(t:TA):Prop:=
 ∀(pos:Pos) (pins:List (Addr×Obj)) (s:Shared) (σ:St) (H:Hp) (Q:List V->Hp->Prop),Inv X pins σ H s->t σ H Q->wpAny (model X.prog X.w) X.A (evalAll ((backToKw pos (keywordEach kws X.env)).map (·.2))) (AP X pins σ Q) X.xe s
section
variable{X:Cx}{CX:CXT}{k:Nat}{f C:Addr}{fd:FuncData}{ps ks:List Str}{sp:Sp}{E:XK}{x m:Str}{p pos apos kpos:Pos}{e o:Expr}{es:List Expr}{kws:List Keyword}{te ta:TE}{t tk:TA}{nm:Option Str}
theorem pk_nil:PK X [] tNil:=λ_ _ _ _ H Q I h=>wpAny_evalAll_nil ⟨[],H,I,.nil,h⟩
theorem YU(ha:PE X e te)(hr:PK X kws t):PK X (⟨nm,e,kpos⟩::kws) (vJ te t):=by
 intro pos pins s σ H Q I h;show wpAny _ _ (evalAll ((do let v<-eval e X.env;standAt pos;pure v)::(backToKw pos (keywordEach kws X.env)).map (·.2))) _ _ s;refine wpAny_evalAll_cons (tE (thn (ha pins s σ H _ I h) λu s1 ⟨x,H1,I1,r1,q1⟩=>tE (wpAny_standAt (tF ?_))));exact thn (hr pos pins s1 σ H1 _ I1 q1) λus s2 ⟨xs,H2,I2,r2,q2⟩=>⟨x::xs,H2,I2,.cons r1 r2,q2⟩
structure KBinds(K:tJ)(fd:FuncData)(ps ks:List Str)(g:List Value->List Value->List Value)(gV:List V->List V->List V):Prop where
 to:∀(s:Shared) (us ws:List Value),K.In s.heap->(g us ws).length=ps.length->BindsTo s fd ⟨us,ks.zip ws⟩ (ps.zip (g us ws))
 rel:∀{vs:List V} {us:List Value} {zs:List V} {ws:List Value},Vals vs us->Vals zs ws->Vals (gV vs zs) (g us ws)
variable{g:List Value->List Value->List Value}{gV:List V->List V->List V}
end
structure FnScope(N P:List Str)(sc:Scope):Prop where
 kind:sc.kind=.function
 co:sc.isCoroutine=false
 gen:sc.isGenerator=false
 nd:N.Nodup
 pre:N.take P.length=P
 par:∀x∈P,sc.names.lookup x=some .local∨sc.names.lookup x=some .cell
 nofree:∀y∈sc.names,y.2≠.free
theorem FL{kindOf:Str->Option NameKind}{x:Str} :∀{binds:List (Str×Value)} {m:Str->Option Value},(∀v,(x,v)∉binds)->bindL kindOf binds m x=m x
 | [],_,_=>rfl
 | (n,v)::r,m,h=>by
  unfold bindL;rw[FL λw hw=>h w (gI _ hw)];split
  ·have:x≠n:=by rintro rfl;exact h v gY
   simp [this]
  ·rfl
theorem FN{kindOf:Str->Option NameKind}{x:Str} :∀{binds:List (Str×Value)} {m:Str->Option Value},(∀v,(x,v)∉binds)->bindC kindOf binds m x=m x
 | [],_,_=>rfl
 | (n,v)::r,m,h=>by
  unfold bindC;rw[FN λw hw=>h w (gI _ hw)];split
  ·rfl
  ·have:x≠n:=by rintro rfl;exact h v gY
   simp [this]
theorem FM{kindOf:Str->Option NameKind}{x:Str}{v:Value} :∀{P:List Str} {vs:List Value} {i:Nat} {m:Str->Option Value},P.Nodup->P[i]? = some x->vs[i]? = some v->kindOf x=some .local->
  bindL kindOf (P.zip vs) m x=some v
 | [],_,_,_,_,h,_,_=>by simp at h
 | _::_,[],_,_,_,_,h,_=>by simp at h
 | p::P,w::vs,0,m,nd,h1,h2,hk=>by
  simp at h1 h2;subst h1;subst h2;show bindL kindOf ((p,w)::P.zip vs) m p=_;unfold bindL;rw[FL λv hv=>(List.nodup_cons.mp nd).1 (List.of_mem_zip hv).1,tI hk];simp
 | p::P,w::vs,i+1,m,nd,h1,h2,hk=>by
  show bindL kindOf ((p,w)::P.zip vs) m x=_;unfold bindL;exact FM (i:=i) (List.nodup_cons.mp nd).2 (by simpa using h1) (by simpa using h2) hk
theorem FO{kindOf:Str->Option NameKind}{x:Str}{v:Value} :∀{P:List Str} {vs:List Value} {i:Nat} {m:Str->Option Value},P.Nodup->P[i]? = some x->vs[i]? = some v->kindOf x≠some .local->
  bindC kindOf (P.zip vs) m x=some v
 | [],_,_,_,_,h,_,_=>by simp at h
 | _::_,[],_,_,_,_,h,_=>by simp at h
 | p::P,w::vs,0,m,nd,h1,h2,hk=>by
  simp at h1 h2;subst h1;subst h2;show bindC kindOf ((p,w)::P.zip vs) m p=_;unfold bindC;rw[FN λv hv=>(List.nodup_cons.mp nd).1 (List.of_mem_zip hv).1,tH hk];simp
 | p::P,w::vs,i+1,m,nd,h1,h2,hk=>by
  show bindC kindOf ((p,w)::P.zip vs) m x=_;unfold bindC;exact FO (i:=i) (List.nodup_cons.mp nd).2 (by simpa using h1) (by simpa using h2) hk
def AR(N:List Str)(vs:List V):St:=vs.map some++List.replicate (N.length-vs.length) none
def TD(CX:CXT)(P:Program)(w:World)(K:tJ)(mg:Str->Option Value)(base:Heap)(N:List Str)(qual:Str)(scope:Scope)(f:Addr)(cd:Value)(A:Around)(outer:List Env)(s:Shared)(H:Hp)(E:XK):Cx where
 prog:=P
 w:=w
 K:=K
 mg:=mg
 base:=base
 A:=A.deeper (envOfC qual scope s.heap.objs.size f cd)
 N:=N
 s₀:=s
 H₀:=H
 env:=envOfC qual scope s.heap.objs.size f cd
 outer:=outer
 stack:=envOfC qual scope s.heap.objs.size f cd::outer
 ex:=[]
 calm:=true
 fn:=λ_=>true
 pn:=[]
 xe:=λe s'=>wpAny (model P w) (A.deeper (envOfC qual scope s.heap.objs.size f cd)) (leaving (envOfC qual scope s.heap.objs.size f cd) e) (λ_ s''=>CX outer H s E e s'') (λe' s''=>CX outer H s E e' s'') s'
theorem LI{sc:Scope}{n:Nat}{x:Str}(h:sc.names.lookup x=some .cell):∃c,(cellsFrom n sc.names []).lookup x=some c:=by
 have q:=PySem.W.cellsFrom_some sc.names n [] (.inl h);exact Option.isSome_iff_exists.mp q
theorem ST{CX:CXT}{P:Program}{w:World}{K:tJ}{mg:Str->Option Value}{base:Heap}{N ps:List Str}{qual:Str}{scope:Scope}{f:Addr}{cd:Value}{A:Around}{outer:List Env}{s s1:Shared}{H:Hp}{E:XK}{us:List Value}{vs:List V}
  (S:FnScope N ps scope) (hd:A.handled=none) (e0:Env0 P w K mg base A outer s H) (hl:vs.length=ps.length) (r:Vals vs us)
  (x:InCallC s s.heap.objs.size (bindL (envOfC qual scope s.heap.objs.size f cd).kindOf (ps.zip us) λ_=>none) (cellsFrom (s.heap.objs.size+1) scope.names []) (bindC (envOfC qual scope s.heap.objs.size f cd).kindOf (ps.zip us) λ_=>none) s1) :
  Inv (TD CX P w K mg base N qual scope f cd A outer s H E) [] (AR N vs) H s1:=by
 have hpl:ps.length<=N.length:=by have:=congrArg List.length S.pre;rw[mI]at this;omega
 obtain⟨h1,tk,rfl,hk⟩:=x.done;have noA:∀b:Addr,b∉(TD CX P w K mg base N qual scope f cd A outer s H E).ex:=λb z=>absurd (show b∈([]:List Addr)from z) (by simp);refine⟨⟨e0.mod,S.kind,rfl,rfl,nW _,λy z c h1 h2=>?_,λy hy=>?_,λy c _ h=>?_,λ_=>hd,Around.frames_deeper e0.frames,.inr ⟨rfl,rfl⟩,λb z=>absurd z (noA b),e0.bs,e0.bsz,λb _ _=>noA b,λb z=>absurd z (noA b),e0.funs,e0.frf⟩,
  rfl,e0.bare,Un.kept hk,⟨_,x.toInCall.ns,λi y v h1 h2 h3=>?_⟩,λy c h=>⟨_,x.cell y c h⟩,e0.hok.fresh uO,λy c h=>?_,λp hp=>absurd (show p∈([]:List (Addr×Obj))from hp) (by simp),e0.hok.kept hk, ?_⟩
 ·exact name_of_addr x.apart (PySem.mem_of_lookup h1) (PySem.mem_of_lookup h2)
 ·have hy:scope.names.lookup y=some .cell∨scope.names.lookup y=some .free:=hy;rcases hy with hy | hy
  ·exact LI hy
  ·exact absurd rfl (S.nofree _ (PySem.mem_of_lookup hy))
 ·exact Nat.le_of_lt (x.above y c (PySem.mem_of_lookup h))
 ·have hi:i<vs.length:=by
   unfold AR at h2;by_cases hi:i<vs.length
   ·exact hi
   ·rw[uS (by simpa using hi)]at h2;rw[List.getElem?_replicate]at h2;split at h2<;>cases h2
  have ha:vs[i]? = some v:=by
   unfold AR at h2;rw[uV (by simpa using hi),hJ]at h2;cases e:vs[i]? with
   | none=>rw[e]at h2;cases h2
   | some a=>rw[e]at h2;cases h2;rfl
  obtain⟨u,hu,rv⟩:=r.get ha;have hp:ps[i]? = some y:=by
   rw[<-S.pre,List.getElem?_take_of_lt (by omega)];exact h1
  have ndP:ps.Nodup:=by rw[<-S.pre];exact S.nd.sublist (List.take_sublist _ _)
  refine⟨u,rv, ?_⟩;rcases S.par y (gH hp)with k | k
  ·exact .inl ⟨k,FM ndP hp hu k⟩
  ·obtain⟨c,e⟩:=LI (n:=s.heap.objs.size+1) k;refine .inr ⟨.inl k,c,e, ?_⟩;have q:=x.cell y c e;rw[FO ndP hp hu (by show scope.names.lookup y≠_;rw[k];decide)]at q;exact q
 ·exact e0.hok.fresh (Nat.le_of_lt (x.above y c (PySem.mem_of_lookup h)))
 ·unfold AR;show _=N.length;rw[gS,mP,gC];omega
theorem fn_of{CX:CXT}{P:Program}{w:World}{K:tJ}{mg:Str->Option Value}{base:Heap}{k:Nat}{f:Addr}{name qual:Str}{params:Arguments}{body:List Stmt}{scope:Scope}{dV kV doc pm cdv ct oc:Value}{an od:Option Addr}
  {osl:Array (Option Value)} {N ps:List Str} {sp:Sp} (lk:K.lookup f=some ⟨oc,od,.func (PySem.W.fnOf name qual params body scope dV kV doc pm an cdv ct),osl⟩) (hcd:PySem.W.codeIn K cdv qual=true) (S:FnScope N ps scope)
  (len:∀vs H Q E,sp vs H Q E->vs.length=ps.length)
  (hbody:∀(A:Around) (outer:List Env) (s:Shared) (H:Hp) (vs:List V) (Q:VK) (E:XK),Room k (A.deeper (envOfC qual scope s.heap.objs.size f cdv))->sp vs H Q E->
   ∃t,PSs (TD CX P w K mg base N qual scope f cdv A outer s H E) body t/\t { nx:=λ_ H'=>Q .non H',rt:=Q } (AR N vs) H) :
  FnOk P w K mg base CX (k+1) f (PySem.W.fnOf name qual params body scope dV kV doc pm an cdv ct) ps sp:=by
 refine⟨len,λA outer s H args us vs Q E hr e0 hb r hsp=>?_⟩;have hl:=len _ _ _ _ hsp;have KX:K.In s.heap:=e0.mod.kin.keeps λb o e=>(e0.bs b o e).1;have lim:s.heap.NoLimit:=e0.mod.nolimit.keeps λb o e=>(e0.bs b o e).1;have hkind:∀y∈ps.zip us,scope.names.lookup y.1=some .local∨(scope.names.lookup y.1=some .cell/\((cellsFrom (s.heap.objs.size+1) scope.names []).lookup y.1).isSome=true):=λ⟨n,v⟩ hy=>by
  rcases S.par n (List.of_mem_zip hy).1 with q | q
  ·exact .inl q
  ·exact .inr ⟨q,PySem.W.cellsFrom_some _ _ _ (.inl q)⟩
 refine codeAny_call_function hr.depth (KX _ _ lk) rfl S.co S.gen rfl (PySem.W.codeRec_of KX hcd) (hb _ _ _ _ ?_);refine wpAny_newFunctionEnv_cells S.kind hkind λenv he s1 x=>?_;subst he;refine⟨lim.keeps x.toInCall.keep,codeAny_func ?_⟩;obtain⟨t,ht,hq⟩:=hbody A outer s H vs Q E (hr.deeper _) hsp;have I:Inv (TD CX P w K mg base N qual scope f cdv A outer s H E) [] (AR N vs) H s1:=ST S hr.hd e0 hl r x;refine tG (ht [] s1 (AR N vs) H _ I hq) (λfl s' hs=>?_) λe s' hs=>hs;have fin:∀{σ':St} {H':Hp} {v:V} {u:Value},Inv (TD CX P w K mg base N qual scope f cdv A outer s H E) [] σ' H' s'->RelV v u->Q v H'->CE outer P w H s Q u s':=
  fun {σ' H' v u} J rv q=>⟨v,H',J.os,J.bare,J.base,J.hok,rv,q⟩
 cases fl with
 | ret u=>
  obtain⟨v,σ',H',J,rv,q⟩:=hs;exact fin J rv q
 | next=>
  obtain⟨σ',H',J,q⟩:=hs;exact fin (v:=V.non) (u:=Value.none) J rfl q
 | brk=>
  obtain⟨_,_,_,q⟩:=hs;exact False.elim q
 | cont=>
  obtain⟨_,_,_,q⟩:=hs;exact False.elim q
section
variable{X:Cx}{x:Str}{p pos:Pos}{e:Expr}{es:List Expr}{t:TA}{id T:String}{r:List V->Hp->VK->Prop}
def tCB(r:List V->Hp->VK->Prop)(t:TA):TE:=fun σ H Q=>t σ H λvs H1=>r vs H1 Q
theorem qD(hc:CallR X (.builtin id) r)(hg:Gl X x)(hm:X.mg x=none)(hv:bootBuiltins x=some (.builtin id))(ha:PA X (e::es) t)(hn:x≠"__name__":=by decide)(hdb:(x==("__debug__" :Str))=false:=by decide)
  (he:starEach (e::es) X.env=(false,eval e X.env)::starEach es X.env:=by rfl) (hpl:(backTo pos (starEach es X.env)).any (·.1)=false:=by rfl):PE X (.Call (.Name x p) (e::es) [] pos) (tCB r t):=by
 intro pins s σ H Q I h;refine wpAny_Call_Name_kw (xB I hg hm hv ?_ hn hdb);exact PyProof.Rows.callWith_builtin1 (thn (ha pos pins s σ H _ I h) λus s1 ⟨vs,H1,I1,r1,q1⟩=>hc pins s1 σ H1 vs us Q I1 r1 q1) he hpl
theorem qB(hc:CallR X (.type T) r)(hg:Gl X x)(hm:X.mg x=none)(hv:bootBuiltins x=some (.type T))(ha:PA X (e::es) t)(hn:x≠"__name__":=by decide)(hdb:(x==("__debug__" :Str))=false:=by decide)
  (he:starEach (e::es) X.env=(false,eval e X.env)::starEach es X.env:=by rfl) (hpl:(backTo pos (starEach es X.env)).any (·.1)=false:=by rfl):PE X (.Call (.Name x p) (e::es) [] pos) (tCB r t):=by
 intro pins s σ H Q I h;refine wpAny_Call_Name_kw (xB I hg hm hv ?_ hn hdb);exact PyProof.Rows.callWith_type1 (thn (ha pos pins s σ H _ I h) λus s1 ⟨vs,H1,I1,r1,q1⟩=>hc pins s1 σ H1 vs us Q I1 r1 q1) he hpl
end
end L2
namespace HT
open PySem PyProof.Rows
section
open PySem.SeqAt
open PySem.AutoSeq1 (wpAny_loadPart')
open PySem.MeetsSeq PySem.MeetsSeq2 PySem.MeetsSeq3
end
section
variable{prog:Program}{w:World}{A:Around}{E:Value->Shared->Prop}{s:Shared}
theorem cat_tup{t b:Addr}{vs ws:List Value}{Q:Value->Shared->Prop}(ht:IsTup s.heap t vs.toArray)(hb:IsTup s.heap b ws.toArray)(hv:vs≠[])
  (h1:ws=[]->Q (.ref t) s) (h2:ws≠[]->Q (.ref s.heap.objs.size) { s with heap:=s.heap.push { cls:=.type "tuple",data:=.seq (vs++ws).toArray } })
  (hsz:vs.length+ws.length<=sizeLine):wpAny (model prog w) A (binaryOp .Add (.ref t) (.ref b)) Q E s:=by
 obtain⟨⟨cls,dd,data,sl⟩,ho,hc,n,hd⟩:=id ht;obtain⟨⟨cls2,dd2,data2,sl2⟩,ho2,hc2,n2,hd2⟩:=id hb;simp only at hc hd hc2 hd2;subst hc hd hc2 hd2;have e:vs.toArray++ws.toArray=(vs++ws).toArray:=by simp
 by_cases hw:ws=[]
 ·exact concat_meets ⟨_,ho,rfl⟩ ⟨_,ho2,rfl⟩ noFill_tuple_add seq_tuple_add PySem.F.slot_tuple_add PySem.F.entry_tuple_add (PySem.F.args_tuple_add_2 _ _)
   (tuple_addW1 t b vs.toArray ws.toArray n n2 dd dd2 sl sl2 (by simpa using hv) (by simp [hw])) ⟨ho,ho2,h1 hw⟩
 ·refine concat_meets ⟨_,ho,rfl⟩ ⟨_,ho2,rfl⟩ noFill_tuple_add seq_tuple_add PySem.F.slot_tuple_add PySem.F.entry_tuple_add (PySem.F.args_tuple_add_2 _ _)
   (tuple_addW2 t b vs.toArray ws.toArray n n2 dd dd2 sl sl2 (by simpa using hv) (by simpa using hw) (by rw[hU,hU];exact hsz)) ⟨ho,ho2, ?_⟩
  rw[e];exact h2 hw
def sIx(n d:Nat):Option Int->Nat
 | none=>d
 | some v=>if v<0 then(v+(n:Int)).toNat else min v.toNat n
theorem sIx_none(n d:Nat):sIx n d none=d:=rfl
theorem sIx_nat(n d k:Nat):sIx n d (some (k:Int))=min k n:=by
 show(if (k:Int)<0 then((k:Int)+(n:Int)).toNat else min (k:Int).toNat n)=min k n;rw[tH (by omega),mG]
end
end HT
namespace L2
open PySem PySem.Spec PyProof.Rows
abbrev TO:=St->Hp->(Option Int->Hp->Prop)->Prop
def PO(X:Cx)(e:Option Expr)(t:TO):Prop:=
 ∀(pins:List (Addr×Obj)) (s:Shared) (σ:St) (H:Hp) (Q:Option Int->Hp->Prop),Inv X pins σ H s->t σ H Q->
  wpAny (model X.prog X.w) X.A (evalPart e X.env) (λu s'=>∃o H',Inv X pins σ H' s'/\IsPart u o/\Q o H') X.xe s
def tNoPart:TO:=λ_ H Q=>Q none H
def tPart(t:TE):TO:=fun σ H Q=>t σ H λx H1=>∃i,x=.int i/\Q (some i) H1
theorem yF{ns:List Int} :∀{us:List Value},Vals (ns.map V.int) us->IntsAre us ns:=by
 induction ns with
 | nil=>intro us r;rw[List.map_nil]at r;cases r;exact .nil
 | cons n ns ih=>
  intro us r;rw[nC]at r;cases r with
  | cons r1 r2=>
   obtain⟨t,e⟩:=r1;subst e;exact .cons n t (ih r2)
section
variable{X:Cx}{e:Expr}{te:TE}{lo hi:Option Expr}{tl th:TO}{pos p2:Pos}
theorem xE:PO X none tNoPart:=by
 intro pins s σ H Q I h;rw[evalPart_none];exact tF ⟨none,H,I,.none,h⟩
theorem vW(h:PE X e te):PO X (some e) (tPart te):=by
 intro pins s σ H Q I hw;rw[evalPart_some];refine thn (h pins s σ H _ I hw) λu s1 ⟨x,H1,I1,r1,q1⟩=>?_;obtain⟨i,rfl,q⟩:=q1;obtain⟨t,rfl⟩:=r1;exact⟨some i,H1,I1,.int i t,q⟩
def SlR(X:Cx)(r:V->Option Int->Option Int->Hp->VK->Prop):Prop:=
 ∀(pins:List (Addr×Obj)) (s:Shared) (σ:St) (H:Hp) (x:V) (v vl vu:Value) (lo hi:Option Int) (sl:Addr) (Q:VK),Inv X pins σ H s->RelV x v->s.heap.IsSliceOf sl vl vu .none->IsPart vl lo->IsPart vu hi->r x lo hi H Q->
  ∃T id,typeLookup (.type T) "__getitem__" = pure (some (.builtin id))/\s.TypeIs v T/\wpAny (model X.prog X.w) X.A (getItem v (.ref sl)) (EP X pins σ Q) X.xe s
def tSl(r:V->Option Int->Option Int->Hp->VK->Prop)(te:TE)(tl th:TO):TE:=fun σ H Q=>te σ H λx H1=>tl σ H1 λl H2=>th σ H2 λu H3=>r x l u H3 Q
theorem vR{r:V->Option Int->Option Int->Hp->VK->Prop}(hr:SlR X r)(he:PE X e te)(hl:PO X lo tl)(hu:PO X hi th):PE X (.Subscript e (.Slice lo hi none p2) pos) (tSl r te tl th):=by
 intro pins s σ H Q I h;refine Subscript_ (thn (he pins s σ H _ I h) λv s1 ⟨x,H1,I1,r1,q1⟩=>?_);refine wpAny_Slice (thn (hl pins s1 σ H1 _ I1 q1) λvl s2 ⟨l,H2,I2,pl,q2⟩=>thn (hu pins s2 σ H2 _ I2 q2) λvu s3 ⟨u,H3,I3,pu,q3⟩=>?_);rw[evalPart_none];refine tF ?_;have I4:Inv X pins σ H3 { s3 with heap:=s3.heap.push { cls:=.type "slice",data:=.fields #[vl,vu,.none] } } :=I3.kept (t':=s3.toks) λb ob q=>uZ _ q;obtain⟨T,id,hT,ht,hg⟩:=hr pins { s3 with heap:=s3.heap.push { cls:=.type "slice",data:=.fields #[vl,vu,.none] } } σ H3 x v vl vu l u s3.heap.objs.size Q I4 r1 (Heap.IsSliceOf.new ..) pl pu q3;show wpAny (model X.prog X.w) X.A (subscriptTail e (.Slice lo hi none p2) v (.ref s3.heap.objs.size)) (EP X pins σ Q) X.xe { s3 with heap:=s3.heap.push { cls:=.type "slice",data:=.fields #[vl,vu,.none] } };exact tail_any (ops:=[.ref s3.heap.objs.size,v]) ht hT hg (by with_unfolding_all rfl)
def zT(xs:List V)(lo hi:Option Int):List V:=(xs.drop (HT.sIx xs.length 0 lo)).take (HT.sIx xs.length xs.length hi-HT.sIx xs.length 0 lo)
theorem LD(xs:List V)(lo hi:Option Int):(zT xs lo hi).length<=xs.length:=by
 unfold zT;rw[mI,List.length_drop];omega
theorem Vals.nil_iff{xs:List V}{us:List Value}(r:Vals xs us):us=[]↔xs=[]:=by
 cases r with
 | nil=>simp
 | cons _ _=>simp
end
def ixN(n:Nat)(i:Int):Option Nat:=if 0<=i then(if i<n then some i.toNat else none)else if -(n:Int)<=i then some (i+n).toNat else none
def atI{α:Type}(xs:List α)(i:Int):Option α:=(ixN xs.length i).bind λj=>xs[j]?
theorem PM{n:Nat}{i:Int}{j:Nat}(h:ixN n i=some j):seqIndex? i n=some j/\j<n/\-(n:Int)<=i/\i<n:=by
 unfold ixN at h;by_cases h0:0<=i
 ·rw[tI h0]at h;by_cases h1:i<n
  ·rw[tI h1]at h;have e:i.toNat=j:=Option.some.inj h;exact⟨by rw[seqIndex_of h0 h1,e],by omega,by omega,h1⟩
  ·rw[tH h1]at h;cases h
 ·rw[tH h0]at h;by_cases h1: -(n:Int)<=i
  ·rw[tI h1]at h;have e:(i+n).toNat=j:=Option.some.inj h;exact⟨by rw[seqIndex_neg (by omega) h1,e],by omega,h1,by omega⟩
  ·rw[tH h1]at h;cases h
theorem QR{α:Type}{xs:List α}{i:Int}{v:α}(h:atI xs i=some v):∃j,seqIndex? i xs.length=some j/\xs[j]? = some v/\j<xs.length/\-(xs.length:Int)<=i/\i<xs.length:=by
 unfold atI at h;cases e:ixN xs.length i with
 | none=>rw[e]at h;cases h
 | some j=>
  rw[e]at h;obtain⟨h1,h2,h3,h4⟩:=PM e;exact⟨j,h1,h,h2,h3,h4⟩
theorem qS{α:Type}{xs:List α}{j:Nat}{v:α}(h:xs[j]? = some v):atI xs (j:Int)=some v:=by
 have hj:j<xs.length:=(uU.mp h).1;have e:ixN xs.length (j:Int)=some j:=by
  unfold ixN;rw[tI (by omega),tI (by omega)];simp
 unfold atI;rw[e];exact h
def PlainIx(b:Expr):Prop:=∀o i,subscripted b false o i=operate [o,i] (getItem o i)
def IxR(X:Cx)(r:R2):Prop:=
 ∀(value slice:Expr) (pins:List (Addr×Obj)) (s:Shared) (σ:St) (H:Hp) (x y:V) (v u:Value) (Q:VK),Inv X pins σ H s->RelV x v->RelV y u->r x y H Q->
  subscripted slice false v u=operate [v,u] (getItem v u)->wpAny (model X.prog X.w) X.A (subscriptTail value slice v u) (EP X pins σ Q) X.xe s
def MtR(X:Cx)(id:String)(r:V->List V->Hp->VK->Prop):Prop:=
 ∀(pins:List (Addr×Obj)) (s:Shared) (σ:St) (H:Hp) (x:V) (xs:List V) (v:Value) (us:List Value) (Q:VK),Inv X pins σ H s->RelV x v->Vals xs us->r x xs H Q->
  wpAny (model X.prog X.w) X.A (call (.builtin id) (v::us)) (EP X pins σ Q) X.xe s
section
variable{X:Cx}{a b:Expr}{ta tb:TE}{pos:Pos}
theorem jT{r:R2}(hr:IxR X r)(ha:PE X a ta)(hb:PE X b tb)(hs:PlainIx b):PE X (.Subscript a b pos) (tOp r ta tb):=by
 intro pins s σ H Q I h;exact Subscript_ (binT ha hb I h λv u s2 x y H2 I2 rx ry q=>hr a b pins s2 σ H2 x y v u Q I2 rx ry q (hs _ _))
def EI(K:tJ):R2:=λx y H Q=>∃p xs i v,x=.ref p/\y=.int i/\SqL K H p xs/\atI xs i=some v/\Q v H
def UP(K:tJ):R2:=λx y H Q=>∃p xs i v,x=.ref p/\y=.int i/\SqT K H p xs/\atI xs i=some v/\Q v H
theorem kK:IxR X (EI X.K):=by
 intro value slice pins s σ H x y v u Q I rx ry h hs;obtain⟨p,xs,i,z,rfl,rfl,hq,he,q⟩:=h;cases rx;obtain⟨t,rfl⟩:=ry;obtain⟨its,r,pl,hz⟩:=I.list hq;obtain⟨j,h1,h2,h3,h4,h5⟩:=QR he;obtain⟨w,ew,rw'⟩:=r.get h2;have hl:=r.length;have hn:=HW;have fin:EP X pins σ Q w s:=⟨z,H,I,rw',q⟩;by_cases h0:0<=i
 ·have hj:i.toNat=j:=by
   rw[seqIndex_of h0 h5]at h1;exact Option.some.inj h1
  exact item_listR pl.isList h0 (by omega) (by rw[hj];simpa using ew) fin hs
 ·have hj:(i+(its.toArray.size:Int)).toNat=j:=by
   rw[seqIndex_neg (by omega) h4]at h1;rw[hU,<-hl];exact Option.some.inj h1
  exact subscriptTail_builtinR (x:=w) pl.isList.typeIs slot_list_getitem.lookup
   (wpAny_getItem_list_neg (Q:=λr s'=>r=w/\EP X pins σ Q r s') pl.isList (by omega) (by rw[hU]<;>omega) (by omega) (by rw[hj];simpa using ew) ⟨rfl,fin⟩) hs
theorem jV:IxR X (UP X.K):=by
 intro value slice pins s σ H x y v u Q I rx ry h hs;obtain⟨p,xs,i,z,rfl,rfl,hq,he,q⟩:=h;cases rx;obtain⟨t,rfl⟩:=ry;obtain⟨its,r,pl,hz⟩:=I.tuple hq;obtain⟨j,h1,h2,h3,h4,h5⟩:=QR he;obtain⟨w,ew,rw'⟩:=r.get h2;have hl:=r.length;have hn:=HW;have fin:EP X pins σ Q w s:=⟨z,H,I,rw',q⟩;exact subscriptTail_builtinR (x:=w) pl.typeIs slot_tuple_getitem.lookup
  (getItem_tuple (j:=j) (Q:=λr s'=>r=w/\EP X pins σ Q r s') pl (by omega) (by omega) (by rw[hU,<-hl];exact h1) (by simpa using ew) ⟨rfl,fin⟩) hs
theorem MQ(its:List Value)(n j:Nat)(u:Value):Obj.mapSeq (·.setIfInBounds j u) { cls:=.type "list",data:=.seq its.toArray n } = { cls:=.type "list",data:=.seq (its.set j u).toArray n } :=by
 simp [Obj.mapSeq]
theorem Inv.lst{pins:List (Addr×Obj)}{σ:St}{H:Hp}{s:Shared}{p:Addr}{xs:List V}(I:Inv X pins σ H s)(h:H p=some (.lst xs)) :
  ∃(its:List Value) (n:Nat),Vals xs its/\s.heap.get? p=some { cls:=.type "list",data:=.seq its.toArray n }/\xs.length<=sizeLine:=by
 obtain⟨z,its,n,r,e⟩:=I.hok p _ h;exact⟨its,n,r,e,z⟩
theorem Inv.lstUpd{pins:List (Addr×Obj)}{σ:St}{H:Hp}{s:Shared}{p:Addr}{xs ys:List V}{its its':List Value}{n n':Nat}{f:Obj->Obj}(I:Inv X pins σ H s)(h:H p=some (.lst xs))
  (ho:s.heap.get? p=some { cls:=.type "list",data:=.seq its.toArray n }) (hf:f { cls:=.type "list",data:=.seq its.toArray n } = { cls:=.type "list",data:=.seq its'.toArray n' }) (r:Vals ys its') (hz:ys.length<=sizeLine) (t:Nat) :
  Inv X pins σ (upd H p (.lst ys)) { s with heap:=s.heap.update p f,toks:=t } :=by
 have e:(s.heap.update p f).get? p=some { cls:=.type "list",data:=.seq its'.toArray n' } :=by
  rw[Heap.get?_update_self f ho (by rw[hf]<;>rfl),hf]
 refine I.write (x:=p) (e:=p) (by rw[h];trivial) (.inl rfl) (λb u hb q=>(Heap.get?_update_other _ _ (Ne.symm hb)).trans q) ⟨_,e⟩ ?_;exact⟨hz,its',n',r,e⟩
def rSetL:V->V->V->Hp->(Hp->Prop)->Prop:=λo i v H Q=>∃p xs k j,o=.ref p/\i=.int k/\H p=some (.lst xs)/\ixN xs.length k=some j/\Q (upd H p (.lst (xs.set j v)))
theorem vC:PSet X rSetL:=by
 intro pins s σ H o i v ov iv u Q I ro ri rv h;obtain⟨p,xs,k,j,rfl,rfl,hp,hj,q⟩:=h;cases ro;obtain⟨t,rfl⟩:=ri;obtain⟨its,n,r,ho,hz⟩:=I.lst hp;obtain⟨h1,h2,h3,h4⟩:=PM hj;have hl:=r.length;have hn:=HW;have I':Inv X pins σ (upd H p (.lst (xs.set j v))) { s with heap:=s.heap.update p (Obj.mapSeq (·.setIfInBounds j u)) } :=
  I.lstUpd hp ho (MQ its n j u) (r.set rv j) (by rw[List.length_set];exact hz) s.toks
 by_cases h0:0<=k
 ·have hk:k.toNat=j:=by
   rw[seqIndex_of h0 h4]at h1;exact Option.some.inj h1
  exact PySem.W.ki_setAt ho h0 (by omega) (by rw[hU,<-hl];exact h4) (by rw[hk];exact⟨_,I',q⟩)
 ·have hk:(k+(its.toArray.size:Int)).toNat=j:=by
   rw[seqIndex_neg (by omega) h3]at h1;rw[hU,<-hl];exact Option.some.inj h1
  exact PySem.W.ki_setBack ho (by omega) (by rw[hU,<-hl];exact h3) (by omega) (by rw[hk];exact⟨_,I',q⟩)
theorem GK(lo hi:Option Int)(n:Nat):(sliceBounds lo hi none n).1=((HT.sIx n 0 lo:Nat):Int)/\(sliceBounds lo hi none n).2.1=((HT.sIx n n hi:Nat):Int)/\(sliceBounds lo hi none n).2.2=1:=by
 refine⟨?_, ?_,rfl⟩
 ·cases lo with
  | none=>simp [sliceBounds,HT.sIx]
  | some i=>
   simp only[sliceBounds,HT.sIx,Option.getD_none,show(1:Int)>0 by decide,if_true];by_cases h:i<0
   ·simp only[h,if_true]<;>omega
   ·simp only[h,if_false]<;>omega
 ·cases hi with
  | none=>simp [sliceBounds,HT.sIx]
  | some i=>
   simp only[sliceBounds,HT.sIx,Option.getD_none,show(1:Int)>0 by decide,if_true];by_cases h:i<0
   ·simp only[h,if_true]<;>omega
   ·simp only[h,if_false]<;>omega
theorem EG(its:List Value)(lo hi:Option Int):slicePick its.toArray lo hi none=((its.drop (HT.sIx its.length 0 lo)).take (HT.sIx its.length its.length hi-HT.sIx its.length 0 lo)).toArray:=by
 obtain⟨h1,h2,h3⟩:=GK lo hi its.toArray.size;unfold slicePick;rw[h1,h2,h3];simp only[sliceRange_one,pick_run,hU]<;>rfl
def rSlL(K:tJ):V->Option Int->Option Int->Hp->VK->Prop:=λx lo hi H Q=>∃a xs,x=.ref a/\SqL K H a xs/\∀p,H p=none->Q (.ref p) (upd H p (.lst (zT xs lo hi)))
theorem YI:SlR X (rSlL X.K):=by
 intro pins s σ H x v vl vu lo hi sl Q I rx hs pl pu h;obtain⟨a,xs,rfl,hx,q⟩:=h;cases rx;obtain⟨its,r,ht,hz⟩:=I.list hx;have hlen:=r.length;refine⟨"list",_,slot_list_getitem.lookup,ht.isList.typeIs, ?_⟩;refine wpAny_getItem_list_slice ht.isList hs pl pu .none (by simp) ?_ (by rw[hU]<;>omega);rw[EG,<-hlen];refine⟨.ref s.heap.objs.size,_,I.laid (t':=s.toks) (o:=.lst (zT xs lo hi)) (λb ob q=>uZ _ q) uO ?_,rfl,q _ (I.hok.fresh uO)⟩;exact⟨nK (LD xs lo hi) hz,_,0,(r.drop (HT.sIx xs.length 0 lo)).take (HT.sIx xs.length xs.length hi-HT.sIx xs.length 0 lo),gO _ rfl⟩
theorem qG:CallR X (.builtin "len") (λxs H Q=>∃p ys,xs=[.ref p]/\(SqL X.K H p ys∨SqT X.K H p ys)/\Q (.int ys.length) H):=by
 intro pins s σ H xs us Q I r h;obtain⟨p,ys,rfl,hq,q⟩:=h;obtain⟨u,rfl,rx⟩:=xA r;cases rx;have hn:=HW;rcases hq with hq | hq
 ·obtain⟨its,r',pl,hz⟩:=I.list hq;have hlen:=r'.length;exact Calls.call_len_list pl.isList (by simp only[hU]<;>omega) ⟨.int ys.length,H,I.tok _,⟨s.toks+1,by rw[hU,hlen]⟩,q⟩
 ·obtain⟨its,r',pl,hz⟩:=I.tuple hq;have hlen:=r'.length;exact len_tuple pl (by simp only[hU]<;>omega) ⟨.int ys.length,H,I.tok _,⟨s.toks+1,by rw[hU,hlen]⟩,q⟩
theorem IO:CallR X (.type "list") (λxs H Q=>∃p ys,xs=[.ref p]/\(SqL X.K H p ys∨SqT X.K H p ys)/\∀l,H l=none->Q (.ref l) (upd H l (.lst ys))):=by
 intro pins s σ H xs us Q I r h;obtain⟨p,ys,rfl,hq,q⟩:=h;obtain⟨u,rfl,rx⟩:=xA r;cases rx;have fin:∀(its:List Value),Vals ys its->ys.length<=sizeLine->∀(h':Heap) (c':Nat),(∀b o',s.heap.get? b=some o'->h'.get? b=some o')->
   h'.get? s.heap.objs.size=some { cls:=.type "list",dict:=none,data:=.seq its.toArray c',slots:=#[] }->EP X pins σ Q (.ref s.heap.objs.size) { s with heap:=h' } :=λits r' hz h' c' kp e=>
  ⟨.ref s.heap.objs.size,_,I.laid (t':=s.toks) kp uO (show ObjOk X.prog X.w _ h' _ (.lst ys)from⟨hz,its,c',r',e⟩),rfl,q _ (I.hok.fresh uO)⟩
 rcases hq with hq | hq
 ·obtain⟨its,r',pl,hz⟩:=I.list hq;have hlen:=r'.length;obtain⟨o,ho,hc,n,hd⟩:=pl.isList;exact call_list_seq p (.inl rfl) ho hc hd (λh' c' kp e=>fin its r' hz h' c' kp e) (by simp only[hU]<;>omega)
 ·obtain⟨its,r',pl,hz⟩:=I.tuple hq;have hlen:=r'.length;obtain⟨o,ho,hc,n,hd⟩:=pl;exact call_list_seq p (.inr rfl) ho hc hd (λh' c' kp e=>fin its r' hz h' c' kp e) (by simp only[hU]<;>omega)
theorem xL:CallR X (.type "tuple") (λxs H Q=>∃p ys,xs=[.ref p]/\((SqL X.K H p ys/\∀l,H l=none->Q (.ref l) (upd H l (.tup ys)))∨(SqT X.K H p ys/\Q (.ref p) H))):=by
 intro pins s σ H xs us Q I r h;obtain⟨p,ys,rfl,h⟩:=h;obtain⟨u,rfl,rx⟩:=xA r;cases rx;rcases h with⟨hq,q⟩ | ⟨hq,q⟩
 ·obtain⟨its,r',pl,hz⟩:=I.list hq;have hlen:=r'.length;refine call_tuple_list pl.isList (λh' kp=>?_) (by simp only[hU]<;>omega);have I1:Inv X pins σ H { s with heap:=h' } :=I.kept (t':=s.toks) kp;have I2:Inv X pins σ (upd H h'.objs.size (.tup ys)) { s with heap:=h'.push { cls:=.type "tuple",data:=.seq its.toArray } } :=
   I1.laid (t':=s.toks) (λb o e=>uZ _ e) uO (show ObjOk X.prog X.w _ _ _ (.tup ys)from⟨hz,its,r',IsTup.new _ _,.of (gO _ rfl) rfl⟩)
  exact⟨.ref h'.objs.size,_,I2,rfl,q _ (I1.hok.fresh uO)⟩
 ·obtain⟨its,r',pl,hz⟩:=I.tuple hq;exact call_tuple_same pl ⟨.ref p,H,I,rfl,q⟩
def tyV(K:tJ)(T:String)(x:V)(H:Hp):Prop:=match x with
 | .str _=>T="str"
 | .int _=>T="int"
 | .ref p=>(T="list"/\∃xs,SqL K H p xs)∨(T="tuple"/\∃o,K.lookup p=some o/\o.cls=.type "tuple"/\o.dict=none)∨
   (T="dict"/\((∃kvs,H p=some (.dK kvs))∨∃kvs,H p=some (.dT kvs)))∨(T="set"/\∃S n,H p=some (.set S n))∨(T="tuple"/\∃xs,H p=some (.tup xs))
 | _=>False
theorem TY{pins:List (Addr×Obj)}{σ:St}{H:Hp}{s:Shared}{T:String}{x:V}{v:Value}(I:Inv X pins σ H s)(r:RelV x v)(ty:tyV X.K T x H) :
  s.TypeIs v T/\∀a,v=.ref a->∃ob,s.heap.get? a=some ob/\ob.dict=none:=by
 cases x with
 | str z=>
  obtain⟨t,rfl⟩:=r;cases (show T="str" from ty);exact⟨typeIs_str s z t,λ_ e=>nomatch e⟩
 | int i=>
  obtain⟨t,rfl⟩:=r;cases (show T="int" from ty);exact⟨typeIs_int s i t,λ_ e=>nomatch e⟩
 | ref p=>
  cases r;rcases ty with⟨rfl,xs,hq⟩ | ⟨rfl,o,hk,hc,hd⟩ | ⟨rfl,hk⟩ | ⟨rfl,S,n,hk⟩ | ⟨rfl,xs,hk⟩
  rotate_left 4
  ·obtain⟨_,its,_,⟨o,h1,h2,_⟩,nd⟩:=(show ObjOk X.prog X.w H s.heap p (.tup xs)from I.hok p _ hk);exact⟨⟨o,h1,h2⟩,λa e=>by cases e;exact⟨o,h1,nd _ h1⟩⟩
  ·obtain⟨its,_,pl,_⟩:=I.list hq;refine⟨pl.isList.typeIs,λa e=>?_⟩;cases e;obtain⟨o,n,e,c,hd,_⟩:=pl;exact⟨o,e,hd⟩
  ·refine⟨⟨o,I.kIn p o hk,hc⟩,λa e=>?_⟩;cases e;exact⟨o,I.kIn _ o hk,hd⟩
  ·have z:∃o,s.heap.get? p=some o/\o.ExactDict:=by
    rcases hk with⟨kvs,hk⟩ | ⟨kvs,hk⟩
    ·obtain⟨_,_,_,_,o,_,_,e,ex,_⟩:=I.hok p _ hk;exact⟨o,e,ex⟩
    ·obtain⟨_,_,_,_,o,_,_,e,ex,_⟩:=I.hok p _ hk;exact⟨o,e,ex⟩
   obtain⟨o,e,ex⟩:=z;refine⟨⟨o,e,ex.1⟩,λa e2=>?_⟩;cases e2;exact⟨o,e,ex.2.1⟩
  ·obtain⟨o,_,_,_,e,ex,_⟩:=I.hok p _ hk;refine⟨⟨o,e,ex.1⟩,λa e2=>?_⟩;cases e2;exact⟨o,e,ex.2.1⟩
 | _=>exact False.elim ty
def tBM0(K:tJ)(T:String)(r:V->List V->Hp->VK->Prop)(to:TE):TE:=fun σ H Q=>to σ H λx H1=>tyV K T x H1/\r x [] H1 Q
def tBM(K:tJ)(T:String)(r:V->List V->Hp->VK->Prop)(to:TE)(t:TA):TE:=fun σ H Q=>to σ H λx H1=>tyV K T x H1/\t σ H1 λxs H2=>r x xs H2 Q
variable{o e:Expr}{es:List Expr}{to:TE}{t:TA}{name:Str}{apos cpos:Pos}{T id:String}{r:V->List V->Hp->VK->Prop}
theorem UY(pa:PlainAttrs T)(slot:Slot T name id)(hty:typeOf (.builtin id)=pure (.type "method_descriptor"))(hm:MtR X id r)(ho:PE X o to)
  (hbase:attributeBase o name X.env (eval o X.env)=eval o X.env:=by rfl) (hline:(apos.endLine==cpos.line)=true:=by rfl):PE X (.Call (.Attribute o name apos) [] [] cpos) (tBM0 X.K T r to):=by
 intro pins s σ H Q I h;refine wpAny_Call_method0_late hbase hline (thn (ho pins s σ H _ I h) λv s1 ⟨x,H1,I1,r1,ty,q1⟩=>?_);obtain⟨h1,h2⟩:=TY I1 r1 ty;exact⟨T,id,pa,slot,hty,h1,h2,Calls.callWith_builtin rfl (PySem.evalArgs_none (hm pins s1 σ H1 x [] v [] Q I1 r1 .nil q1))⟩
theorem wW(pa:PlainAttrs T)(slot:Slot T name id)(hty:typeOf (.builtin id)=pure (.type "method_descriptor"))(hm:MtR X id r)(ho:PE X o to)(ha:PA X (e::es) t)
  (hbase:attributeBase o name X.env (eval o X.env)=eval o X.env:=by rfl)
  (hfew:((backTo cpos (starEach (e::es) X.env)).all (λx=>!x.1)&&(backToKw cpos (keywordEach [] X.env)).all (λx=>x.1.isSome)
   &&decide ((e::es).length+([]:List Keyword).length+(if ([]:List Keyword).isEmpty then 0 else 1)<30))=true:=by rfl)
  (hline:(apos.endLine==cpos.line)=true:=by rfl) (hs:starEach (e::es) X.env=(false,eval e X.env)::starEach es X.env:=by rfl) (hplain:(backTo cpos (starEach es X.env)).any (·.1)=false:=by rfl) :
  PE X (.Call (.Attribute o name apos) (e::es) [] cpos) (tBM X.K T r to t):=by
 intro pins s σ H Q I h;refine wpAny_Call_method_late hbase hfew hline rfl (thn (ho pins s σ H _ I h) λv s1 ⟨x,H1,I1,r1,ty,q1⟩=>?_);obtain⟨h1,h2⟩:=TY I1 r1 ty;refine⟨T,id,pa,slot,hty,h1,h2, ?_⟩;have hA:=ha cpos pins s1 σ H1 _ I1 q1;rw[hs]at hA ⊢;refine Calls.callWith_builtin (by show(false||(backTo cpos (starEach es X.env)).any (·.1))=false;rw[hplain]<;>rfl) (Calls.evalArgs_plain ?_);exact thn hA λus s2 ⟨vs,H2,I2,r2,q2⟩=>hm pins s2 σ H2 x vs v us Q I2 r1 r2 q2
end
def MtM(X:Cx)(id:String)(r:V->List V->Hp->VK->Prop):Prop:=
 ∀(pins:List (Addr×Obj)) (s:Shared) (σ:St) (H:Hp) (x:V) (xs:List V) (v:Value) (us:List Value) (Q:VK),Inv X pins σ H s->RelV x v->Vals xs us->r x xs H Q->
  wpAny (model X.prog X.w) X.A (call (.builtin id) (v::us)) (EP X pins σ Q) X.xe s
theorem Vals.one:∀{x:V} {us:List Value},Vals [x] us->∃u,us=[u]/\RelV x u
 | _,_,.cons r .nil=>⟨_,rfl,r⟩
theorem Vals.zero:∀{us:List Value},Vals [] us->us=[]
 | _,.nil=>rfl
theorem Vals.dropLast{xs:List V}{us:List Value}(h:Vals xs us):Vals xs.dropLast us.dropLast:=by
 induction h with
 | nil=>exact .nil
 | cons r t ih=>
  cases t with
  | nil=>exact .nil
  | cons q t'=>exact .cons r ih
theorem Vals.rep{xs:List V}{us:List Value}(h:Vals xs us):∀k:Nat,Vals (List.replicate k xs).flatten (List.replicate k us).flatten
 | 0=>.nil
 | k+1=>by
  rw[List.replicate_succ,List.replicate_succ,List.flatten_cons,List.flatten_cons];exact Vals.append h (Vals.rep h k)
theorem MY{α:Type}(l:List α):l.eraseIdx (l.length-1)=l.dropLast:=by
 induction l with
 | nil=>rfl
 | cons a r ih=>
  cases r with
  | nil=>rfl
  | cons b r=>
   have e:(a::b::r).length-1=((b::r).length-1)+1:=by
    have h1:(a::b::r).length=r.length+2:=rfl;have h2:(b::r).length=r.length+1:=rfl;omega
   rw[e,List.eraseIdx_cons_succ,ih];all_goals rfl
theorem FD(its:List Value):∀(k:Nat) (acc:List Value),
  List.foldl (λx1 x2=>x1++x2) acc.toArray (List.replicate k its.toArray)=(acc++(List.replicate k its).flatten).toArray
 | 0,acc=>by simp
 | k+1,acc=>by
  have e:acc.toArray++its.toArray=(acc++its).toArray:=by simp
  have e2:(acc++its)++(List.replicate k its).flatten=acc++(List.replicate (k+1) its).flatten:=by
   rw[List.replicate_succ,List.flatten_cons,hZ]
  rw[<-e2,<-FD its k (acc++its),<-e,List.replicate_succ,List.foldl_cons]
section
variable{X:Cx}{pins:List (Addr×Obj)}{σ:St}{H:Hp}{s:Shared}{l b:Addr}{xs ys zs:List V}
theorem Inv.lset{its its':List Value}{n:Nat}{f:Array Value->Array Value}{t':Nat}(I:Inv X pins σ H s)(hH:H l=some (.lst xs))
  (e:s.heap.get? l=some { cls:=.type "list",data:=.seq its.toArray n }) (hf:f its.toArray=its'.toArray) (hv:Vals ys its') (hz:ys.length<=sizeLine) :
  Inv X pins σ (upd H l (.lst ys)) { s with heap:=s.heap.update l (Obj.mapSeq f),toks:=t' } :=by
 have q:=PySem.IsL.update e f;rw[hf]at q;refine I.write (x:=l) (e:=l) (by rw[hH];exact trivial) (.inl rfl) (λb' u hb hu=>(Heap.get?_update_other s.heap (Obj.mapSeq f) (Ne.symm hb)).trans hu) ⟨_,q⟩ ?_;exact⟨hz,its',_,hv,q⟩
theorem Inv.lnew{its:List Value}{t':Nat}(I:Inv X pins σ H s)(hv:Vals ys its)(hz:ys.length<=sizeLine) :
  Inv X pins σ (upd H s.heap.objs.size (.lst ys)) { s with heap:=s.heap.push { cls:=.type "list",data:=.seq its.toArray },toks:=t' } :=
 I.laid (λ_ _ q=>uZ _ q) uO ⟨hz,its,0,hv,gO _ rfl⟩
theorem Inv.fresh(I:Inv X pins σ H s):H s.heap.objs.size=none:=I.hok.fresh uO 
theorem Inv.lstM(I:Inv X pins σ H s)(hH:H l=some (.lst xs)):xs.length<=sizeLine/\∃(its:List Value) (n:Nat),Vals xs its/\xs.length=its.length/\s.heap.get? l=some { cls:=.type "list",data:=.seq its.toArray n } :=by
 obtain⟨z,its,n,r,e⟩:=I.hok l _ hH;exact⟨z,its,n,r,r.length,e⟩
theorem JW{n:Nat}(h:n<=sizeLine):Builtin.List.listTooLong n=false:=by
 unfold Builtin.List.listTooLong;exact mR (by omega)
end
section
variable{X:Cx}
def rAppend:V->List V->Hp->VK->Prop:=λx vs H Q=>∃l xs y,x=.ref l/\vs=[y]/\H l=some (.lst xs)/\xs.length<sizeLine/\Q .non (upd H l (.lst (xs++[y])))
theorem kR:MtM X "list.append" rAppend:=by
 intro pins s σ H x vs v us Q I rx rv h;obtain⟨l,xs,y,rfl,rfl,hH,hz,q⟩:=h;cases rx;obtain⟨u,rfl,ru⟩:=rv.one;obtain⟨z,its,n,r,hl,e⟩:=I.lstM hH;refine call_meets F.slot_list_append ⟨_,e,rfl⟩ F.entry_list_append (F.args_list_append_2 _ _) (PySem.list_append l its.toArray n u (by rw[hU];omega)) ⟨e, ?_⟩;refine⟨.non,_,I.lset (its':=its++[u]) hH e (by simp) (r.append (.cons ru .nil)) ?_,rfl,q⟩;rw[gS,gG];omega
def rExtend:V->List V->Hp->VK->Prop:=λx vs H Q=>∃l b xs zs,x=.ref l/\vs=[.ref b]/\H l=some (.lst xs)/\H b=some (.lst zs)/\xs.length+zs.length<=sizeLine/\Q .non (upd H l (.lst (xs++zs)))
theorem mt_extend:MtM X "list.extend" rExtend:=by
 intro pins s σ H x vs v us Q I rx rv h;obtain⟨l,b,xs,zs,rfl,rfl,hH,hB,hz,q⟩:=h;cases rx;obtain⟨u,rfl,ru⟩:=rv.one;cases ru;obtain⟨z,its,n,r,hl,e⟩:=I.lstM hH;obtain⟨z2,its2,n2,r2,hl2,e2⟩:=I.lstM hB;have hsz:its.toArray.size+its2.toArray.size<=sizeLine:=by rw[hU,hU];omega
 have hlong:¬(!its.toArray.isEmpty&&Builtin.List.listTooLong (its.toArray.size+its2.toArray.size))=true:=by
  rw[JW hsz,Bool.and_false];exact gT
 refine call_meets F.slot_list_extend ⟨_,e,rfl⟩ F.entry_list_extend (F.args_list_extend_2 _ _)
  (AutoSeq1.list_extend_list_list_0 l its.toArray n b its2.toArray n2 hlong (by rw[hU];omega) (by omega)) ⟨e,e2, ?_⟩
 refine⟨.non,_,I.lset (its':=its++its2) hH e (by simp) (r.append r2) ?_,rfl,q⟩;rw[gS];omega
def rPop:V->List V->Hp->VK->Prop:=λx vs H Q=>∃l xs y,x=.ref l/\vs=[]/\H l=some (.lst xs)/\xs[xs.length-1]? = some y/\Q y (upd H l (.lst xs.dropLast))
theorem mt_pop:MtM X "list.pop" rPop:=by
 intro pins s σ H x vs v us Q I rx rv h;obtain⟨l,xs,y,rfl,rfl,hH,hy,q⟩:=h;cases rx;have hus:=rv.zero;subst hus;obtain⟨z,its,n,r,hl,e⟩:=I.lstM hH;obtain⟨u,hu,ru⟩:=r.get hy;have hy':its.toArray[its.toArray.size-1]? = some u:=by
  show its.toArray[its.length-1]? = some u;rw[<-Array.getElem?_toList,<-hl];exact hu
 refine call_meets F.slot_list_pop ⟨_,e,rfl⟩ F.entry_list_pop (F.args_list_pop_1 _) (MeetsSeq.list_pop_last l its.toArray n u hy' (by rw[hU];omega)) ⟨e, ?_⟩;refine⟨y,_,I.lset (its':=its.dropLast) hH e ?_ r.dropLast ?_,ru,q⟩
 ·show its.toArray.eraseIdxIfInBounds (its.toArray.size-1)=its.dropLast.toArray;rw[hU,List.eraseIdxIfInBounds_toArray,MY]
 ·rw[List.length_dropLast];omega
def rCat:R2:=λx y H Q=>∃l b xs zs,x=.ref l/\y=.ref b/\H l=some (.lst xs)/\H b=some (.lst zs)/\xs.length+zs.length<=sizeLine/\∀p,H p=none->Q (.ref p) (upd H p (.lst (xs++zs)))
theorem op_cat:OpR X (binaryOp .Add) rCat:=by
 intro pins s σ H x y v u Q I rx ry h;obtain⟨l,b,xs,zs,rfl,rfl,hH,hB,hz,q⟩:=h;cases rx;cases ry;obtain⟨z,its,n,r,hl,e⟩:=I.lstM hH;obtain⟨z2,its2,n2,r2,hl2,e2⟩:=I.lstM hB;refine PySem.P.add_list e e2 ?_ (by rw[hU,hU];omega);have ea:its.toArray++its2.toArray=(its++its2).toArray:=by simp
 rw[ea];exact⟨.ref _,_,I.lnew (t':=s.toks) (r.append r2) (by rw[gS];omega),rfl,q _ I.fresh⟩
def rRep:R2:=λx y H Q=>∃l k xs,x=.ref l/\y=.int k/\H l=some (.lst xs)/\-(2^63)<=k/\k<2^63/\xs.length*k.toNat<=sizeLine/\
 ∀p,H p=none->Q (.ref p) (upd H p (.lst (List.replicate k.toNat xs).flatten))
theorem len_rep{α:Type}(xs:List α)(k:Nat):(List.replicate k xs).flatten.length=k*xs.length:=by
 induction k with
 | zero=>simp
 | succ k ih=>rw[List.replicate_succ,List.flatten_cons,gS,ih,nQ,Nat.add_comm]
theorem op_rep:OpR X (binaryOp .Mult) rRep:=by
 intro pins s σ H x y v u Q I rx ry h;obtain⟨l,k,xs,rfl,rfl,hH,h1,h2,hz,q⟩:=h;cases rx;obtain⟨t,rfl⟩:=ry;obtain⟨z,its,n,r,hl,e⟩:=I.lstM hH;have hlen:its.toArray.size*k.toNat<=sizeLine:=by rw[hU,<-hl];exact hz
 have hcap:¬its.toArray.size*k.toNat>(2^63-1)/8:=by
  have:(sizeLine:Nat)<=(2^63-1)/8:=by decide
  omega
 have hfit:¬(!Builtin.List.listFitsIndex k)=true:=by
  rw[fitsIndex_both h1 h2];exact gT
 have hlong:¬Builtin.List.listTooLong (its.toArray.size*k.toNat)=true:=by
  rw[JW hlen];exact gT
 have hnew:List.foldl (λx1 x2=>x1++x2) #[] (List.replicate (if its.toArray.isEmpty=true then 0 else k.toNat) its.toArray)=(List.replicate k.toNat its).flatten.toArray:=by
  have f0:∀m:Nat,List.foldl (λx1 x2=>x1++x2) #[] (List.replicate m its.toArray)=(List.replicate m its).flatten.toArray:=λm=>by
   have:=FD its m [];rw[List.nil_append]at this;exact this
  rw[f0];cases its with
  | nil=>simp
  | cons a r'=>rw[tH (by simp)]
 refine wpAny_binaryOp_repeat_ref (T:="list") (U:="int") (by decide) ⟨_,e,rfl⟩ (λs'=>typeIs_int s' k t) noFill_list_mul F.fills_int_mul F.slot_int_rmul repeat_list F.slot_int_index.lookup
  (call_meets F.slot_int_rmul (typeIs_int s k t) F.entry_int_rmul (F.args_int_rmul_2 _ _) (int___rmul___int_list k t l its.toArray n)
   ⟨e,rfl,⟨_,e,rfl⟩,call_meets F.slot_list_mul ⟨_,e,rfl⟩ F.entry_list_mul (F.args_list_mul_2 _ _) (AutoListH.list___mul___list_int_3 l its.toArray n k t hfit hcap hlong) ⟨e, ?_⟩⟩)
 rw[hnew];exact⟨.ref _,_,I.lnew (t':=s.toks) (r.rep k.toNat) (by rw[len_rep,Nat.mul_comm];exact hz),rfl,q _ I.fresh⟩
end
section
variable{prog:Program}{w:World}{A:Around}{E:Value->Shared->Prop}{s:Shared}
set_option maxRecDepth 100000 in
end
section
variable{X:Cx}
end
end L2
namespace Att
open PySem PySem.W PySem.Calls PyProof.Rows
theorem AW{P:Params}{h:Heap} :∀(ns:List Int) (vs:List Value),WellAll P h vs (ns.map WData.int)->IntsAre vs ns:=by
 intro ns;induction ns with
 | nil=>
  intro vs w;rw[List.map_nil]at w;cases w;exact .nil
 | cons n ns ih=>
  intro vs w;rw[nC]at w;cases w with
  | cons a b=>
   cases a;exact .cons _ _ (ih _ b)
theorem RH{l:OpenLaw}{n:Nat}(hn:l.most=some n){P:Params}{h:Heap}{args:List WData}{vals:List Value}
  (hpre:l.row.toRowW.claim.pre args=true) (hwl:WellAll P h vals args) :
  ∃a vs ns,vals=[Value.ref a]/\args=[WData.list (ns.map WData.int)]/\h.get? a=some { cls:=.type "list",data:=.seq vs.toArray }/\IntsAre vs ns/\ns.length<=n:=by
 have hsh:WShape.hasAll [] args [.list .int]=true:=(pre_splitW hpre).1;have hc:l.pre.holds [] { args:=args } = true:=(pre_splitW hpre).2;obtain⟨d,r,rfl,h1,h2⟩:=hasAllW_cons hsh;obtain rfl:=hasAllW_nil h2;obtain⟨xs,rfl,h3⟩:=hasW_list h1;obtain⟨ns,rfl⟩:=items_int h3;have hlen:ns.length<=n:=by
  unfold OpenLaw.pre at hc;have h4:(WTm.not (.lt (.lit (.int (n:Int))) (.len (.arg 0)))).holds [] { args:=[.list (ns.map .int)] } = true:=by
   have h4:=(holds_andW hc).1;rw[hn]at h4;exact h4
  have h5:=condW_of h4 (w_not (w_lt w_lit (w_len_list (w_arg rfl))));rw[mP]at h5;refine Nat.le_of_not_lt λq=>?_;have q':(n:Int)<((ns.length:Nat):Int):=by omega
  first
   | (rw[mU q']at h5;exact absurd h5 (by decide))
   | (simp at h5;omega)
 cases hwl with
 | cons w1 w2=>
  cases w2;cases w1 with
  | list ho hall=>exact⟨_,_,ns,rfl,rfl,ho,AW ns _ hall,hlen⟩
theorem RT(l:OpenLaw)(args:List WData):l.row.toRowW.claim.post args (.bool true) args=true:=
 postW_of (r:=l.row.toRowW) (X:=(true==true))
  (show WShape.has [] (.bool true) .bool=true by first | rfl | decide | simp [WShape.has,WShape.arms,WShape.armsAll])
  (show(WTm.eq .res (.lit (.bool true))).value [] { args:=args,res:=some (.bool true),after:=args } = some (.bool (true==true))from w_eq_bool (w_res rfl) w_lit) rfl
theorem attach_call{l:OpenLaw}{n:Nat}{q:Program}{loose:List Str}{XP:(Str->Option Value)->Heap->Prop}{YP:World->Heap->Prop}{d:DefRec}
  (hn:l.most=some n) (hdf:d.params.defaults=[])
  (call:∀(w:World) (s₀ s₁:Shared) (mg mb:Str->Option Value) (fa:Addr) (o:Obj) (pm cd doc:Value) (a:Addr) (vs:List Value) (ns:List Int),
   Ground q loose [] XP w s₀ mg mb s₁.heap->YP w s₁.heap->
   s₁.heap.get? fa=some o->o.data=.func (docDef d.name d.params d.body d.scope pm cd doc)->s₁.heap.CodeRec cd d.name->mg d.name=some (.ref fa)->
   s₁.heap.get? a=some { cls:=.type "list",data:=.seq vs.toArray }->IntsAre vs ns->ns.length<=n->s₁.gens = #[]->
   codeAny (model l.prog w) callerA (.call (.ref fa) ⟨[.ref a],[]⟩) (λr s'=>r=.ok (.ret (.bool true))/\OldK s₁.heap s'.heap/\s'.os=s₁.os/\AllBare s'.gens) s₁) :
  WalkO q loose XP YP l.row.toRowW d [] (λf vs=>PySem.call f vs):=by
 intro w s₀ s₁ mg mb G Y fa o pm cd doc dV kV ho hd hcd hD hmg hg args vals as hpre hlay hrd hwl hlo;obtain rfl:dV=.none:=Dflts.none hD hdf;obtain rfl:kV=.none:=Dflts.noKw hD;obtain⟨a,vs,ns,rfl,rfl,hobj,hints,hlen⟩:=RH hn hpre hwl;refine enter_call (codeAny_mono (call w s₀ s₁ mg mb fa o pm cd doc a vs ns G Y ho (fd_plain hd) hcd hmg hobj hints hlen hg) λr s' hq=>?_);obtain⟨rfl,h2,h3,h4⟩:=hq;exact⟨.inl ⟨.bool true,.bool true,[],rfl,λ_=>rfl,.bool true,RT l _,λ_=>⟨List.Pairwise.nil,λ_ hm=>(nomatch hm)⟩⟩,h2,h3,h4⟩
section
variable{prog:Program}{w:World}{A:Around}{E:Value->Shared->Prop}{s:Shared}{K:Frag}
end
end Att
namespace L2
open PySem PySem.Spec PyProof.Rows
theorem ES:∀{vs:List Value} {ns:List Int},IntsAre vs ns->Vals (ns.map V.int) vs
 | _,_,.nil=>.nil
 | _,_,.cons n t h=>.cons ⟨t,rfl⟩ (ES h)
def Only(H:Hp):Prop:=∀b,H b=none∨∃o xs,H b=some (.frz o (.lst xs))
theorem WQ{P:Program}{w:World}{K:tJ}{mg mb:Str->Option Value}{CX:CXT}{k:Nat}{fa a:Addr}{fd:FuncData}{x:Str}{sp:Sp}{s₁:Shared}{vs:List Value}{ns:List Int}
  (KX:K.In s₁.heap) (hns:s₁.heap.Ns mainGlobals mg) (hb:s₁.heap.Ns builtinsNs mb) (hbb:∀x:Str,x≠"__name__"->mb x=bootBuiltins x) (hlim:s₁.heap.NoLimit) (hg:s₁.gens = #[])
  (ha:s₁.heap.get? a=some { cls:=.type "list",data:=.seq vs.toArray }) (hi:IntsAre vs ns) (hl:ns.length<=sizeLine) (hr:Room k callerA)
  (F:∀base:Heap,K.In base->base.Ns mainGlobals mg->FnOk P w K mg base CX k fa fd [x] sp) (hbind:∀(s:Shared) (u:Value),BindsTo s fd ⟨[u],[]⟩ [(x,u)])
  (hsp:∀H:Hp,Only H->SqL K H a (ns.map V.int)->sp [.ref a] H (λv _=>v=.bl true) λ_ _ _=>False)
  (hCX:∀H e s',CX [] H s₁ (λ_ _ _=>False) e s'->False) :
  codeAny (model P w) callerA (.call (.ref fa) ⟨[.ref a],[]⟩) (λr s'=>r=.ok (.ret (.bool true))/\OldK s₁.heap s'.heap/\s'.os=s₁.os/\AllBare s'.gens) s₁:=by
 have rv:=ES hi;have lenV:=hi.length;have core:∀H:Hp,Only H->SqL K H a (ns.map V.int)->HOk P w H s₁.heap->(∀b,H b≠none->b=a)->(H a≠none->K.lookup a=none)->
   codeAny (model P w) callerA (.call (.ref fa) ⟨[.ref a],[]⟩) (λr s'=>r=.ok (.ret (.bool true))/\OldK s₁.heap s'.heap/\s'.os=s₁.os/\AllBare s'.gens) s₁:=by
  intro H hO hS hok hA hK;have base_of:∀{b:Addr} {o:Obj},s₁.heap.get? b=some o->H b=none->(ID s₁.heap H).get? b=some o:=λe n=>WW e n;have noA:∀{b:Addr} {o:Obj} {es:Array DictEntry} {ep:Nat},s₁.heap.get? b=some o->o.data=.dict es ep->H b=none:=fun {b o es ep} e d=>by
   cases q:H b with
   | none=>rfl
   | some u=>
    have e':b=a:=hA b (by rw[q];simp);subst e';rw[ha]at e;cases e;have d':Data.seq vs.toArray _=Data.dict es ep:=d;cases d'
  have nsK:∀{b:Addr} {m:Str->Option Value},s₁.heap.Ns b m->(ID s₁.heap H).Ns b m:=fun {b m} ⟨o,es,ep,e,d,r⟩=>⟨o,es,ep,base_of e (noA e d),d,r⟩;have hKb:K.In (ID s₁.heap H):=λb o e=>base_of (KX b o e) (by
   cases q:H b with
   | none=>rfl
   | some u=>
    have e':b=a:=hA b (by rw[q];simp);subst e';rw[hK (by rw[q];simp)]at e;cases e)
  have hM:Mod K mg (ID s₁.heap H):=⟨hKb,nsK hns,⟨mb,nsK hb,hbb⟩,let ⟨mc,h1,h2⟩:=hlim;⟨mc,nsK h1,h2⟩⟩;have e0:Env0 P w K mg (ID s₁.heap H) callerA [] s₁ H:=⟨rfl,hM,λb o e=>ZX e,Nat.le_of_eq (SU _ _),trivial,λb hb=>absurd (show b∈([]:List Addr)from hb) (by simp),hok,.of_eq hg⟩;refine codeAny_mono ((F _ hKb (nsK hns)).run callerA [] s₁ H ⟨[.ref a],[]⟩ [.ref a] [.ref a] _ _ hr e0 (hbind s₁ (.ref a)) (.cons rfl .nil) (hsp H hO hS)) λr s' h=>?_;cases r with
  | error e=>exact(hCX H e s' h).elim
  | ok fl=>
   cases fl with
   | next=>exact False.elim h
   | brk=>exact False.elim h
   | cont=>exact False.elim h
   | ret u=>
    obtain⟨v,H',os,bare,un,hok',r',q⟩:=h;have q':v=.bl true:=q;subst q';obtain rfl:u=Value.bool true:=r';refine⟨rfl,OldK.of_keep λb o e=>?_,os,bare⟩;cases q:H b with
    | none=>exact un.keep b o e q (by intro z;exact absurd (show b∈([]:List Addr)from z) (by simp)) (by simp)
    | some u=>
     rcases hO b with z | ⟨ob,xs,z⟩
     ·rw[q]at z;cases z
     ·have z2:=un.frzs b ob _ z;obtain⟨e1,_⟩:=hok b _ z;obtain⟨e2,_⟩:=hok' b _ z2;rw[e]at e1;cases e1;exact e2
 cases hk:K.lookup a with
 | some o=>
  have e:=KX a o hk;rw[ha]at e;cases e;refine core (λ_=>none) (λ_=>.inl rfl) (.inr ⟨_,vs.toArray,_,hk,rfl,rfl,rfl,by rw[hU,lenV];exact hl,by simpa using rv⟩) (λb u z=>by have z':(none:Option HO)=some u:=z;cases z') (λb z=>absurd rfl z) λz=>absurd rfl z
 | none=>
  refine core (λb=>if b=a then some (.frz { cls:=.type "list",data:=.seq vs.toArray } (.lst (ns.map V.int)))else none) (λb=>?_) (.inl (.inr ⟨{ cls:=.type "list",data:=.seq vs.toArray },tI rfl⟩)) (λb u z=>?_) (λb z=>?_) λ_=>hk
  ·by_cases hb:b=a
   ·exact .inr ⟨_,_,tI hb⟩
   ·exact .inl (tH hb)
  ·by_cases hb:b=a
   ·have z':=(tI hb).symm.trans z;cases z';subst hb;exact⟨ha,by rw[mP];exact hl,vs,_,rv,ha⟩
   ·have z':=(tH hb).symm.trans z;cases z'
  ·by_cases hb:b=a
   ·exact hb
   ·exact absurd (tH hb) z
theorem YC{l:PySem.W.OpenLaw}{n k:Nat}{q:Program}{loose:List Str}{XP:(Str->Option Value)->Heap->Prop}{YP:World->Heap->Prop}{d:DefRec}{K:Params->tJ}{CX:World->CXT}{sp:World->Sp}{x:Str}
  (hn:l.most=some n) (hn2:n<=sizeLine) (hdf:d.params.defaults=[]) (hr:Room k callerA)
  (hY:∀(w:World) (h:Heap),YP w h->(K w.params).In h)
  (F:∀(w:World) (mg:Str->Option Value) (fa:Addr) (h:Heap),(K w.params).In h->h.Ns mainGlobals mg->mg d.name=some (.ref fa)->
   ∃fd:FuncData,(∀(s:Shared) (u:Value),BindsTo s fd ⟨[u],[]⟩ [(x,u)])/\
    ∀base:Heap,(K w.params).In base->base.Ns mainGlobals mg->FnOk l.prog w (K w.params) mg base (CX w) k fa fd [x] (sp w))
  (hsp:∀(w:World) (H:Hp) (a:Addr) (ns:List Int),ns.length<=n->Only H->SqL (K w.params) H a (ns.map V.int)->sp w [.ref a] H (λv _=>v=.bl true) λ_ _ _=>False)
  (hCX:∀(w:World) (H:Hp) (s:Shared) (e:Value) (s':Shared),CX w [] H s (λ_ _ _=>False) e s'->False) :
  PySem.W.WalkO q loose XP YP l.row.toRowW d [] (λf vs=>PySem.call f vs):=by
 refine Att.attach_call hn hdf λw s₀ s₁ mg mb fa o pm cd doc a vs ns G Y ho hd hcd hmg hobj hints hlen hg=>?_;have KX:=hY w _ Y;obtain⟨fd,hb,hF⟩:=F w mg fa _ KX G.T.g hmg;exact WQ KX G.T.g G.T.b G.T.builtins G.T.nolimit hg hobj hints (nK hlen hn2) hr hF hb (λH hO hS=>hsp w H a ns hlen hO hS) λH e s'=>hCX w H s₁ e s'
abbrev CX0:CXT:=λ_ _ _ _ _ _=>False
abbrev E0:XK:=λ_ _ _=>False
theorem jR{X:Cx} :Passes CX0 X E0:=λ_ _ _ _ _ _ _ h=>h.elim
structure Fun(K:tJ)(x qual:Str)(st:Stmt)(f:Addr)(fd:FuncData):Prop where
 ex:∃(oc:Value) (od:Option Addr) (kV doc pm:Value) (an:Option Addr) (cdv ct:Value) (osl:Array (Option Value)),
  fd=PySem.W.fnOf x qual (yG st) (xG st) (jQ st) .none kV doc pm an cdv ct/\K.lookup f=some ⟨oc,od,.func fd,osl⟩/\PySem.W.codeIn K cdv qual=true
 kp:PySem.W.keepIn K (.ref f)=true
section
variable{P:Program}{w:World}{K:tJ}{mg:Str->Option Value}{base:Heap}
theorem Fun.ok{x qual:Str}{st:Stmt}{f:Addr}{fd:FuncData}{N ps:List Str}{k:Nat}{sp:Sp}(F:Fun K x qual st f fd)(S:FnScope N ps (jQ st))(len:∀vs H Q E,sp vs H Q E->vs.length=ps.length)
  (hbody:∀(cdv:Value) (A:Around) (outer:List Env) (s:Shared) (H:Hp) (vs:List V) (Q:VK) (E:XK),Room k (A.deeper (envOfC qual (jQ st) s.heap.objs.size f cdv))->sp vs H Q E->
   ∃t,PSs (TD CX0 P w K mg base N qual (jQ st) f cdv A outer s H E).nox (xG st) t/\t { nx:=λ_ H'=>Q .non H',rt:=Q } (AR N vs) H):FnOk P w K mg base CX0 (k+1) f fd ps sp:=by
 obtain⟨oc,od,kV,doc,pm,an,cdv,ct,osl,rfl,lk,hcd⟩:=F.ex;refine fn_of lk hcd S len λA outer s H vs Q E hr hsp=>?_;obtain⟨t,h,q⟩:=hbody cdv A outer s H vs Q E hr hsp;exact⟨t,h.nox,q⟩
theorem Fun.binds{x qual:Str}{st:Stmt}{f:Addr}{fd:FuncData}{ps:List Str}(F:Fun K x qual st f fd)
  (h:∀(kV doc pm:Value) (an:Option Addr) (cdv ct:Value) (us:List Value),us.length=ps.length->bindArgs (PySem.W.fnOf x qual (yG st) (xG st) (jQ st) .none kV doc pm an cdv ct) ⟨us,[]⟩=pure (ps.zip us)):Binds K fd ps []:=by
 obtain⟨oc,od,kV,doc,pm,an,cdv,ct,osl,rfl,lk,hcd⟩:=F.ex;exact .all (h kV doc pm an cdv ct)
theorem MW{x qual:Str}{st:Stmt}{f:Addr}{oc:Value}{od an:Option Addr}{osl:Array (Option Value)}{kV doc pm cdv ct:Value}(l:K.lookup f=some ⟨oc,od,.func (PySem.W.fnOf x qual (yG st) (xG st) (jQ st) .none kV doc pm an cdv ct),osl⟩)
  (c:PySem.W.codeIn K cdv qual=true) (k:PySem.W.keepIn K (.ref f)=true):Fun K x qual st f (PySem.W.fnOf x qual (yG st) (xG st) (jQ st) .none kV doc pm an cdv ct):=⟨⟨oc,od,kV,doc,pm,an,cdv,ct,osl,rfl,l,c⟩,k⟩
end
section
variable{X:Cx}
theorem pv(i:Nat){x:Str}{pos:Pos}(hN:X.N[i]? = some x:=by rfl)(hv:Vis X.env.scope x:=by first | exact Or.inl rfl | exact Or.inr (Or.inl rfl) | exact Or.inr (Or.inr rfl))(hd:(x==("__debug__" :Str))=false:=by decide)
  (hcd:(x==("__classdict__" :Str))=false:=by decide):PE X (.Name x pos) (kI i):=pe_var hN hv hd hcd
end
theorem kY{A B:Prop}(h:B):if false=true then A else B:=by
 rw[tH gT];exact h
theorem vG{A B:Prop}(h:A):if true=true then A else B:=by
 rw[tI rfl];exact h
theorem AV{c A B:Prop} [Decidable c](h1:c->A)(h2:¬c->B):if c then A else B:=by
 by_cases h:c
 ·rw[tI h];exact h1 h
 ·rw[tH h];exact h2 h
def Same(H H':Hp):Prop:=∀b o,H b=some o->H' b=some o
theorem Same.refl(H:Hp):Same H H:=λ_ _ h=>h
theorem Same.trans{H H1 H2:Hp}(a:Same H H1)(b:Same H1 H2):Same H H2:=λc o h=>b c o (a c o h)
theorem Same.free{H H':Hp}(e:Same H H'){l:Addr}(h:H' l=Option.none):H l=Option.none:=by
 cases q:H l with
 | none=>rfl
 | some o=>
  rw[e l o q]at h;cases h
end L2
namespace LwM
theorem qP{a b c:Int}(h:Int.gcd a b=1)(d:c∣b):Int.gcd a c=1:=by
 have:=Int.gcd_dvd_gcd_of_dvd_right a d;rw[h]at this;exact Nat.eq_one_of_dvd_one this
theorem yO{a b c:Int}(h:Int.gcd a b=1)(d:c∣a):Int.gcd c b=1:=by
 rw[Int.gcd_comm]at h ⊢;exact qP h d
theorem add_low{t b o u:Int}(hb:0<b)(hu:0<u)(g1:Int.gcd t b=1)(g2:Int.gcd o u=1) :
  (t*(u/(Int.gcd b u:Int))+o*(b/(Int.gcd b u:Int)))/(Int.gcd (t*(u/(Int.gcd b u:Int))+o*(b/(Int.gcd b u:Int))) (Int.gcd b u):Int)=(t*u+o*b)/(Int.gcd (t*u+o*b) (b*u):Int)/\
  (b/(Int.gcd b u:Int))*(u/(Int.gcd (t*(u/(Int.gcd b u:Int))+o*(b/(Int.gcd b u:Int))) (Int.gcd b u):Int))=(b*u)/(Int.gcd (t*u+o*b) (b*u):Int):=by
 have sp:0<Int.gcd b u:=Int.gcd_pos_of_ne_zero_left _ (by omega);have c1:Int.gcd (b/(Int.gcd b u:Int)) (u/(Int.gcd b u:Int))=1:=Int.gcd_ediv_gcd_ediv_gcd sp;have d1:(Int.gcd b u:Int)∣b:=mN ..;have d2:(Int.gcd b u:Int)∣u:=mF ..;have e1:(Int.gcd b u:Int)*(b/(Int.gcd b u:Int))=b:=Int.mul_ediv_cancel' d1;have e2:(Int.gcd b u:Int)*(u/(Int.gcd b u:Int))=u:=Int.mul_ediv_cancel' d2;have sp':(0:Int)<(Int.gcd b u:Int):=by omega
 generalize hs:(Int.gcd b u:Int)=s at *;generalize hb':b/s=b' at *;generalize hu':u/s=u' at *;generalize hT:t*u'+o*b'=T at *;have v1:b'∣b:=⟨s,by rw[nV];exact e1.symm⟩;have v2:u'∣u:=⟨s,by rw[nV];exact e2.symm⟩;have x1:t*u+o*b=s*T:=by
  rw[<-hT,Int.mul_add,<-nI,<-nI,nV s t,nV s o,nI,nI,e1,e2]
 have x2:b*u=s*(b'*u):=by rw[<-nI,e1]
 have x3:b'*u=s*b'*u':=by rw[nV s b',nI,e2]
 have y1:Int.gcd T b'=1:=by
  rw[<-hT,Int.gcd_add_mul_right_left,Int.gcd_mul_right_left_of_gcd_eq_one (qP g1 v1),Int.gcd_comm];exact c1
 have y2:Int.gcd T u'=1:=by
  rw[<-hT,Int.add_comm,Int.gcd_add_mul_right_left,Int.gcd_mul_right_left_of_gcd_eq_one (qP g2 v2)];exact c1
 have z:Int.gcd T (b'*u)=Int.gcd T s:=by
  rw[x3,Int.gcd_mul_left_right_of_gcd_eq_one y2,Int.gcd_mul_left_right_of_gcd_eq_one y1]
 have g:(Int.gcd (t*u+o*b) (b*u):Int)=s*(Int.gcd T s:Int):=by
  rw[x1,x2,Int.gcd_mul_left,z,Int.natCast_mul,Int.natAbs_of_nonneg (by omega)]
 rw[g];refine⟨?_, ?_⟩
 ·rw[x1,Int.mul_ediv_mul_of_pos _ _ sp']
 ·rw[x2,Int.mul_ediv_mul_of_pos _ _ sp'];exact(Int.mul_ediv_assoc _ (Int.dvd_trans (mF ..) d2)).symm
theorem mul_low{t b o u:Int}(hb:0<b)(hu:0<u)(g1:Int.gcd t b=1)(g2:Int.gcd o u=1) :
  (t/(Int.gcd t u:Int))*(o/(Int.gcd o b:Int))=(t*o)/(Int.gcd (t*o) (b*u):Int)/\
  (b/(Int.gcd o b:Int))*(u/(Int.gcd t u:Int))=(b*u)/(Int.gcd (t*o) (b*u):Int):=by
 have fp:0<Int.gcd t u:=Int.gcd_pos_of_ne_zero_right _ (by omega);have sp:0<Int.gcd o b:=Int.gcd_pos_of_ne_zero_right _ (by omega);have c1:=Int.gcd_ediv_gcd_ediv_gcd fp;have c2:=Int.gcd_ediv_gcd_ediv_gcd sp;have e1:(Int.gcd t u:Int)*(t/(Int.gcd t u:Int))=t:=Int.mul_ediv_cancel' (mN ..);have e2:(Int.gcd t u:Int)*(u/(Int.gcd t u:Int))=u:=Int.mul_ediv_cancel' (mF ..);have e3:(Int.gcd o b:Int)*(o/(Int.gcd o b:Int))=o:=Int.mul_ediv_cancel' (mN ..);have e4:(Int.gcd o b:Int)*(b/(Int.gcd o b:Int))=b:=Int.mul_ediv_cancel' (mF ..);have fp':(0:Int)<(Int.gcd t u:Int):=by omega
 have sp':(0:Int)<(Int.gcd o b:Int):=by omega
 generalize (Int.gcd t u:Int)=f at *;generalize (Int.gcd o b:Int)=s at *;generalize t/f=t' at *;generalize u/f=u' at *;generalize o/s=o' at *;generalize b/s=b' at *;have v1:t'∣t:=⟨f,by rw[nV];exact e1.symm⟩;have v2:u'∣u:=⟨f,by rw[nV];exact e2.symm⟩;have v3:o'∣o:=⟨s,by rw[nV];exact e3.symm⟩;have v4:b'∣b:=⟨s,by rw[nV];exact e4.symm⟩;have x1:t*o=(f*s)*(t'*o'):=by
  rw[<-e1,<-e3];simp only[nI,Int.mul_left_comm,nV]
 have x2:b*u=(f*s)*(b'*u'):=by
  rw[<-e2,<-e4];simp only[nI,Int.mul_left_comm,nV]
 have n1:Int.gcd (t'*o') b'=1:=by
  rw[Int.gcd_mul_right_left_of_gcd_eq_one (yO (qP g1 v4) v1)];exact c2
 have n2:Int.gcd (t'*o') u'=1:=by
  rw[Int.gcd_mul_right_left_of_gcd_eq_one c1];exact yO (qP g2 v2) v3
 have n3:Int.gcd (t'*o') (b'*u')=1:=by
  rw[Int.gcd_mul_right_right_of_gcd_eq_one n1];exact n2
 have fs:(0:Int)<f*s:=nY fp' sp';have g:(Int.gcd (t*o) (b*u):Int)=f*s:=by
  rw[x1,x2,Int.gcd_mul_left,n3,Nat.mul_one,Int.natAbs_of_nonneg (by omega)]
 rw[g,x1,x2,Int.mul_ediv_cancel_left _ (by omega),Int.mul_ediv_cancel_left _ (by omega)];exact⟨rfl,rfl⟩
theorem KS(a b:Int):Int.gcd b (a%b)=Int.gcd a b:=by
 rw[Int.emod_def,nV b,Int.gcd_sub_mul_right_right,Int.gcd_comm]
theorem qV(a b:Int)(h:0<b):(1:Int)<=(Int.gcd a b:Int):=by
 have:0<Int.gcd a b:=Int.gcd_pos_of_ne_zero_right _ (by omega);omega
theorem WX(a b:Int)(h:0<b):(Int.gcd a b:Int)<=b:=Int.le_of_dvd h (mF a b)
theorem uJ(t g:Int)(h:1<=g):(t/g).natAbs<=t.natAbs:=by
 rcases Int.lt_or_le t 0 with n | n
 ·have h1:t/g<0:=Int.ediv_neg_of_neg_of_pos n (by omega);have h2:t<=t/g:=by
   rw[Int.le_ediv_iff_mul_le (by omega)];have:=Int.mul_le_mul_of_nonpos_left (a:=t) (b:=g) (c:=1) (by omega) h;omega
  omega
 ·have h1:0<=t/g:=Int.ediv_nonneg n (by omega);have h2:t/g<=t:=Int.ediv_le_self g n;omega
theorem log2_lt{n:Nat}{k:Nat}(hk:0<k)(h:n<2^k):n.log2<k:=by
 by_cases e:n=0
 ·subst e;simpa using hk
 ·exact(Nat.log2_lt e).mpr h
end LwM
namespace Lw
open PySem PySem.Spec PyProof.Rows L2
inductive Kd where
 | non | bl | int | str | lst | tup
 deriving DecidableEq
def Kd.ty:Kd->String
 | .non=>"NoneType" | .bl=>"bool" | .int=>"int" | .str=>"str" | .lst=>"list" | .tup=>"tuple"
inductive KdOf(H:Hp):V->Kd->Prop where
 | non:KdOf H .non .non
 | bl (b:Bool):KdOf H (.bl b) .bl
 | int (i:Int):KdOf H (.int i) .int
 | str (x:Str):KdOf H (.str x) .str
 | lst {a:Addr} {xs:List V} (e:H a=some (.lst xs)):KdOf H (.ref a) .lst
 | tup {a:Addr} {xs:List V} (e:H a=some (.tup xs)):KdOf H (.ref a) .tup
theorem KdOf.ty{K:tJ}{H:Hp}{v:V}{k:Kd}(h:KdOf H v k):TyOf K H v (.type k.ty):=by
 cases h with
 | non=>exact .non
 | bl b=>exact .bl b
 | int i=>exact .int i
 | str x=>exact .str x
 | lst e=>exact .lst e
 | tup e=>exact .tup e
def Kd.isBool:Kd->Bool
 | .bl=>true | _=>false
def Kd.isTup:Kd->Bool
 | .tup=>true | _=>false
def Isi(T:String)(f:Kd->Bool):Prop:=∀(K:tJ) (k:Kd),PySem.W.kitOne K (.type k.ty) (.type T)=some (f k)
theorem WS:Isi "bool" Kd.isBool:=λK k=>by cases k<;>rfl
theorem IB:Isi "tuple" Kd.isTup:=λK k=>by cases k<;>rfl
section
variable{X:Cx}
def rIsi(T:String)(f:Kd->Bool):List V->Hp->VK->Prop:=λxs H Q=>match xs with
 | [x,y]=>y=.ty T/\∃k,KdOf H x k/\Q (.bl (f k)) H
 | _=>False
theorem XW{T:String}{f:Kd->Bool}(hf:Isi T f):CallR X (.builtin "isinstance") (rIsi T f):=by
 intro pins s σ H xs us Q I r h
 match xs,h with
 | [x,y],h=>
  obtain⟨rfl,k,ty,q⟩:=h;obtain⟨u,w',rfl,ru,rw'⟩:=vals2 r;cases (show w'=Value.type T from rw');exact SS I ru (ty.ty) (hf X.K k) λtk=>⟨.bl (f k),H,I.tok tk,rfl,q⟩
theorem AH{T:String}{f:Kd->Bool}{x:Str}{e:Expr}{te:TE}{p p2 pos:Pos}(hf:Isi T f)(hm:X.mg "isinstance" = none)(hm2:X.mg x=none)(hb:bootBuiltins x=some (.type T))(he:PE X e te)
  (hg:Gl X "isinstance":=by rfl) (hg2:Gl X x:=by rfl) (hn:x≠"__name__":=by decide) (hd:(x==("__debug__" :Str))=false:=by decide)
  (hs:starEach [e,.Name x p2] X.env=(false,eval e X.env)::starEach [.Name x p2] X.env:=by rfl) (hs2:starEach [.Name x p2] X.env=(false,eval (.Name x p2) X.env)::starEach [] X.env:=by rfl)
  (hpl:(backTo pos (starEach [.Name x p2] X.env)).any (·.1)=false:=by rfl):PE X (.Call (.Name "isinstance" p) [e,.Name x p2] [] pos) (tCB (rIsi T f) (vJ te (vJ (tC (.ty T)) tNil))):=
 qD (X:=X) (p:=p) (pos:=pos) (XW hf) hg hm boot_isinstance (jA he (jA (YY (v:=.ty T) hg2 hm2 hb rfl hn hd) jC hs2) hs) (by decide) (by decide) hs hpl
theorem yW:∀{vs:List Value} {ns:List Int} {j:Nat} (_:IntsAre vs ns) (h:j<vs.length),∃n t,ns[j]? = some n/\vs[j]=.int n t
 | _,_,_,.nil,h=>absurd h (Nat.not_lt_zero _)
 | _,_,0,.cons n t _,_=>⟨n,t,rfl,rfl⟩
 | _,_,j+1,.cons _ _ r,h=>by
  obtain⟨n,t,e1,e2⟩:=yW (j:=j) r (by simpa using h);exact⟨n,t,by simpa using e1,by simpa using e2⟩
theorem yV:∀{vs:List Value} {ns:List Int},IntsAre vs ns->vs.length=ns.length
 | _,_,.nil=>rfl
 | _,_,.cons _ _ r=>by simp [yV r]
def CDivL(_ j:Int):Prop:=0<j/\j.natAbs<2^8000
theorem vE:OpR X (binaryOp .FloorDiv) (rI CDivL λi j=>.int (i/j)):=opI λi j _ _ _ _ _ hc q=>by
 refine floordiv_int (by have:=hc.1;omega) ?_ (.inl (PyProof.noPylong_of_log2 (gU (LwM.log2_lt (by decide) hc.2) (by decide))));rw[Int.fdiv_eq_ediv_of_nonneg _ (Int.le_of_lt hc.1)];exact q
def CMulL(i j:Int):Prop:=i.natAbs<2^100000/\j.natAbs<2^100000
theorem kH:OpR X (binaryOp .Mult) (rI CMulL λi j=>.int (i*j)):=opI λ_ _ _ _ _ _ _ hc q=>mul_int q (IntMulOk.of_bits (nK (PySem.intBits_le_iff.mpr hc.1) (by decide)) (nK (PySem.intBits_le_iff.mpr hc.2) (by decide)))
end
theorem IA{c:Bool}{A B:Prop}(h:c=true)(a:A):if c=true then A else B:=by
 rw[tI h];exact a
theorem CT{c:Bool}{A B:Prop}(h:c=false)(b:B):if c=true then A else B:=by
 subst h;exact kY b
theorem wM{t k:TS}{D:Ends}{σ:L2.St}{H:Hp}(J:L2.St->Hp->Prop)(h2:∀σ H,J σ H->k D σ H)(h1:(∀σ H,J σ H->k D σ H)->t { D with nx:=k D } σ H):qM t k D σ H:=h1 h2
def But(p:Addr)(H H':Hp):Prop:=∀c o,H c=some o->c≠p->H' c=some o
theorem But.refl(p:Addr)(H:Hp):But p H H:=λ_ _ h _=>h
theorem But.trans{p:Addr}{H H1 H2:Hp}(a:But p H H1)(b:But p H1 H2):But p H H2:=λc o h n=>b c o (a c o h n) n
theorem But.upd(p:Addr)(H:Hp)(o:HO):But p H (upd H p o):=λc _ h n=>by
 rw[jM n];exact h
theorem But.of{p:Addr}{H H':Hp}(s:Same H H'):But p H H':=λc o h _=>s c o h
theorem kD{H:Hp}{p:Addr}(o:HO)(n:H p=none):Same H (upd H p o):=λb q e=>by
 rw[jM (kL e n)];exact e
theorem fresh{H:Hp}{o:HO}{Q:VK}(h:∀p H',H p=none->Same H H'->H' p=some o->Q (.ref p) H'):∀p,H p=none->Q (.ref p) (upd H p o):=
 λp n=>h p _ n (kD o n) jG
def New(H:Hp)(o:HO)(Q:VK):Prop:=∀p H',H p=none->Same H H'->H' p=some o->Q (.ref p) H'
theorem New.at{H:Hp}{o:HO}{Q:VK}(h:New H o Q){p:Addr}(n:H p=none):Q (.ref p) (upd H p o):=h p _ n (kD o n) jG
section
variable{X:Cx}{es:List Expr}{t:TA}{pos:Pos}
def tTupF(t:TA):TE:=fun σ H Q=>t σ H λxs H1=>xs.length<=sizeLine/\New H1 (.tup xs) Q
def tLstF(t:TA):TE:=fun σ H Q=>t σ H λxs H1=>xs.length<=sizeLine/\New H1 (.lst xs) Q
theorem jW{x1}(h:PA X es t):PE X (.Tuple es x1 pos) (tTupF t):=by
 intro pins s σ H Q I hq;refine wpAny_Tuple_spliced (thn (h pos pins s σ H _ I hq) λus s1 ⟨xs,H1,I1,r,z,q⟩=>⟨by rw[<-r.length];exact z, ?_⟩);have hf:H1 s1.heap.objs.size=none:=I1.hok.fresh uO ;refine⟨.ref s1.heap.objs.size,upd H1 s1.heap.objs.size (.tup xs),I1.laid (t':=s1.toks) (λb u e=>uZ _ e) uO ?_,rfl,q.at hf⟩;exact⟨z,us,r,⟨_,gO _ rfl,rfl,_,rfl⟩,.of (gO _ rfl) rfl⟩
theorem qC(h:PA X es t):PE X (.List es pos) (tLstF t):=by
 intro pins s σ H Q I hq;refine wpAny_List_spliced (thn (h pos pins s σ H _ I hq) λus s1 ⟨xs,H1,I1,r,z,q⟩=>⟨by rw[<-r.length];exact z, ?_⟩);have hf:H1 s1.heap.objs.size=none:=I1.hok.fresh uO ;refine⟨.ref s1.heap.objs.size,upd H1 s1.heap.objs.size (.lst xs),I1.laid (t':=s1.toks) (λb u e=>uZ _ e) uO ?_,rfl,q.at hf⟩;exact⟨z,us,0,r,gO _ rfl⟩
theorem VB{f:Value->Value->Sem Value}{r r':R2}(h:OpR X f r)(i:∀x y H Q,r' x y H Q->r x y H Q):OpR X f r':=
 λpins s σ H x y v u Q I rx ry q=>h pins s σ H x y v u Q I rx ry (i x y H Q q)
theorem XV{f:Value}{r r':List V->Hp->VK->Prop}(h:CallR X f r)(i:∀xs H Q,r' xs H Q->r xs H Q):CallR X f r':=
 λpins s σ H xs us Q I rv q=>h pins s σ H xs us Q I rv (i xs H Q q)
theorem slr_of{r r':V->Option Int->Option Int->Hp->VK->Prop}(h:SlR X r)(i:∀x a b H Q,r' x a b H Q->r x a b H Q):SlR X r':=
 λpins s σ H x v vl vu lo hi sl Q I rx hs pl pu q=>h pins s σ H x v vl vu lo hi sl Q I rx hs pl pu (i x lo hi H Q q)
def rListF(K:tJ):List V->Hp->VK->Prop:=λxs H Q=>∃p ys,xs=[.ref p]/\(SqL K H p ys∨SqT K H p ys)/\New H (.lst ys) Q
theorem yJ:CallR X (.type "list") (rListF X.K):=XV IO λxs H Q ⟨p,ys,e,h,q⟩=>⟨p,ys,e,h,λl n=>q.at n⟩
def rCatF:R2:=λx y H Q=>∃l b xs zs,x=.ref l/\y=.ref b/\H l=some (.lst xs)/\H b=some (.lst zs)/\xs.length+zs.length<=sizeLine/\New H (.lst (xs++zs)) Q
theorem wX:OpR X (binaryOp .Add) rCatF:=VB op_cat λx y H Q ⟨l,b,xs,zs,e1,e2,h1,h2,h3,q⟩=>⟨l,b,xs,zs,e1,e2,h1,h2,h3,λp n=>q.at n⟩
def rSlLF(K:tJ):V->Option Int->Option Int->Hp->VK->Prop:=λx lo hi H Q=>∃a xs,x=.ref a/\SqL K H a xs/\New H (.lst (zT xs lo hi)) Q
theorem vQ:SlR X (rSlLF X.K):=slr_of YI λx a b H Q ⟨p,xs,e,h1,q⟩=>⟨p,xs,e,h1,λp n=>q.at n⟩
end
section
variable{prog:Program}{w:World}{A:Around}{R:Result->Shared->Prop}{s:Shared}
theorem yI{elt target iter:Expr}{scope:Scope}{pos:Pos}{it acc:Value}{env:Env}(I:Nat->Shared->Prop)
  (turn:∀n s,I n s->wpAny (model prog w) A (pyNext it) (λr s₁=>match r with
   | none=>R (.ok .next) s₁
   | some v=>wpAny (model prog w) A (letOwnedTupleGo target it v) (λ_ s₁'=>wpAny (model prog w) A (assign target env v) (λ_ s₂=>wpAny (model prog w) A (eval elt env) (λx s₃=>
     wpAny (model prog w) A (call (.builtin "list.append") [acc,x]) (λ_ s₄=>∃m,m<n/\I m s₄) (notedBy (model prog w) A env λe s'=>R (.error e) s') s₃)
     (notedBy (model prog w) A env λe s'=>R (.error e) s') s₂) (notedBy (model prog w) A env λe s'=>R (.error e) s') s₁') (notedBy (model prog w) A env λe s'=>R (.error e) s') s₁) (notedBy (model prog w) A env λe s'=>R (.error e) s') s)
  (n:Nat) (h:I n s) :
  codeAny (model prog w) A (.compLoop (.ListComp elt [⟨target,iter,[],0⟩] scope pos) 0 it acc env) R s:=by
 refine codeAny_loop rfl I (λn s hI=>?_) n h;show wpAny _ _ ((compTurn (.ListComp elt [⟨target,iter,[],0⟩] scope pos) 0 it acc env).onRaise (λx=>do noteFrame x env;theTreesLotGoes x)) _ _ s;refine wpAny_noted ?_;rw[compTurn_list1];refine tE (wpAny_standAt (tE (tG (turn n s hI) (λr s₁ h₁=>?_) λ_ _ h'=>h')));cases r with
 | none=>exact tF h₁
 | some v=>
  refine tE (tG h₁ (λ_ s₁' h₁'=>?_) λ_ _ h'=>h');exact tE (tG h₁' (λ_ s₂ h₂=>tE (tE (tG h₂ (λx s₃ h₃=>tE (tG h₃
   (λ_ s₄ h₄=>tF (tF ⟨rfl,h₄⟩)) λ_ _ h'=>h')) λ_ _ h'=>h'))) λ_ _ h'=>h')
end
def CompGo(n:Nat)(J:It)(g:TG)(te:TE)(Q:VK)(p:Addr)(H':Hp):Prop:=
 ∃W:Nat->Nat->List V->Hp->Prop,(∃m,W 0 m [] H')/\∀i m ys H2,W i m ys H2->H2 p=some (.lst ys)/\ys.length<sizeLine/\
  ((J.stop i H2/\Q (.ref p) H2)∨(J.go i H2/\∀x H3,J.yld i H2 x H3->g x (List.replicate n none) H3 fun σ4 H4=>te σ4 H4 λy H5=>H5 p=some (.lst ys)/\∃m',m'<m/\W (i+1) m' (ys++[y]) (upd H5 p (.lst (ys++[y])))))
section
variable{X:Cx}
end
mutual
inductive DecV(H:Hp):V->PyData->Prop where
 | non:DecV H .non .none
 | bl (b:Bool):DecV H (.bl b) (.bool b)
 | int (i:Int):DecV H (.int i) (.int i)
 | str (x:Str):DecV H (.str x) (.str x)
 | lst {a:Addr} {xs:List V} {ds:List PyData} (e:H a=some (.lst xs)) (h:DecVs H xs ds):DecV H (.ref a) (.list ds)
 | tup {a:Addr} {xs:List V} {ds:List PyData} (e:H a=some (.tup xs)) (h:DecVs H xs ds):DecV H (.ref a) (.tuple ds)
inductive DecVs(H:Hp):List V->List PyData->Prop where
 | nil:DecVs H [] []
 | cons {x:V} {d:PyData} {xs:List V} {ds:List PyData} (h:DecV H x d) (t:DecVs H xs ds):DecVs H (x::xs) (d::ds)
end
section
variable{X:Cx}
mutual
theorem DecV.reads{pins:List (Addr×Obj)}{σ:L2.St}{H:Hp}{s:Shared}(I:Inv X pins σ H s):∀{x:V} {d:PyData} {u:Value},DecV H x d->RelV x u->∃as,Reads s.heap u d as
 | _,_,_,.non,r=>by cases r;exact⟨_,.none⟩
 | _,_,_,.bl b,r=>by cases r;exact⟨_,.bool b⟩
 | _,_,_,.int i,r=>by obtain⟨t,rfl⟩:=r;exact⟨_,.int i t⟩
 | _,_,_,.str x,r=>by obtain⟨t,rfl⟩:=r;exact⟨_,.str x t⟩
 | _,_,_,.lst e h,r=>by
  cases r;obtain⟨its,rv,⟨o,n,ho,hc,_,hd⟩,_⟩:=I.list (SqL.of e);obtain⟨as,ra⟩:=DecVs.reads I h rv;exact⟨_,.list ho hc hd (by simpa using ra)⟩
 | _,_,_,.tup e h,r=>by
  cases r;obtain⟨its,rv,⟨o,ho,hc,n,hd⟩,_⟩:=I.tuple (SqT.of e);obtain⟨as,ra⟩:=DecVs.reads I h rv;exact⟨_,.tuple ho hc hd (by simpa using ra)⟩
theorem DecVs.reads{pins:List (Addr×Obj)}{σ:L2.St}{H:Hp}{s:Shared}(I:Inv X pins σ H s):∀{xs:List V} {ds:List PyData} {us:List Value},DecVs H xs ds->Vals xs us->∃as,ReadsAll s.heap us ds as
 | _,_,_,.nil,r=>by cases r;exact⟨_,.nil⟩
 | _,_,_,.cons h t,r=>by
  cases r with
  | cons q r=>
   obtain⟨as,ra⟩:=DecV.reads I h q;obtain⟨bs,rb⟩:=DecVs.reads I t r;exact⟨_,.cons ra rb⟩
end
def DataOk(d:PyData):Prop:=d.canLay0=true/\d.depth<=60
def rEqD:R2:=λx y H Q=>∃da db,DecV H x da/\DecV H y db/\DataOk da/\DataOk db/\Q (.bl (PyData.eqv da db)) H
def rNeD:R2:=λx y H Q=>∃da db,DecV H x da/\DecV H y db/\DataOk da/\DataOk db/\Q (.bl (!PyData.eqv da db)) H
theorem wB(hu:X.A.units+64<cLine):OpR X (compareOp .Eq) rEqD:=by
 intro pins s σ H x y v u Q I rx ry h;obtain⟨da,db,d1,d2,o1,o2,q⟩:=h;obtain⟨as,ra⟩:=d1.reads I rx;obtain⟨bs,rb⟩:=d2.reads I ry;exact SeqAt.rcAt_reads ra rb o1.1 o2.1 (by have:=o1.2;omega) _ _ _ _ ⟨.bl _,H,I,rfl,q⟩
theorem AI(hu:X.A.units+64<cLine):OpR X (compareOp .NotEq) rNeD:=by
 intro pins s σ H x y v u Q I rx ry h;obtain⟨da,db,d1,d2,o1,o2,q⟩:=h;obtain⟨as,ra⟩:=d1.reads I rx;obtain⟨bs,rb⟩:=d2.reads I ry;exact SeqAt.rcNeAt_reads ra rb o1.1 o2.1 (by have:=o1.2;omega) _ _ _ _ ⟨.bl _,H,I,rfl,q⟩
end
def CompW(xs:List V)(Pv:Nat->List V->Hp->Prop)(i m:Nat)(ys:List V)(H:Hp):Prop:=m=xs.length-i/\i<=xs.length/\ys.length=i/\Pv i ys H
theorem kF{xs:List V}{Pv:Nat->List V->Hp->Prop}{i m:Nat}{ys:List V}{x y:V}{H5:Hp}{p:Addr}(hx:xs[i]? = some x)(hm:m=xs.length-i)(hl:ys.length=i)(e:H5 p=some (.lst ys))(h:Pv (i+1) (ys++[y]) (upd H5 p (.lst (ys++[y])))) :
  H5 p=some (.lst ys)/\∃m',m'<m/\CompW xs Pv (i+1) m' (ys++[y]) (upd H5 p (.lst (ys++[y]))):=by
 have hi:i<xs.length:=(uU.mp hx).1;exact⟨e,xs.length-(i+1),by omega,rfl,by omega,by simp [hl],h⟩
section
end
def jO(X:Cx)(N:List Str)(scope:Scope)(cl:List (Str×Addr))(C:Addr)(fp:List Addr)(s2:Shared)(H2:Hp):Cx:=
 { X with N:=N,s₀:=s2,H₀:=H2,env:=compEnvC scope cl C X.env,outer:=X.stack,stack:=X.stack,ex:=fp,fn:=λ_=>false,pn:=[],xe:=λ_ _=>False }
def Keep(σ τ:L2.St):Prop:=∀(i:Nat) (v:V),σ[i]? = some (some v)->τ[i]? = some (some v)
theorem yN{x:Option V}{r:L2.St} :Keep (none::r) (x::r):=λi v h=>by
 cases i with
 | zero=>cases h
 | succ j=>exact h
theorem uC{x y:Option V}{r:L2.St} :Keep (none::none::r) (x::y::r):=λi v h=>by
 cases i with
 | zero=>cases h
 | succ j=>cases j with
  | zero=>cases h
  | succ k=>exact h
def CompGoF(σ0:L2.St)(J:It)(g:TG)(te:TE)(Q:VK)(p:Addr)(H':Hp):Prop:=
 ∃W:Nat->Nat->List V->Hp->Prop,(∃m,W 0 m [] H')/\∀i m ys H2,W i m ys H2->H2 p=some (.lst ys)/\ys.length<sizeLine/\
  ((J.stop i H2/\Q (.ref p) H2)∨(J.go i H2/\∀x H3,J.yld i H2 x H3->g x σ0 H3 fun σ4 H4=>Keep σ0 σ4/\te σ4 H4 λy H5=>H5 p=some (.lst ys)/\∃m',m'<m/\W (i+1) m' (ys++[y]) (upd H5 p (.lst (ys++[y])))))
def FX(own:Nat)(idx:List Nat)(wi:TI)(g:TG)(te:TE):TE:=fun σ H Q=>wi σ H λJ H1=>∀p H',H1 p=none->Same H1 H'->H' p=some (.lst [])->
 CompGoF (List.replicate own none++idx.map λj=>(σ[j]?).getD none) J g te Q p H'
section
variable{X:Cx}
theorem yH{pins:List (Addr×Obj)}{σ:L2.St}{H1:Hp}{s2:Shared}{N:List Str}{scope:Scope}{cl:List (Str×Addr)}{C:Addr}{fp:List Addr}(I:Inv X pins σ H1 s2)(hk:scope.kind=.function)
  (hsub:∀x c,cl.lookup x=some c->X.env.cells.lookup x=some c) (hhas:∀x,((relabel scope X.env).names.lookup x=some .cell∨(relabel scope X.env).names.lookup x=some .free)->∃c,cl.lookup x=some c)
  (hC:s2.heap.objs.size<=C) (hf:∀b∈fp,FpOk X pins H1 b) (hlt:∀b∈fp,b<s2.heap.objs.size):(jO X N scope cl C fp s2 H1).Ok where
 mod:=I.ok.mod
 kind:=hk
 glob:=I.ok.glob
 blt:=I.ok.blt
 above:=hC
 inj:=λx y c h1 h2=>I.ok.inj x y c (hsub x c h1) (hsub y c h2)
 has:=hhas
 cab:=λx c h _=>by cases h
 hd:=I.ok.hd
 frames:=I.ok.frames
 stk:=.inl rfl
 exf:=λb hb=>⟨nM (gU (hlt b hb) hC),λx c h=>(hf b hb).2.2.2.2.1 x c (hsub x c h)⟩
 bs:=I.bs
 bsz:=nK I.ok.bsz I.sz
 noex:=λb o e hb=>by
  rcases(hf b hb).2.2.2.1 with z | z
  ·exact I.ok.noex b o e z
  ·exact absurd (gU (nJ e) (nK I.ok.bsz z)) (nH _)
 exfs:=λb hb z=>(nF.mp (I.stkSub b z)).elim (hf b hb).2.1 (hf b hb).2.2.1
 funs:=I.stack
 frf:=I.stkFree
theorem kX{own:Nat}{idx:List Nat}{N:List Str}{elt target iter:Expr}{scope:Scope}{cl:List (Str×Addr)}{pos:Pos}{wi:TI}{g:TG}{te:TE}(hc:X.calm=true)
  (hk:scope.kind=.function) (hclos:closureFor scope X.env=pure cl) (hcell:∀x∈scope.names,x.2≠.cell) (hnames:∀x∈scope.names,x.2=.local->scope.names.lookup x.1=some .local)
  (hsub:∀x c,cl.lookup x=some c->X.env.cells.lookup x=some c) (hhas:∀x,((relabel scope X.env).names.lookup x=some .cell∨(relabel scope X.env).names.lookup x=some .free)->∃c,cl.lookup x=some c)
  (hlen:N.length=own+idx.length)
  (hidx:∀(k j:Nat) (x:Str),idx[k]? = some j->N[own+k]? = some x->X.N[j]? = some x/\X.env.kindOf x=some .cell/\(relabel scope X.env).names.lookup x=some .cell/\X.env.scope.names.lookup x=some .cell)
  (hi:PI X target iter wi) (hg:∀C fp s2 H2,PG (jO X N scope cl C fp s2 H2) target g) (he:∀C fp s2 H2,PE (jO X N scope cl C fp s2 H2) elt te)
  (hs:∀x,foldedSetIterable iter X.env x=pure x:=by intro _;rfl):PE X (.ListComp elt [⟨target,iter,[],0⟩] scope pos) (FX own idx wi g te):=by
 intro pins s σ H Q I h;rw[eval_ListComp];refine wpAny_comprehension_free (use:=none) rfl hs hclos hk hnames (thn (hi pins s σ H _ I h) λv s1 h1=>thn h1 λitv s2 h2=>?_);obtain⟨it,fp,tn,J,H1,e,I2,T,st2,f2,hR⟩:=h2;subst e;have hlt:∀b∈fp,b<s2.heap.objs.size:=λb hb=>by
  obtain⟨o,ho,_⟩:=T.obj 0 _ st2 b hb;exact nJ ho
 refine wpAny_newObj_type (wpAny_newFunctionEnv hcell (by intro y hy;simp at hy) (λh₁ hns₁ hsb₁=>?_) hk);dsimp only at hns₁ hsb₁ ⊢;generalize hHH:s2.heap.push { cls:=.type "list",dict:=none,data:=.seq ([]:List Value).toArray } = HH at hns₁ hsb₁ ⊢;have hCe:HH.objs.size=s2.heap.objs.size+1:=by rw[<-hHH,mZ]
 have hDC:s2.heap.objs.size≠HH.objs.size:=by rw[hCe];exact nM (mO _)
 have hCle:s2.heap.objs.size<=HH.objs.size:=by rw[hCe];exact Nat.le_succ _
 have old:∀b o,s2.heap.get? b=some o->h₁.get? b=some o:=λb o e=>hsb₁.extBut b o (by rw[hCe];exact nM (Nat.lt_succ_of_lt (nJ e))) (uZ _ (hHH▸uZ _ e));have hD:h₁.get? s2.heap.objs.size=some { cls:=.type "list",dict:=none,data:=.seq ([]:List Value).toArray } :=hsb₁.extBut _ _ hDC (uZ _ (hHH▸gO _ rfl));have nD:H1 s2.heap.objs.size=none:=I2.hok.fresh uO ;obtain⟨W,⟨m0,w0⟩,turn⟩:=hR s2.heap.objs.size _ nD (kD (.lst []) nD) jG;generalize hσ:(List.replicate own none++idx.map λj=>(σ[j]?).getD none:L2.St)=σ0 at turn;have lσ:σ0.length=N.length:=by rw[<-hσ,gS,gC,mP,hlen]
 have ok:=yH (N:=N) (cl:=cl) (C:=HH.objs.size) I2 hk hsub hhas hCle f2 hlt;have oldC:∀c v,s2.heap.IsCell c v->h₁.IsCell c v:=λc v ⟨o,ho,hd⟩=>⟨o,old c o ho,hd⟩;have I4:Inv (jO X N scope cl HH.objs.size fp s2 H1) [] σ0 (upd H1 s2.heap.objs.size (.lst [])) { s2 with heap:=h₁,toks:=s2.toks+([]:List (Str×Value)).length } :=by
  refine⟨ok,rfl,I2.bare,Un.laid old uO nD,⟨_,hns₁,λi x v e1 e2 _=>?_⟩,(λx c z=>?_), ?_,(λx c z=>?_),(λp hp=>nomatch hp),I2.hok.laid old uO ?_,lσ⟩
  ·
   rw[<-hσ]at e2;by_cases hi':i<own
   ·rw[uV (by rw[gC];exact hi'),List.getElem?_replicate]at e2;split at e2<;>cases e2
   ·obtain⟨k,rfl⟩:∃k,i=own+k:=⟨i-own,by omega⟩;rw[uS (by rw[gC];omega),gC,Nat.add_sub_cancel_left,hJ]at e2;cases ej:idx[k]? with
    | none=>rw[ej]at e2;cases e2
    | some j=>
     rw[ej,Option.map_some]at e2;have e2:=Option.some.inj e2;obtain⟨n1,n2,n3,n4⟩:=hidx k j x ej e1;have e3:σ[j]? = some (some v):=by
      cases q:σ[j]? with
      | none=>rw[q]at e2;cases e2
      | some y=>rw[q,Option.getD_some]at e2;rw[e2]
     obtain⟨m,hm,hl⟩:=I2.loc;obtain⟨u,ru,lk⟩:=hl j x v n1 e3 (.inr (.inl n4));refine⟨u,ru, ?_⟩;rcases lk with⟨kl,_⟩ | ⟨_,c,hcl,hic⟩
     ·rw[n2]at kl;cases kl
     ·obtain⟨c',hc'⟩:=hhas x (.inl n3);have:c'=c:=Option.some.inj ((hsub x c' hc').symm.trans hcl);subst this;exact .inr ⟨.inl n3,c',hc',oldC _ _ hic⟩
  ·obtain⟨v,hv⟩:=I2.cell x c (hsub x c z);exact⟨v,oldC _ _ hv⟩
  ·show(upd H1 s2.heap.objs.size (.lst [])) HH.objs.size=none;rw[jM (Ne.symm hDC)];exact I2.hok.fresh hCle
  ·obtain⟨v,hv⟩:=I2.cell x c (hsub x c z);show(upd H1 s2.heap.objs.size (.lst [])) c=none;rw[jM (nM hv.lt)];exact I2.freeC x c (hsub x c z)
  ·exact⟨by show 0<=sizeLine;decide,[],0,.nil,hD⟩
 have stat:∀{H':Hp},(∀b∈fp,H' b=none)->∀b∈fp,FpOk (jO X N scope cl HH.objs.size fp s2 H1) [] H' b:=λhn b hb=>
  ⟨hn b hb,(ok.exf b hb).1,ok.exfs b hb,.inl hb,(ok.exf b hb).2,λp hp=>nomatch hp⟩
 have st4:tn 0 h₁:=T.keep _ _ _ st2 λb _ o e=>old b o e;have fr4:∀b∈fp,(upd H1 s2.heap.objs.size (.lst [])) b=none:=λb hb=>by
  rw[jM (nM (hlt b hb))];exact(f2 b hb).1
 have loop:codeAny (model X.prog X.w) X.A (.compLoop (.ListComp elt [⟨target,iter,[],0⟩] scope pos) 0 (.ref it) (.ref s2.heap.objs.size) (compEnvC scope cl HH.objs.size X.env))
   (compPost (model X.prog X.w) X.A X.xe none (EP X pins σ Q) (.ref s2.heap.objs.size) HH.objs.size) { s2 with heap:=h₁,toks:=s2.toks+([]:List (Str×Value)).length } :=by
  refine yI (λn s'=>∃i ys H',Inv (jO X N scope cl HH.objs.size fp s2 H1) [] σ0 H' s'/\tn i s'.heap/\(∀b∈fp,H' b=none)/\W i n ys H') ?_ m0 ⟨0,[],_,I4,st4,fr4,w0⟩;rintro n s3 ⟨i,ys,H3,I3,st3,fr3,w3⟩;obtain⟨hp3,hz3,hw⟩:=turn i n ys H3 w3;rcases hw with⟨stop,qn⟩ | ⟨go,step⟩
  ·refine thn (T.done (jO X N scope cl HH.objs.size fp s2 H1) rfl rfl rfl hc i [] s3 _ H3 _ I3 (stat fr3) st3 stop) λr s4 ⟨hr,I5⟩=>?_;subst hr;obtain⟨m,hm,_⟩:=id I5.loc;refine⟨m,hm,λh' sb=>⟨.ref s2.heap.objs.size,H3, ?_,rfl,qn⟩⟩;have k:∀b o,b≠HH.objs.size->s4.heap.get? b=some o->h'.get? b=some o:=λb o hb e=>sb.extBut b o hb e;have nb:∀b o,s2.heap.get? b=some o->b≠HH.objs.size:=λb o e=>by rw[hCe];exact nM (Nat.lt_succ_of_lt (nJ e))
   have U:=I5.base;have fC:H3 HH.objs.size=none:=I5.free;refine I2.call' (ch:=fp) (s':={ s4 with heap:=h' }) I5.os ⟨λb o e n hb hx=>k b o (nb b o e) (U.keep b o e n hb hx),λb o e n hb hx=>?_,U.free,λb o e hx=>?_,U.tups,U.frzs,U.tbls⟩ (λb u e=>?_) I5.bare (λb hb=>⟨(f2 b hb).2.2.2.1,(f2 b hb).2.1,(f2 b hb).2.2.2.2.1,(f2 b hb).2.2.2.2.2⟩)
   ·obtain⟨sl,q⟩:=U.slot b o e n hb hx;exact⟨sl,k b _ (nb b o e) q⟩
   ·obtain⟨o',q⟩:=U.there b o e hx;exact⟨o',k b _ (nb b o e) q⟩
   ·refine(I5.hok b u e).stay (λc v hcc q=>k c v ?_ q) (λ_ q=>q) λ_ _ q=>q;rcases hcc with z | z
    ·rw[z];intro y;rw[y,fC]at e;cases e
    ·intro y;rw[y,fC]at z;cases z
  ·refine tG (T.item (jO X N scope cl HH.objs.size fp s2 H1) rfl rfl rfl hc i [] s3 _ H3 (λ_ _=>False) I3 (stat fr3) st3 go) (λr s4 ⟨u,hr,h4⟩=>?_) λ_ _ z=>z.elim;subst hr;refine tG h4 (λ_ s5 ⟨x,H5,I5,r5,y5,st5,fr5⟩=>?_) λ_ _ z=>z.elim;have I5':=I5.pinned (stat fr5) (T.obj _ _ st5);refine tG (hg _ _ _ _ _ s5 _ H5 x u _ I5' r5 (step x H5 y5)) (λ_ s6 ⟨σ6,H6,I6,kp6,q6⟩=>?_) λ_ _ z=>z.elim;refine tG (he _ _ _ _ _ s6 σ6 H6 _ I6 q6) (λy s7 ⟨yv,H7,I7,r7,q7⟩=>?_) λ_ _ z=>z.elim;obtain⟨e7,m',hm',w7⟩:=q7;refine tG (kR (X:=jO X N scope cl HH.objs.size fp s2 H1) _ s7 σ6 H7 (.ref s2.heap.objs.size) [yv] (.ref s2.heap.objs.size) [y] (λ_ H8=>H8=upd H7 s2.heap.objs.size (.lst (ys++[yv]))) I7 rfl (.cons r7 .nil) ⟨_,ys,yv,rfl,rfl,e7,hz3,rfl⟩) (λ_ s8 ⟨_,H8,I8,_,q8⟩=>?_) λ_ _ z=>z.elim;subst q8;refine⟨m',hm',i+1,_,_,(I8.unpinned).weak (by rw[lσ,I8.len];rfl) kp6,T.keep _ _ _ st5 λb hb o e=>(I8.pin (b,o) (gB _ (gB _ (kG hb e)))).1,λb hb=>?_,w7⟩;obtain⟨o,e,d⟩:=T.obj _ _ st5 b hb;exact(I8.pin (b,o) (gB _ (gB _ (kG hb e)))).2.1
 exact codeAny_compStart_list loop (T.self _ 0 _ _ _ st4 loop)
def hasB(names:List (Str×NameKind))(cl:List (Str×Addr)):Bool:=names.all λy=>match y.2 with
 | .cell=>(cl.lookup y.1).isSome
 | .free=>(cl.lookup y.1).isSome
 | _=>true
theorem qJ{names:List (Str×NameKind)}{cl:List (Str×Addr)}(h:hasB names cl=true):∀x,(names.lookup x=some .cell∨names.lookup x=some .free)->∃c,cl.lookup x=some c:=by
 intro x hx;have all:=List.all_eq_true.mp h;rcases hx with hx | hx
 ·have:=all _ (PySem.mem_of_lookup hx);exact Option.isSome_iff_exists.mp this
 ·have:=all _ (PySem.mem_of_lookup hx);exact Option.isSome_iff_exists.mp this
theorem qU{X:Cx}{scope:Scope}{own j0:Nat}{N:List Str}{x0:Str}(h0:N[own]? = some x0)(h:X.N[j0]? = some x0/\X.env.kindOf x0=some .cell/\(relabel scope X.env).names.lookup x0=some .cell/\X.env.scope.names.lookup x0=some .cell) :
  ∀(k j:Nat) (x:Str),[j0][k]? = some j->N[own+k]? = some x->X.N[j]? = some x/\X.env.kindOf x=some .cell/\(relabel scope X.env).names.lookup x=some .cell/\X.env.scope.names.lookup x=some .cell:=by
 intro k j x e1 e2
 match k,e1 with
 | 0,e1=>
  cases e1;rw[nU,h0]at e2;cases e2;exact h
 | k+1,e1=>cases e1
end
theorem BM{J:It}{xs:List V}{σ0:L2.St}{g:TG}{te:TE}{Q:VK}{p:Addr}{H':Hp}(Pv:Nat->List V->Hp->Prop)(hz:xs.length<sizeLine)(h0:Pv 0 [] H')
  (hgo:∀i ys H2,Pv i ys H2->i<xs.length->J.go i H2/\∀x H3,J.yld i H2 x H3->H3=H2/\xs[i]? = some x) (hst:∀ys H2,Pv xs.length ys H2->J.stop xs.length H2) (hl:∀i ys H2,Pv i ys H2->H2 p=some (.lst ys))
  (hs:∀i m ys x H2,xs[i]? = some x->m=xs.length-i->ys.length=i->Pv i ys H2->g x σ0 H2 fun σ4 H4=>Keep σ0 σ4/\te σ4 H4 λy H5=>H5 p=some (.lst ys)/\∃m',m'<m/\CompW xs Pv (i+1) m' (ys++[y]) (upd H5 p (.lst (ys++[y]))))
  (hd:∀ys H2,ys.length=xs.length->Pv xs.length ys H2->Q (.ref p) H2):CompGoF σ0 J g te Q p H':=by
 unfold CompGoF;refine⟨CompW xs Pv,⟨_,rfl,nX _,rfl,h0⟩, ?_⟩;rintro i m ys H2 ⟨hm,hi,hy,hp⟩;refine⟨hl i ys H2 hp,by omega, ?_⟩;by_cases hlt:i<xs.length
 ·obtain⟨g1,g2⟩:=hgo i ys H2 hp hlt;refine .inr ⟨g1,λx H3 y=>?_⟩;obtain⟨e3,z⟩:=g2 x H3 y;subst e3;exact hs i m ys x _ z hm hy hp
 ·have ei:i=xs.length:=by omega
  subst ei;exact .inl ⟨hst ys H2 hp,hd ys H2 hy hp⟩
theorem qX{K:tJ}{a:Addr}{xs:List V}{σ0:L2.St}{g:TG}{te:TE}{Q:VK}{p:Addr}{H':Hp}(Pv:Nat->List V->Hp->Prop)(hz:xs.length<sizeLine)(h0:Pv 0 [] H')
  (hl:∀i ys H2,Pv i ys H2->SqL K H2 a xs/\H2 p=some (.lst ys))
  (hs:∀i m ys x H2,xs[i]? = some x->m=xs.length-i->ys.length=i->Pv i ys H2->g x σ0 H2 fun σ4 H4=>Keep σ0 σ4/\te σ4 H4 λy H5=>H5 p=some (.lst ys)/\∃m',m'<m/\CompW xs Pv (i+1) m' (ys++[y]) (upd H5 p (.lst (ys++[y]))))
  (hd:∀ys H2,ys.length=xs.length->Pv xs.length ys H2->Q (.ref p) H2):CompGoF σ0 (Itl K a) g te Q p H':=
 BM Pv hz h0 (λi ys H2 h hi=>⟨⟨xs,xs[i],(hl i ys H2 h).1,by simp [hi]⟩,λx H3 y=>⟨y.1,y.2 xs (hl i ys H2 h).1⟩⟩) (λys H2 h=>⟨xs,(hl _ ys H2 h).1,nW _⟩) (λi ys H2 h=>(hl i ys H2 h).2) hs hd
theorem FJ{K:tJ}{a:Addr}{xs:List V}{σ0:L2.St}{g:TG}{te:TE}{Q:VK}{p:Addr}{H':Hp}(Pv:Nat->List V->Hp->Prop)(hz:xs.length<sizeLine)(h0:Pv 0 [] H')
  (hl:∀i ys H2,Pv i ys H2->SqT K H2 a xs/\H2 p=some (.lst ys))
  (hs:∀i m ys x H2,xs[i]? = some x->m=xs.length-i->ys.length=i->Pv i ys H2->g x σ0 H2 fun σ4 H4=>Keep σ0 σ4/\te σ4 H4 λy H5=>H5 p=some (.lst ys)/\∃m',m'<m/\CompW xs Pv (i+1) m' (ys++[y]) (upd H5 p (.lst (ys++[y]))))
  (hd:∀ys H2,ys.length=xs.length->Pv xs.length ys H2->Q (.ref p) H2):CompGoF σ0 (Itt K a) g te Q p H':=
 BM Pv hz h0 (λi ys H2 h hi=>⟨⟨xs,xs[i],(hl i ys H2 h).1,by simp [hi]⟩,λx H3 y=>⟨y.1,y.2 xs (hl i ys H2 h).1⟩⟩) (λys H2 h=>⟨xs,(hl _ ys H2 h).1,nW _⟩) (λi ys H2 h=>(hl i ys H2 h).2) hs hd
section
end
end Lw
namespace LwT
open PySem PySem.Spec PyProof.Rows L2 Lw
section
variable{l b:Addr}{as bs:List Value}{xs ys:List Int}{n n2:Nat}{dd dd2:Option Addr}{sl sl2:Array (Option Value)}
end
section
variable{X:Cx}
end
end LwT
namespace L2
open PySem PySem.Spec PyProof.Rows
section
variable{κ:Type} [DecidableEq κ]
def xI(kvs:List (κ×V))(k:κ):Option V:=(kvs.find? λkv=>decide (kv.1=k)).map (·.2)
def zZ(kvs:List (κ×V))(k:κ)(v:V):List (κ×V):=
 if (kvs.any λkv=>decide (kv.1=k))=true then kvs.map (λkv=>if kv.1=k then(kv.1,v)else kv)else kvs++[(k,v)]
def AU(kvs:List (κ×V))(k:κ):List (κ×V):=kvs.filter λkv=>decide (kv.1≠k)
theorem BP{p:κ×V}{r:List (κ×V)}{k:κ}(e:p.1=k):xI (p::r) k=some p.2:=by simp [xI,List.find?_cons,e]
theorem BQ{p:κ×V}{r:List (κ×V)}{k:κ}(e:¬p.1=k):xI (p::r) k=xI r k:=by simp [xI,List.find?_cons,e]
theorem IS(k:κ):∀kvs:List (κ×V),(kvs.any λkv=>decide (kv.1=k))=(xI kvs k).isSome
 | []=>rfl
 | p::r=>by
  rw[List.any_cons];by_cases e:p.1=k
  ·simp only[BP e,mU e,Bool.true_or,Option.isSome_some]
  ·rw[BQ e,mR e,Bool.false_or];exact IS k r
theorem AT(kvs:List (κ×V))(k:κ)(v:V):(zZ kvs k v).length<=kvs.length+1:=by
 unfold zZ;split
 ·rw[mP];omega
 ·rw[gS,mL,List.length_nil];omega
theorem RelO.isSome_eq{o:Option V}{u:Option Value}(r:RelO o u):o.isSome=u.isSome:=by
 cases o with
 | none=>cases u with
  | none=>rfl
  | some _=>exact(show False from r).elim
 | some _=>cases u with
  | none=>exact(show False from r).elim
  | some _=>rfl
theorem RelO.getD{o:Option V}{u:Option Value}{d:V}{d':Value}(r:RelO o u)(rd:RelV d d'):RelV (o.getD d) (u.getD d'):=by
 cases o with
 | none=>cases u with
  | none=>exact rd
  | some _=>exact(show False from r).elim
 | some _=>cases u with
  | none=>exact(show False from r).elim
  | some _=>exact r
theorem KV.val{kvs:List (κ×V)}{vs:List (κ×Value)}(r:KV kvs vs)(k:κ):RelO (xI kvs k) (valueAt vs k):=by
 unfold KV at r;induction r with
 | nil=>exact True.intro
 | @cons p q ps qs h t ih=>
  obtain⟨h1,h2⟩:=h;by_cases e:p.1=k
  ·have e':q.1=k:=h1.symm.trans e;have b:valueAt (q::qs) k=some q.2:=by simp [valueAt,List.find?_cons,e']
   rw[BP e,b];exact h2
  ·have e':¬q.1=k:=λz=>e (h1.trans z);have b:valueAt (q::qs) k=valueAt qs k:=by simp [valueAt,List.find?_cons,e']
   rw[BQ e,b];exact ih
theorem KV.any{kvs:List (κ×V)}{vs:List (κ×Value)}(r:KV kvs vs)(k:κ):(kvs.any λkv=>decide (kv.1=k))=vs.any λkv=>decide (kv.1=k):=by
 unfold KV at r;induction r with
 | nil=>rfl
 | cons h t ih=>rw[List.any_cons,List.any_cons,ih,h.1]
theorem KV.repl{kvs:List (κ×V)}{vs:List (κ×Value)}(r:KV kvs vs)(k:κ){y:V}{u:Value}(ry:RelV y u) :
  KV (kvs.map λkv=>if kv.1=k then(kv.1,y)else kv) (vs.map λkv=>if kv.1=k then(kv.1,u)else kv):=by
 unfold KV at r ⊢;induction r with
 | nil=>exact .nil
 | @cons p q ps qs h t ih=>
  rw[nC,nC];refine .cons ?_ ih;obtain⟨h1,h2⟩:=h;by_cases e:p.1=k
  ·rw[tI e,tI (h1.symm.trans e)];exact⟨h1,ry⟩
  ·rw[tH e,tH (λz=>e (h1.trans z))];exact⟨h1,h2⟩
theorem KV.put{kvs:List (κ×V)}{vs:List (κ×Value)}(r:KV kvs vs)(k:κ){y:V}{u:Value}(ry:RelV y u):KV (zZ kvs k y) (stored vs k u):=by
 unfold zZ stored;rw[r.any k];by_cases e:(vs.any λkv=>decide (kv.1=k))=true
 ·rw[tI e,tI e];exact r.repl k ry
 ·rw[tH e,tH e];exact Paired.snoc r ⟨rfl,ry⟩
theorem KV.length{kvs:List (κ×V)}{vs:List (κ×Value)}(r:KV kvs vs):kvs.length=vs.length:=Paired.length r
theorem XQ(kvs:List (κ×V))(k:κ):(AU kvs k).length<=kvs.length:=List.length_filter_le _ _
end
theorem KN{P:Program}{w:World}{k:Key}{u:Value}(r:RelV (kV k) u):(qE P w).is k u=true:=by
 cases k with
 | inl i=>obtain⟨t,e⟩:=(show ∃t,u=Value.int i t from r);subst e;exact KG P w i t
 | inr x=>obtain⟨t,e⟩:=(show ∃t,u=Value.str x t from r);subst e;exact KF P w x t
theorem FC{P:Program}{w:World} :∀{ks:List Key} {us:List Value},Vals (ks.map kV) us->ItemsAre (qE P w) ks us
 | [],_,r=>by rw[List.map_nil]at r;cases r;exact .nil
 | k::ks,_,r=>by
  rw[nC]at r;cases r with
  | cons h t=>exact .cons (KN h) (FC t)
abbrev KT(H:Hp):List (List Key×V)->List (List Key×Addr×Value)->Prop:=Paired λp q=>p.1=q.1/\H q.2.1=some (.tup (p.1.map kV))/\RelV p.2 q.2.2
theorem KT.val{H:Hp}{kvs:List (List Key×V)}{xs:List (List Key×Addr×Value)}(r:KT H kvs xs)(k:List Key):RelO (xI kvs k) ((atKey xs k).map (·.2)):=by
 induction r with
 | nil=>exact True.intro
 | @cons p q ps qs h t ih=>
  obtain⟨h1,_,h2⟩:=h;by_cases e:p.1=k
  ·have e':q.1=k:=h1.symm.trans e;have b:atKey (q::qs) k=some q.2:=by simp [atKey,List.find?_cons,e']
   rw[BP e,b];exact h2
  ·have e':¬q.1=k:=λz=>e (h1.trans z);have b:atKey (q::qs) k=atKey qs k:=by simp [atKey,List.find?_cons,e']
   rw[BQ e,b];exact ih
theorem KT.repl{H:Hp}{kvs:List (List Key×V)}{xs:List (List Key×Addr×Value)}(r:KT H kvs xs)(k:List Key){y:V}{u:Value}(ry:RelV y u) :
  KT H (kvs.map λkv=>if kv.1=k then(kv.1,y)else kv) (xs.map (putAt k u)):=by
 induction r with
 | nil=>exact .nil
 | @cons p q ps qs h t ih=>
  rw[nC,nC];refine .cons ?_ ih;obtain⟨h1,h2,h3⟩:=h;unfold putAt;by_cases e:p.1=k
  ·rw[tI e,tI (h1.symm.trans e)];exact⟨h1,h2,ry⟩
  ·rw[tH e,tH (λz=>e (h1.trans z))];exact⟨h1,h2,h3⟩
theorem KT.put{H:Hp}{kvs:List (List Key×V)}{xs:List (List Key×Addr×Value)}(r:KT H kvs xs)(k:List Key){b:Addr}{y:V}{u:Value}(hb:H b=some (.tup (k.map kV)))(ry:RelV y u) :
  KT H (zZ kvs k y) (storedH xs k b u):=by
 have e:(kvs.any λkv=>decide (kv.1=k))=(atKey xs k).isSome:=by
  rw[IS,(r.val k).isSome_eq,Option.isSome_map]
 unfold zZ storedH;rw[e];by_cases q:(atKey xs k).isSome=true
 ·rw[tI q,tI q];exact r.repl k ry
 ·rw[tH q,tH q];exact Paired.snoc r ⟨rfl,hb,ry⟩
theorem KT.keeps{H H':Hp}{kvs:List (List Key×V)}{xs:List (List Key×Addr×Value)}(r:KT H kvs xs)(ht:∀b ys,H b=some (.tup ys)->H' b=some (.tup ys)):KT H' kvs xs:=
 Paired.mapP r λ_ _ z=>⟨z.1,ht _ _ z.2.1,z.2.2⟩
section
variable{P:Program}{w:World}{H:Hp}{h:Heap}{a:Addr}
theorem rd_of{u:HO}(ok:HOk P w H h)(e:Rd H a u):ObjOk P w H h a u:=e.ok ok
theorem FE{kvs:List (Key×V)}(ok:HOk P w H h)(e:Rd H a (.dK kvs)):kvs.length<=sizeLine/\(a==sysModules)=false/\∃vs,KV kvs vs/\h.DictOf (qE P w) a vs:=
 show ObjOk P w H h a (.dK kvs)from rd_of ok e
theorem dk_of{kvs:List (Key×V)}(ok:HOk P w H h)(e:H a=some (.dK kvs)):kvs.length<=sizeLine/\(a==sysModules)=false/\∃vs,KV kvs vs/\h.DictOf (qE P w) a vs:=FE ok (.inl e)
theorem wC{ks:List Key}(ok:HOk P w H h)(e:H a=some (.tup (ks.map kV))):(tupleKind (qE P w)).is h ks a:=by
 obtain⟨_,its,r,⟨o,h1,h2,n,h3⟩,_⟩:=(show ObjOk P w H h a (.tup (ks.map kV))from ok a _ e);exact⟨o,its.toArray,n,h1,h2,h3,by simpa using FC r⟩
theorem DJ{kvs:List (List Key×V)}(ok:HOk P w H h)(e:Rd H a (.dT kvs)):kvs.length<=sizeLine/\(a==sysModules)=false/\
  ∃xs,KT H kvs xs/\h.DictOfH (tupleKind (qE P w)) a xs:=by
 obtain⟨z,y,xs,r,o,es,ep,h1,h2,h3,h4,h5⟩:=(show ObjOk P w H h a (.dT kvs)from rd_of ok e);refine⟨z,y,xs,r,o,es,ep,h1,h2,h3,h4,λx hx=>?_,h5⟩;have all:∀{l:List (List Key×V)} {m:List (List Key×Addr×Value)},KT H l m->∀x∈m,(tupleKind (qE P w)).is h x.1 x.2.1:=by
  intro l m q;induction q with
  | nil=>intro x hx;exact nomatch hx
  | @cons p q ps qs hq t ih=>
   intro x hx;rcases nF.mp hx with e | hx
   ·subst e;exact wC ok (by rw[<-hq.1];exact hq.2.1)
   ·exact ih x hx
 exact all r x hx
theorem dt_of{kvs:List (List Key×V)}(ok:HOk P w H h)(e:H a=some (.dT kvs)):kvs.length<=sizeLine/\(a==sysModules)=false/\
  ∃xs,KT H kvs xs/\h.DictOfH (tupleKind (qE P w)) a xs:=DJ ok (.inl e)
end
def DGet(H:Hp)(a:Addr)(y:V)(r:Option V):Prop:=
 (∃kvs k,Rd H a (.dK kvs)/\y=kV k/\r=xI kvs k)∨∃kvs k b,Rd H a (.dT kvs)/\y=.ref b/\H b=some (.tup (k.map kV))/\r=xI kvs k
def DPut(H:Hp)(a:Addr)(y v:V)(H':Hp):Prop:=
 (∃kvs k,H a=some (.dK kvs)/\y=kV k/\kvs.length<sizeLine/\H'=upd H a (.dK (zZ kvs k v)))∨
 ∃kvs k b,H a=some (.dT kvs)/\y=.ref b/\H b=some (.tup (k.map kV))/\kvs.length<sizeLine/\H'=upd H a (.dT (zZ kvs k v))
theorem DGet.t{H:Hp}{a b:Addr}{kvs:List (List Key×V)}{k:List Key}(e:H a=some (.dT kvs))(eb:H b=some (.tup (k.map kV))):DGet H a (.ref b) (xI kvs k):=.inr ⟨kvs,k,b,.inl e,rfl,eb,rfl⟩
theorem DPut.t{H:Hp}{a b:Addr}{kvs:List (List Key×V)}{k:List Key}{v:V}(e:H a=some (.dT kvs))(eb:H b=some (.tup (k.map kV)))(hl:kvs.length<sizeLine) :
  DPut H a (.ref b) v (upd H a (.dT (zZ kvs k v))):=.inr ⟨kvs,k,b,e,rfl,eb,hl,rfl⟩
section
variable{X:Cx}{pins:List (Addr×Obj)}{σ:St}{H:Hp}{s:Shared}{a:Addr}{y v:V}{u r:Value}{o:Option V}{A:Around}{E:Value->Shared->Prop}
theorem Inv.big(I:Inv X pins σ H s):sysModules<s.heap.objs.size:=by
 have h:mainGlobals<s.heap.objs.size:=(I.mod.glob.keeps I.bk).lt;exact Nat.lt_trans (by decide) h
theorem TC{Q:Value->Shared->Prop}(hu:A.units+1<cLine)(I:Inv X pins σ H s)(g:DGet H a y (some v))(ry:RelV y u)(h:∀w' s',Inv X pins σ H s'->RelV v w'->Q w' s') :
  wpAny (model X.prog X.w) A (getItem (.ref a) u) Q E s:=by
 rcases g with⟨kvs,k,e,ey,l⟩ | ⟨kvs,k,b,e,ey,eb,l⟩
 ·subst ey;obtain⟨z,hd,vs,rel,dd⟩:=FE I.hok e;obtain⟨w',hw,rw'⟩:=RelO.some_of (v:=v) (o:=valueAt vs k) (by rw[l];exact rel.val k);exact wpAny_getItem_of (KN ry) dd.mapOf hw (h w' _ (I.tok _) rw')
 ·subst ey;cases (show u=Value.ref b from ry);obtain⟨z,hd,xs,rel,dd⟩:=DJ I.hok e;obtain⟨w',hw,rw'⟩:=RelO.some_of (v:=v) (o:=(atKey xs k).map (·.2)) (by rw[l];exact rel.val k);obtain⟨p,hp,hp2⟩:=Option.map_eq_some_iff.mp hw;refine wpAny_getItem_heap (tupleKind_room_in1 hu) (wC I.hok eb) dd hp ?_;rw[hp2];exact h w' _ (I.tok _) rw'
theorem d_in{Q:Value->Shared->Prop}(hu:A.units+1<cLine)(I:Inv X pins σ H s)(g:DGet H a y o)(ry:RelV y u)(h:∀s',Inv X pins σ H s'->Q (.bool o.isSome) s') :
  wpAny (model X.prog X.w) A (compareOp .In u (.ref a)) Q E s:=by
 rcases g with⟨kvs,k,e,ey,l⟩ | ⟨kvs,k,b,e,ey,eb,l⟩
 ·subst ey;obtain⟨z,hd,vs,rel,dd⟩:=FE I.hok e;refine wpAny_in_of (KN ry) hd dd.mapOf ?_;rw[<-(rel.val k).isSome_eq,<-l];exact h _ (I.tok _)
 ·subst ey;cases (show u=Value.ref b from ry);obtain⟨z,hd,xs,rel,dd⟩:=DJ I.hok e;refine wpAny_in_heap (tupleKind_room_in1 hu) (wC I.hok eb) hd dd ?_;have q:=(rel.val k).isSome_eq;rw[Option.isSome_map]at q;rw[<-q,<-l];exact h _ (I.tok _)
theorem IL{h':Heap}{t':Nat}{ob:HO}(I:Inv X pins σ H s)(mu:Mut (H a))(hs:Heap.SameBut a s.heap h')(he:∃q,h'.get? a=some q)(new:ObjOk X.prog X.w (upd H a ob) h' a ob) :
  Inv X pins σ (upd H a ob) { s with heap:=h',toks:=t' } :=
 I.write (x:=a) (e:=a) mu (.inl rfl) (λb q hb z=>(hs.2 b hb).trans z) he new
theorem dk_new{P:Program}{w:World}{H':Hp}{h':Heap}{kvs:List (Key×V)}{vs:List (Key×Value)}(z:kvs.length<=sizeLine)(hd:(a==sysModules)=false)(rel:KV kvs vs)(dd:h'.DictOf (qE P w) a vs) :
  ObjOk P w H' h' a (.dK kvs):=⟨z,hd,vs,rel,dd⟩
theorem TB{H':Hp}{Q:Unit->Shared->Prop}(hu:A.units+1<cLine)(I:Inv X pins σ H s)(g:DPut H a y v H')(ry:RelV y u)(rv:RelV v r)(h:∀s',Inv X pins σ H' s'->Q () s') :
  wpAny (model X.prog X.w) A (setItem (.ref a) u r) Q E s:=by
 rcases g with⟨kvs,k,e,ey,l,eH⟩ | ⟨kvs,k,b,e,ey,eb,l,eH⟩
 ·subst ey eH;obtain⟨z,hd,vs,rel,dd⟩:=dk_of I.hok e;have hz:vs.length<=sizeLine:=by rw[<-rel.length];exact z
  have hl:(zZ kvs k v).length<=sizeLine:=by have:=AT kvs k v;omega
  refine wpAny_setItem_pairs (hsz:=hz) (KN ry) dd λh' dd' hs=>h _ ?_;have he:∃q,h'.get? a=some q:=let ⟨q,_,_,hq,_⟩:=dd';⟨q,hq⟩;exact IL I (by rw[e];exact True.intro) hs he (dk_new hl hd (rel.put k rv) dd')
 ·subst ey eH;cases (show u=Value.ref b from ry);obtain⟨z,hd,xs,rel,dd⟩:=dt_of I.hok e;have hz:xs.length<=sizeLine:=by rw[<-Paired.length rel];exact z
  have hl:(zZ kvs k v).length<=sizeLine:=by have:=AT kvs k v;omega
  refine wpAny_setItem_heap (hsz:=hz) (tupleKind_room_in1 hu) (wC I.hok eb) dd λh' dd' hs=>h _ ?_;obtain⟨q,es,ep,hq,h2,h3,h4,_,h5⟩:=dd';refine IL I (by rw[e];exact True.intro) hs ⟨q,hq⟩ ⟨hl,hd,_,(rel.put k eb rv).keeps λc ys ec=>?_,q,es,ep,hq,h2,h3,h4,h5⟩;rw[jM (ne_of ec e (λz=>nomatch z))];exact ec
end
section
variable{X:Cx}{pins:List (Addr×Obj)}{σ:St}{H:Hp}{s:Shared}{a:Addr}{kvs:List (Key×V)}{k:Key}{u:Value}{A:Around}{E:Value->Shared->Prop}
end
def NoSl(i:Expr):Prop:=∀ov iv,subscripted i false ov iv=operate [ov,iv] (getItem ov iv)
theorem YG{prog:Program}{w:World}{A:Around}{E:Value->Shared->Prop}{s:Shared}{env:Env}{value slice:Expr}{pos:Pos}{T id:String}{Q:Value->Shared->Prop}
  (hl:typeLookup (.type T) "__getitem__" = pure (some (.builtin id))) (hs:NoSl slice)
  (h:wpAny (model prog w) A (eval value env) (λo s₁=>wpAny (model prog w) A (eval slice env) (λi s₂=>s₂.TypeIs o T/\wpAny (model prog w) A (getItem o i) Q E s₂) E s₁) E s) :
  wpAny (model prog w) A (eval (.Subscript value slice pos) env) Q E s:=by
 refine Subscript_ (tG h (λo s₁ h₁=>tG h₁ (λi s₂ h₂=>?_) λ_ _ x=>x) λ_ _ x=>x);obtain⟨hT,h₂⟩:=h₂;unfold subscriptTail;refine tE ?_;rw[getitemInPython_of_ne hT.not_modules];refine tE (wpAny_specialOf hT hl ?_);have fin:wpAny (model prog w) A (subscripted slice false o i) (λr s₃=>wpAny (model prog w) A (letTemporaryGo value o r >>= λ_=>pure r) Q E s₃) E s₂:=by
  rw[hs o i];exact wpAny_operating (tG h₂ (λr s₃ h₃=>tE (wpAny_letTemporaryGo (tF h₃))) λ_ _ x=>x)
 first
  | exact tF (tE fin)
  | exact tE (tF (tE fin))
  | exact tE fin
theorem LA{X:Cx}{pins:List (Addr×Obj)}{σ:St}{H:Hp}{s:Shared}{a:Addr}{y:V}{o:Option V}(I:Inv X pins σ H s)(g:DGet H a y o):s.TypeIs (.ref a) "dict":=by
 rcases g with⟨kvs,k,e,_,_⟩ | ⟨kvs,k,b,e,_,_,_⟩
 ·obtain⟨_,_,vs,_,dd⟩:=FE I.hok e;exact dd.typeIs
 ·obtain⟨_,_,xs,_,dd⟩:=DJ I.hok e;exact dd.typeIs
def tDGet(td ty:TE):TE:=fun σ H Q=>td σ H λx H1=>ty σ H1 λy H2=>∃a v,x=.ref a/\DGet H2 a y (some v)/\Q v H2
def tDIn(ty td:TE):TE:=fun σ H Q=>ty σ H λy H1=>td σ H1 λx H2=>∃a o,x=.ref a/\DGet H2 a y o/\Q (.bl o.isSome) H2
def sDPut(td ty tv:TE):TS:=λD σ H=>tv σ H λv H1=>td σ H1 λx H2=>ty σ H2 λy H3=>∃a H4,x=.ref a/\DPut H3 a y v H4/\D.nx σ H4
section
variable{X:Cx}{o i e value:Expr}{pos pos' tpos:Pos}{td ty tv:TE}
theorem xZ(hu:X.A.units+1<cLine)(ho:PE X o td)(hi:PE X i ty)(hs:NoSl i):PE X (.Subscript o i pos) (tDGet td ty):=by
 intro pins s σ H Q I h;refine YG PySem.F.slot_dict_getitem.lookup hs (thn (ho pins s σ H _ I h) λu s1 ⟨x,H1,I1,rx,q1⟩=>thn (hi pins s1 σ H1 _ I1 q1) λiv s2 ⟨y,H2,I2,ry,a,v,ex,g,q2⟩=>?_);subst ex;obtain rfl:u=Value.ref a:=rx;exact⟨LA I2 g,TC hu I2 g ry λw' s3 I3 rw'=>⟨v,H2,I3,rw',q2⟩⟩
theorem pc_din(hu:X.A.units+1<cLine)(hi:PE X i ty)(ho:PE X o td):PC X .In i o (tDIn ty td):=by
 intro pins s σ H Q I h;refine thn (hi pins s σ H _ I h) λiv s1 ⟨y,H1,I1,ry,q1⟩=>thn (ho pins s1 σ H1 _ I1 q1) λu s2 ⟨x,H2,I2,rx,a,ov,ex,g,q2⟩=>?_;subst ex;obtain rfl:u=Value.ref a:=rx;exact d_in hu I2 g ry λs3 I3=>⟨.bl ov.isSome,H2,I3,rfl,q2⟩
theorem YS(hu:X.A.units+1<cLine)(ho:PE X o td)(hi:PE X i ty)(hv:PE X value tv)(hs:swapsWith value (some (.Subscript o i pos')) pos.line X.env=pure false) :
  PS X (.Assign [.Subscript o i pos'] value pos) (sDPut td ty tv):=by
 intro pins s σ H D I h;refine wpAny_Assign_Subscript (thn (hv pins s σ H _ I h) λr s1 ⟨v,H1,I1,rv,q1⟩=>thn (ho pins s1 σ H1 _ I1 q1) λu s2 ⟨x,H2,I2,rx,q2⟩=>thn (hi pins s2 σ H2 _ I2 q2) λiv s3 ⟨y,H3,I3,ry,a,H4,ex,g,q3⟩=>?_) hs;subst ex;obtain rfl:u=Value.ref a:=rx;exact TB hu I3 g ry rv λs4 I4=>⟨σ,H4,I4,q3⟩
end
theorem XN{P:Program}{w:World}{H:Hp}(h:Heap)(hb:sysModules<h.objs.size):ObjOk P w H (h.push { cls:=.type "dict",data:=.dict #[] }) h.objs.size (.dT []):=
 ⟨nX _,beq_eq_false_iff_ne.mpr (Ne.symm (nM hb)),[],.nil,_,#[],0,gO _ rfl,⟨rfl,rfl,rfl⟩,rfl,rfl,List.nodup_nil⟩
def tDNewT:TE:=λ_ H Q=>∀p,H p=none->Q (.ref p) (upd H p (.dT []))
section
variable{X:Cx}{pos:Pos}
theorem JN:PE X (.Dict [] [] pos) tDNewT:=λpins s σ H Q I h=>
 wpAny_Dict_empty ⟨.ref s.heap.objs.size,_,I.laid (a:=s.heap.objs.size) (o:=.dT []) (t':=s.toks) (λ_ _ q=>uZ _ q) uO (XN s.heap I.big),rfl,h _ (I.hok.fresh uO)⟩
end
structure M1(X:Cx)(o:Expr)(m:Str)(apos:Pos)(e:Expr)(cpos:Pos):Prop where
 base:attributeBase o m X.env (eval o X.env)=eval o X.env
 few:((backTo cpos (starEach [e] X.env)).all (λx=>!x.1)&&(backToKw cpos (keywordEach [] X.env)).all (λx=>x.1.isSome)
  &&decide (([e]:List Expr).length+([]:List Keyword).length+(if ([]:List Keyword).isEmpty then 0 else 1)<30))=true
 line:(apos.endLine==cpos.line)=true
 trees:backTo cpos (starEach [e] X.env)=[(false,eval e X.env)]
structure M2(X:Cx)(o:Expr)(m:Str)(apos:Pos)(e f:Expr)(cpos:Pos):Prop where
 base:attributeBase o m X.env (eval o X.env)=eval o X.env
 few:((backTo cpos (starEach [e,f] X.env)).all (λx=>!x.1)&&(backToKw cpos (keywordEach [] X.env)).all (λx=>x.1.isSome)
  &&decide (([e,f]:List Expr).length+([]:List Keyword).length+(if ([]:List Keyword).isEmpty then 0 else 1)<30))=true
 line:(apos.endLine==cpos.line)=true
 trees:backTo cpos (starEach [e,f] X.env)=[(false,eval e X.env),(false,eval f X.env)]
def IsD(H:Hp)(a:Addr):Prop:=(∃kvs,Rd H a (.dK kvs))∨∃kvs,Rd H a (.dT kvs)
theorem WT{X:Cx}{pins:List (Addr×Obj)}{σ:St}{H:Hp}{s:Shared}{a:Addr}(I:Inv X pins σ H s)(d:IsD H a) :
  s.TypeIs (.ref a) "dict"/\(∀b,Value.ref a=.ref b->∃ob,s.heap.get? b=some ob/\ob.dict=none)/\(a==sysModules)=false:=by
 rcases d with⟨kvs,e⟩ | ⟨kvs,e⟩
 ·obtain⟨_,hd,vs,_,dd⟩:=FE I.hok e;refine⟨dd.typeIs,λb q=>?_,hd⟩;cases q;obtain⟨ob,_,_,h1,h2,_⟩:=dd;exact⟨ob,h1,h2.2.1⟩
 ·obtain⟨_,hd,xs,_,dd⟩:=DJ I.hok e;refine⟨dd.typeIs,λb q=>?_,hd⟩;cases q;obtain⟨ob,_,_,h1,h2,_⟩:=dd;exact⟨ob,h1,h2.2.1⟩
section
variable{X:Cx}{pins:List (Addr×Obj)}{σ:St}{H:Hp}{s:Shared}{a:Addr}{y d:V}{u r:Value}{o:Option V}{A:Around}{E:Value->Shared->Prop}
theorem d_get2{Q:Value->Shared->Prop}(hu:A.units+1<cLine)(I:Inv X pins σ H s)(g:DGet H a y o)(ry:RelV y u)(rd:RelV d r)(h:∀w' s',Inv X pins σ H s'->RelV (o.getD d) w'->Q w' s') :
  wpAny (model X.prog X.w) A (call (.builtin "dict.get") [.ref a,u,r]) Q E s:=by
 rcases g with⟨kvs,k,e,ey,l⟩ | ⟨kvs,k,b,e,ey,eb,l⟩
 ·subst ey;obtain⟨z,hd,vs,rel,dd⟩:=FE I.hok e;refine call_meetsIn PySem.F.slot_dict_get dd.typeIs PySem.F.entry_dict_get (PySem.F.args_dict_get_3 _ _ _) (meets_dict_get_default (qE X.prog X.w) a (KN ry) hd r) ⟨_,dd.mapOf,h _ _ (I.tok _) ?_⟩;rw[l];exact(rel.val k).getD rd
 ·subst ey;cases (show u=Value.ref b from ry);obtain⟨z,hd,xs,rel,dd⟩:=DJ I.hok e;refine call_meetsIn PySem.F.slot_dict_get dd.typeIs PySem.F.entry_dict_get (PySem.F.args_dict_get_3 _ _ _) (meetsH_dict_get_default (tupleKind (qE X.prog X.w)) a b hd r) ⟨tupleKind_room_in1 hu,k,xs,wC I.hok eb,dd,h _ _ (I.tok _) ?_⟩;rw[l];exact(rel.val k).getD rd
end
def tDGet2(td ty tx:TE):TE:=fun σ H Q=>td σ H λx H1=>∃a,x=.ref a/\IsD H1 a/\ty σ H1 λy H2=>tx σ H2 λz H3=>∃o,DGet H3 a y o/\Q (o.getD z) H3
section
variable{X:Cx}{o e f:Expr}{apos cpos:Pos}{td ty tx:TE}
theorem JO(hu:X.A.units+1<cLine)(ho:PE X o td)(he:PE X e ty)(hf:PE X f tx)(m:M2 X o "get" apos e f cpos):PE X (.Call (.Attribute o "get" apos) [e,f] [] cpos) (tDGet2 td ty tx):=by
 intro pins s σ H Q I h;refine wpAny_Call_method m.base m.few m.line PySem.F.plainAttrs_dict PySem.F.slot_dict_get PySem.F.type_dict_get (thn (ho pins s σ H _ I h) λu s1 ⟨x,H1,I1,rx,a,ex,d,q1⟩=>?_);subst ex;obtain rfl:u=Value.ref a:=rx;obtain⟨t1,t2,_⟩:=WT I1 d;refine⟨t1,t2, ?_⟩;rw[m.trees];refine Calls.callWith_builtin rfl (Calls.evalArgs_plain (Calls.spliced_cons (thn (he pins s1 σ H1 _ I1 q1) λiv s2 ⟨y,H2,I2,ry,q2⟩=>
  Calls.spliced_cons (thn (hf pins s2 σ H2 _ I2 q2) λfv s3 ⟨z,H3,I3,rz,ov,g,q3⟩=>Calls.spliced_nil ?_))))
 exact d_get2 hu I3 g ry rz λw' s4 I4 rw'=>⟨_,H3,I4,rw',q3⟩
end
section
variable{X:Cx}{pins:List (Addr×Obj)}{σ:St}{H:Hp}{s:Shared}{a:Addr}{kvs:List (Key×V)}{A:Around}{E:Value->Shared->Prop}
end
section
variable{X:Cx}{pins:List (Addr×Obj)}{σ:St}{H:Hp}{s:Shared}{a:Addr}{y:V}{u:Value}{A:Around}{E:Value->Shared->Prop}
end
section
variable{X:Cx}
end
end L2
namespace L2
section
variable{κ:Type} [DecidableEq κ]
end
end L2
namespace LwD
open PySem PySem.Spec PyProof.Rows L2
theorem KTdrop{H:Hp}{kvs:List (List Key×V)}{xs:List (List Key×Addr×Value)}(r:KT H kvs xs)(k:List Key):KT H (AU kvs k) (xs.filter λx=>decide (x.1≠k)):=by
 induction r with
 | nil=>exact .nil
 | @cons p q ps qs h t ih=>
  unfold AU at ih ⊢;rw[List.filter_cons,List.filter_cons];by_cases e:p.1=k
  ·rw[tH (by simp [e]),tH (by rw[h.1]at e;simp [e])];exact ih
  ·rw[tI (by simp [e]),tI (by rw[h.1]at e;simp [e])];exact .cons h ih
theorem EZ{α β:Type}(f:α->β):∀(xs:List α) (j:Nat),(xs.map f).eraseIdx j=(xs.eraseIdx j).map f
 | [],_=>rfl
 | _::_,0=>rfl
 | x::r,j+1=>by rw[nC,List.eraseIdx_cons_succ,List.eraseIdx_cons_succ,nC,EZ f r j]
theorem uI{K:Type} [DecidableEq K]{k:K} :∀{xs:List (K×Addr×Value)} {j:Nat} {p:Addr×Value},(xs.map (·.1)).Nodup->xs[j]? = some (k,p)->xs.eraseIdx j=xs.filter λx=>decide (x.1≠k)
 | [],_,_,_,e=>by simp at e
 | x::r,0,p,hn,e=>by
  simp only[List.getElem?_cons_zero,Option.some.injEq]at e;subst e;rw[nC,List.nodup_cons]at hn;rw[List.eraseIdx_zero,List.tail_cons,List.filter_cons,tH (by simp)]
  symm
  rw[List.filter_eq_self];intro y hy;have:y.1≠k:=λz=>hn.1 (nN.mpr ⟨y,hy,z⟩);simp [this]
 | x::r,j+1,p,hn,e=>by
  rw[nC,List.nodup_cons]at hn;have e':r[j]? = some (k,p):=by simpa using e
  have hx:x.1≠k:=λz=>hn.1 (z▸nN.mpr ⟨(k,p),gH e',rfl⟩);rw[List.eraseIdx_cons_succ,List.filter_cons,tI (by simp [hx]),uI hn.2 e']
section
variable{prog:Program}{w:World}{K:Type} [DecidableEq K]{knd:HeapKind prog w K}{A:Around}{E:Value->Shared->Prop}{s:Shared}
theorem FV{d a:Addr}{xs:List (K×Addr×Value)}{k:K}{p:Addr×Value}{Q:Option DictEntry->Shared->Prop}(hu:knd.room A)(hkey:knd.is s.heap k a)(hm:s.heap.DictOfH knd d xs)(hz:xs.length<=sizeLine)(hp:atKey xs k=some p)
  (hs:∀h',h'.DictOfH knd d (xs.filter λx=>decide (x.1≠k))->Heap.SameBut d s.heap h'->Q (some (entryOfKey knd (k,p))) { s with heap:=h',toks:=s.toks+knd.draws k }) :
  wpAny (model prog w) A (Builtin.Dict.takeOut d (.ref a)) Q E s:=by
 obtain⟨o,es,ep,ho,hc,hd,he,his,hn⟩:=hm;have hes:es.size<=sizeLine:=by rw[size_of_entries he];exact hz
 unfold Builtin.Dict.takeOut;try with_reducible refine wpAny_holding ?_
 refine tE (knd.pyHash hu hkey (tE (wpAny_dictFind_heap (s:={ s with toks:=s.toks+knd.draws k }) hu hkey ho hd he his hn ?_ ?_)))
 ·intro hno;rw[atKey_none_of_get hno]at hp;cases hp
 ·intro j p' hj;rw[atKey_of_get hn hj]at hp;cases hp;refine tE (wpAny_dictEntries (s:={ s with toks:=s.toks+knd.draws k }) ho hd ?_);rw[entry_at he j,hj];refine tE (wpAny_updateDictKeys (hz:=hes) (s:={ s with toks:=s.toks+knd.draws k }) ho hd (tF (hs _ ⟨_,_,ep+1,Heap.get?_update_self _ ho (Obj.isFreed_of_dict (Obj.data_mapDictKeys hd _)),hc.mapDictKeys _,Obj.data_mapDictKeys hd _, ?_, ?_, ?_⟩ (Heap.SameBut.update ..))))
  ·rw[<-uI hn hj];obtain⟨l⟩:=es;simp only at he;subst he;show((List.map (entryOfKey knd) xs).toArray.eraseIdxIfInBounds j).toList=_;rw[List.eraseIdxIfInBounds_toArray];exact EZ _ xs j
  ·intro x hx;exact knd.keeps (his x (List.mem_filter.mp hx).1) ho hd (Heap.SameBut.update ..)
  ·exact hn.sublist (List.filter_sublist.map _)
theorem MP{d a:Addr}{k:K} :
  MeetsIn prog w (Builtin.«dict.pop» ⟨[.ref d,.ref a],[]⟩) (λA R s=>∃xs p,knd.room A.in1/\knd.is s.heap k a/\s.heap.DictOfH knd d xs/\xs.length<=sizeLine/\atKey xs k=some p/\
   ∀h',h'.DictOfH knd d (xs.filter λx=>decide (x.1≠k))->Heap.SameBut d s.heap h'->R (.ok (.ret p.2)) { s with heap:=h',toks:=s.toks+knd.draws k }):=
 .of_wp λA R s ⟨xs,p,hu,hkey,hm,hz,hp,h⟩=>by
  unfold Builtin.«dict.pop»;refine tE ?_;unfold Builtin.Dict.keyAndDefault;refine tE (wpAny_notOrdered_dict hm.typeIs ?_);show wpAny _ _ (pure (d,Value.ref a,none)) _ _ s;refine tF ?_;obtain⟨o,es,ep,ho,hc,hd,he,his,hn⟩:=id hm;have ne:es.isEmpty=false:=by
   have e1:=size_of_entries he;have e2:xs≠[]:=λz=>by subst z;cases hp
   have e3:0<xs.length:=List.length_pos_iff.mpr e2;rw[Array.isEmpty_eq_false_iff_exists_mem];exact⟨es[0]'(by omega),Array.getElem_mem _⟩
  have go:wpAny (model prog w) A.in1 (Builtin.Dict.takeOut d (.ref a)) (λold s'=>old=some (entryOfKey knd (k,p))/\R (.ok (.ret p.2)) s') (λ_ _=>False) s:=
   FV hu hkey hm hz hp λh' hm' hs'=>⟨rfl,h h' hm' hs'⟩
  have kp:(keyPart (Value.ref a)).isSome=false:=rfl;simp only[kp,Bool.false_eq_true,if_false];refine tE (wpAny_dictEntries ho hd ?_);rw[ne];refine tE (tF ?_);simp only[Bool.false_eq_true,if_false];refine tE (tG go (λold s' ⟨e1,hR⟩=>?_) λ_ _ z=>z.elim);subst e1;simp only[Option.isNone_some,Bool.false_eq_true,if_false];exact tE (wpAny_letGo (tF ⟨p.2,rfl,hR⟩))
end
section
variable{X:Cx}{pins:List (Addr×Obj)}{σ:L2.St}{H:Hp}{s:Shared}{a b:Addr}{kvs:List (List Key×V)}{k:List Key}{E:Value->Shared->Prop}
theorem d_popT{v:V}{Q:Value->Shared->Prop}(hu:X.A.units+1<cLine)(I:Inv X pins σ H s)(e:H a=some (.dT kvs))(eb:H b=some (.tup (k.map kV)))(l:xI kvs k=some v)
  (h:∀w' s',Inv X pins σ (upd H a (.dT (AU kvs k))) s'->RelV v w'->Q w' s'):wpAny (model X.prog X.w) X.A (call (.builtin "dict.pop") [.ref a,.ref b]) Q E s:=by
 obtain⟨z,hd,xs,rel,dd⟩:=dt_of I.hok e;have hz:xs.length<=sizeLine:=by rw[<-Paired.length rel];exact z
 have rv:=rel.val k;rw[l]at rv;cases hp:atKey xs k with
 | none=>rw[hp]at rv;exact rv.elim
 | some p=>
  rw[hp]at rv;refine call_meetsIn PySem.F.slot_dict_pop dd.typeIs PySem.F.entry_dict_pop (PySem.F.args_dict_pop_2 _ _) (MP (knd:=tupleKind (qE X.prog X.w)) (k:=k)) ⟨xs,p,tupleKind_room_in1 hu,wC I.hok eb,dd,hz,hp,λh' dd' hs=>h p.2 _ ?_ rv⟩;obtain⟨q,es,ep,hq,h2,h3,h4,_,h5⟩:=dd';have hl:(AU kvs k).length<=sizeLine:=nK (XQ kvs k) z;refine IL I (by rw[e];exact True.intro) hs ⟨q,hq⟩ ⟨hl,hd,_,(KTdrop rel k).keeps λc ys ec=>?_,q,es,ep,hq,h2,h3,h4,h5⟩;rw[jM (ne_of ec e (λz=>nomatch z))];exact ec
variable{o e:Expr}{td ty:TE}{apos cpos:Pos}
def tDPopT(td ty:TE):TE:=fun σ H Q=>td σ H λx H1=>∃a,x=.ref a/\IsD H1 a/\ty σ H1 λy H2=>∃kvs k v b,H2 a=some (.dT kvs)/\y=.ref b/\H2 b=some (.tup (k.map kV))/\xI kvs k=some v/\Q v (upd H2 a (.dT (AU kvs k)))
theorem UX(hu:X.A.units+1<cLine)(ho:PE X o td)(he:PE X e ty)(m:M1 X o "pop" apos e cpos):PE X (.Call (.Attribute o "pop" apos) [e] [] cpos) (tDPopT td ty):=by
 intro pins s σ H Q I h;refine wpAny_Call_method m.base m.few m.line PySem.F.plainAttrs_dict PySem.F.slot_dict_pop PySem.F.type_dict_pop (thn (ho pins s σ H _ I h) λu s1 ⟨x,H1,I1,rx,a,ex,d,q1⟩=>?_);subst ex;obtain rfl:u=Value.ref a:=rx;obtain⟨t1,t2,_⟩:=WT I1 d;refine⟨t1,t2, ?_⟩;rw[m.trees];refine Calls.callWith_builtin rfl (Calls.evalArgs_plain (Calls.spliced_cons (thn (he pins s1 σ H1 _ I1 q1) λiv s2 ⟨y,H2,I2,ry,kvs,k,v,b,ea,ey,eb,l,q2⟩=>Calls.spliced_nil ?_)));subst ey;cases ry;exact d_popT hu I2 ea eb l λw' s3 I3 rw'=>⟨v,_,I3,rw',q2⟩
end
def Raw(h:Heap)(d:Addr)(es:Array DictEntry)(ep:Nat):Prop:=∃o,h.get? d=some o/\o.ExactDict/\o.data=.dict es ep
theorem Raw.lt{h:Heap}{d:Addr}{es:Array DictEntry}{ep:Nat}(r:Raw h d es ep):d<h.objs.size:=let ⟨_,e,_⟩:=r;nJ e
theorem Raw.keep{h h':Heap}{d:Addr}{es:Array DictEntry}{ep:Nat}(r:Raw h d es ep)(k:∀o,h.get? d=some o->h'.get? d=some o):Raw h' d es ep:=let ⟨o,e,x⟩:=r;⟨o,k o e,x⟩
theorem Raw.ty{s:Shared}{d:Addr}{es:Array DictEntry}{ep:Nat}(r:Raw s.heap d es ep):s.TypeIs (.ref d) "dict":=let ⟨o,e,c,_⟩:=r;⟨o,e,c.1⟩
section
variable{prog:Program}{w:World}{A:Around}{E:Value->Shared->Prop}{s:Shared}{d it:Addr}{es:Array DictEntry}{ep i:Nat}
theorem JF{Q:Value->Shared->Prop}(lo:(d==sysModules)=false)(r:Raw s.heap d es ep)
  (q:Q (.ref s.heap.objs.size) { s with heap:=s.heap.push { cls:=.type "dict_keyiterator",data:=.fields #[.ref d,.int 0 0,.int es.size 0,.int ep 0] } }):wpAny (model prog w) A (pyIter (.ref d)) Q E s:=by
 have ty:=r.ty;obtain⟨o,ho,hc,hdat⟩:=r;refine wpAny_pyIter_slot ty PySem.F.slot_dict_iter (wpAny_call_entry PySem.F.slot_dict_iter ty PySem.F.entry_dict_iter ?_ (PySem.F.args_dict_iter_1 _));unfold Builtin.«dict.__iter__»;refine tE (show wpAny _ _ (Builtin.Dict.dictSlotNone _ _) _ _ s from ?_);unfold Builtin.Dict.dictSlotNone;refine tE (wpAny_notOrdered_dict ty (show wpAny _ _ (pure (Value.ref d)) _ _ s from tF ?_));show wpAny _ _ (Builtin.Dict.showsAll d >>= _) _ _ s;unfold Builtin.Dict.showsAll;rw[tH (by rw[lo];exact gT)];refine tE (tF (tE (wpAny_dictEntries ho hdat (tE (wpAny_dictEpoch ho hdat ?_)))));refine tE (wpAny_newObj_type (tF ⟨_,rfl,"dict_keyiterator",_,⟨_,gO _ rfl,rfl⟩,PySem.F.slot_dict_keyiterator_next.lookup, ?_⟩));simpa [rawInt]using q
theorem JE{Q:Option Value->Shared->Prop}(k:s.heap.IsKeyIter it d i es.size ep)(r:Raw s.heap d es ep)(hi:i<es.size)
  (q:∀h',h'.IsKeyIter it d (i+1) es.size ep->Heap.SameBut it s.heap h'->Q (some es[i].key) { s with heap:=h' }):wpAny (model prog w) A (pyNext (.ref it)) Q E s:=by
 have ty:=k.typeIs;obtain⟨o,ho,hc,hd⟩:=id k;obtain⟨od,hod,hcd,hdd⟩:=id r;have own:Builtin.Dict_items.ownsTuple "dict_keyiterator" = false:=by decide
 unfold pyNext;refine tE (wpAny_attempt (wpAny_callSpecial?_slot (name:=Str.ofString "__next__") ty PySem.F.slot_dict_keyiterator_next (wpAny_call_entry PySem.F.slot_dict_keyiterator_next ty PySem.F.entry_dict_keyiterator_next ?_ (PySem.F.args_dict_keyiterator_next_1 _))));refine tE (tF (tE (tE ?_)));first | refine tE (wpAny_typeNameOfWhole_keyiter ty (tF (tE (wpAny_fieldsOf ho hd ?_)))) | refine tE (wpAny_typeNameOf_keyiter ty (tF (tE (wpAny_fieldsOf ho hd ?_))))
 simp only[own,Bool.false_eq_true,if_false];show wpAny _ _ (if (Value.ref d==Value.none)=true then _ else _) _ _ s;rw[tH (show ¬((Value.ref d==Value.none)=true)from gT)];refine tE (tF (tE (wpAny_dictEntries hod hdd ?_)));rw[tH (by simp)];refine tE (tF (tE (wpAny_dictEpoch hod hdd ?_)));rw[tH (by simp)];refine tF ?_;simp only[show ¬((i:Int)<0)from by omega,if_false,mG,Array.getElem?_eq_getElem hi];refine tE ?_;first | refine tE (wpAny_typeNameOfWhole_keyiter ty (tF (tE (wpAny_isOneOf_keyiter ty ?_)))) | refine tE (wpAny_typeNameOf_keyiter ty (tF (tE (wpAny_isOneOf_keyiter ty ?_))))
 show wpAny _ _ (setField (.ref it) 1 (rawInt ((i:Int)+1)) >>= _) _ _ s;have k':(s.heap.update it (Obj.mapFields (·.setIfInBounds 1 (rawInt ((i:Int)+1))))).IsKeyIter it d (i+1) es.size ep:=
  ⟨_,Heap.get?_update_self _ ho (Obj.isFreed_of_fields (Obj.data_mapFields hd _)),(Obj.cls_mapFields ..).trans hc,by rw[Obj.data_mapFields hd];simp [rawInt]⟩
 refine tE (wpAny_setField ho hd (by simp) (tE (wpAny_holding ?_)));refine tE (wpAny_isOneOf_keyiter (s:={ s with heap:=s.heap.update it (Obj.mapFields (·.setIfInBounds 1 (rawInt ((i:Int)+1)))) }) k'.typeIs ?_);show wpAny _ _ (pure es[i].key) _ _ _;exact tF (tF ⟨_,rfl,tF (q _ k' (Heap.SameBut.update ..))⟩)
theorem OD{Q:Option Value->Shared->Prop}(hh:A.handled=none)(k:s.heap.IsKeyIter it d es.size es.size ep)(r:Raw s.heap d es ep)(q:∀h',Heap.ExtBut it s.heap h'->Q none { s with heap:=h' }):wpAny (model prog w) A (pyNext (.ref it)) Q E s:=by
 have ty:=k.typeIs;obtain⟨o,ho,hc,hd⟩:=id k;obtain⟨od,hod,hcd,hdd⟩:=id r;have own:Builtin.Dict_items.ownsTuple "dict_keyiterator" = false:=by decide
 unfold pyNext;refine tE (wpAny_attempt (wpAny_callSpecial?_slot (name:=Str.ofString "__next__") ty PySem.F.slot_dict_keyiterator_next (wpAny_call_entry PySem.F.slot_dict_keyiterator_next ty PySem.F.entry_dict_keyiterator_next ?_ (PySem.F.args_dict_keyiterator_next_1 _))));refine tE (tF (tE (tE ?_)));first | refine tE (wpAny_typeNameOfWhole_keyiter ty (tF (tE (wpAny_fieldsOf ho hd ?_)))) | refine tE (wpAny_typeNameOf_keyiter ty (tF (tE (wpAny_fieldsOf ho hd ?_))))
 simp only[own,Bool.false_eq_true,if_false];show wpAny _ _ (if (Value.ref d==Value.none)=true then _ else _) _ _ s;rw[tH (show ¬((Value.ref d==Value.none)=true)from gT)];refine tE (tF (tE (wpAny_dictEntries hod hdd ?_)));rw[tH (by simp)];refine tE (tF (tE (wpAny_dictEpoch hod hdd ?_)));rw[tH (by simp)];refine tF ?_;simp only[show ¬((es.size:Int)<0)from by omega,if_false,mG,Array.getElem?_eq_none (nW es.size)];refine tE ?_;first | refine tE (wpAny_typeNameOfWhole_keyiter ty (tF ?_)) | refine tE (wpAny_typeNameOf_keyiter ty (tF ?_))
 show wpAny _ _ (setField (.ref it) 0 .none >>= _) _ _ s;refine tE (wpAny_setField ho hd (by simp) (show wpAny _ _ (newExc (.type "StopIteration") [] >>= _) _ _ _ from tE ?_));simp only[newExc,newTuple];refine tE (wpAny_newObj_type (tE (m:=firstArgMember _ _) (wpAny_of_eq (a:=Value.none) (by first | rfl | (simp only[firstArgMember];rfl)) (wpAny_newObj_type ?_ (by size_fits)))) (by size_fits));simp only[raiseNew];refine tE (wpAny_handled ?_);rw[show A.in1.handled=none from hh];refine tE (tF (wpAny_throw ?_));refine tE (wpAny_isInstance (b:=true) (T:="StopIteration") ⟨_,gO _ rfl,rfl⟩ isSubtype_stop ?_);exact tF (q _ (((Heap.SameBut.update ..).extBut.push _).push _))
theorem RR(hh:A.handled=none)(hne:d≠it):Walks prog w A it [it,d] [it] es.size (λi v=>∃h:i<es.size,v=es[i].key) (λi h=>h.IsKeyIter it d i es.size ep/\Raw h d es ep) where
 sub:=λb hb=>by simp at hb;simp [hb]
 frame:=λ_ _ _ st hk=>⟨st.1.at λo e=>hk it (by simp) o e,st.2.keep λo e=>hk d (by simp) o e⟩
 item:=λi s Q E hi st hQ=>JE st.1 st.2 hi λh' k' hs'=>hQ _ h' s.toks ⟨hi,rfl⟩ ⟨k',st.2.keep λo e=>hs'.extBut d o hne e⟩ λb o hb e=>hs'.extBut b o (λh=>hb (by simp [h])) e
 done:=λs Q E st hQ=>OD hh st.1 st.2 λh' he'=>hQ h' s.toks λb o hb e=>he' b o (λh=>hb (by simp [h])) e
 self:=λ_ _ _ _ st hQ=>wpAny_pyIter_keyiter st.1 hQ
theorem YN(lo:(d==sysModules)=false):PySem.W.KdlSrc prog w "dict" d d es.size (λi v=>∃h:i<es.size,v=es[i].key) (λh=>Raw h d es ep) where
 type:=λ_ hm=>hm.ty
 there:=λ_ hm=>⟨hm.lt,hm.lt⟩
 keep:=λ_ _ hm hk=>hm.keep λo e=>hk d (.inl rfl) o e
 notList:=by decide
 notTuple:=by decide
 hint:=λ_ _ _ _ hm hq=>PySem.W.kdl_hint_dict hm.ty hq
 iter:=λ_ _ hh hm=>⟨_,_,(λ_ _ hq=>JF lo hm hq),RR hh (nM hm.lt),⟨⟨_,gO _ rfl,rfl,rfl⟩,hm.keep λo e=>uZ _ e⟩⟩
end
end LwD
namespace LwD
open PySem PySem.W PySem.Spec PyProof.Rows
def Pm(n:Nat)(p:Array Nat):Prop:=p.toList.Perm (List.range n)
theorem Pm.size{n:Nat}{p:Array Nat}(h:Pm n p):p.size=n:=by have:=h.length_eq;simpa using this
theorem Pm.lt{n:Nat}{p:Array Nat}(h:Pm n p){i:Nat}(hn:0<n):p.getD i 0<n:=by
 by_cases hi:i<p.size
 ·have:p.getD i 0∈p.toList:=by simp [Array.getD,hi]
  exact mW.mp (h.mem_iff.mp this)
 ·simp [Array.getD,hi,hn]
theorem Pm.rev{n:Nat}{p:Array Nat}(h:Pm n p)(i j:Nat):Pm n (kas_rev p i j):=(Array.perm_iff_toList_perm.mp (mirror_perm p i j _)).trans h
theorem Pm.bub{n:Nat}{p:Array Nat}(h:Pm n p)(i j:Nat):Pm n (bubble p i j):=(Array.perm_iff_toList_perm.mp (bubble_perm p i j)).trans h
section
variable{prog:Program}{w:World}{A:Around}{E:Value->Shared->Prop}{s:Shared}
end
end LwD
namespace LwD
open PySem PySem.Spec PyProof.Rows L2 Lw
theorem ZZ{h:Heap}{a:Addr}{m m':Str->Option Value}(x:h.Ns a m)(y:h.Ns a m'):m=m':=by
 obtain⟨o,es,ep,ho,hd,hk,hm⟩:=x;obtain⟨o',es',ep',ho',hd',hk',hm'⟩:=y;rw[ho]at ho';cases ho';rw[hd]at hd';cases hd'
 funext z
 rw[<-hm z,<-hm' z]
theorem VT{P:Program}{w:World}{H:Hp}{h:Heap}{a:Addr}{o:HO}(x:ObjOk P w H h a o):∃q,h.get? a=some q:=by
 cases o with
 | lst xs=>obtain⟨_,_,_,_,e⟩:=x;exact⟨_,e⟩
 | tup xs=>obtain⟨_,_,_,⟨q,e,_⟩,_⟩:=x;exact⟨_,e⟩
 | dK kvs=>obtain⟨_,_,_,_,o,_,_,e,_⟩:=x;exact⟨_,e⟩
 | dT kvs=>obtain⟨_,_,_,_,o,_,_,e,_⟩:=x;exact⟨_,e⟩
 | set S n=>obtain⟨o,_,_,_,e,_⟩:=x;exact⟨_,e⟩
 | ins C dx fs=>obtain⟨_,_,_,e,_⟩:=x;exact⟨_,e⟩
 | own y=>exact x
 | xd fs=>obtain⟨_,⟨_,_,_,e,_⟩,_⟩:=x;exact⟨_,e⟩
 | rng lo hi=>obtain⟨_,_,_,e⟩:=x;exact⟨_,e⟩
 | frz ob u=>exact⟨_,x.1⟩
 | tbl ps=>exact⟨_,x⟩
 | met f y=>exact⟨_,x⟩
 | ext φ=>exact x.2.1
section
variable{X:Cx}{pins:List (Addr×Obj)}{σ:L2.St}{H:Hp}{s:Shared}
theorem KA{D:Addr}{o:Obj}{ho:HO}{h3:Heap}{m:Str->Option Value}{tk:Nat}(I:Inv X pins σ H s)(F:Fr X.base X.env.locals s.heap m)(F3:Fr X.base X.env.locals h3 m)(N3:News X.base X.env.locals h3 ((D,o)::yL X.base s.heap X.env.locals))
  (lt:∀q∈yL X.base s.heap X.env.locals,q.1<D) (new:h3.get? D=some o->ObjOk X.prog X.w (upd H D ho) h3 D ho):H D=none/\Inv X pins σ (upd H D ho) { s with heap:=h3,toks:=tk } :=by
 have n1:=N3 (D,o) (gY ..);have dn:s.heap.get? D=none:=by
  cases q:s.heap.get? D with
  | none=>rfl
  | some u=>exact absurd (lt _ (yT n1.2.1 n1.2.2 q)) (nH _)
 have Hn:H D=none:=by
  cases q:H D with
  | none=>rfl
  | some u=>
   obtain⟨z,e⟩:=VT (I.hok D u q);rw[dn]at e;cases e
 have kp:∀b u,b≠X.env.locals->s.heap.get? b=some u->h3.get? b=some u:=λb u hb e=>by
  cases q:X.base.get? b with
  | some z=>
   have y:=I.bk b z q;rw[e]at y;cases y;exact F3.keep b _ q
  | none=>exact(N3 (b,u) (gI _ (yT hb q e))).1
 have ne:∀b u,s.heap.get? b=some u->b≠D:=λb u e z=>by rw[z,dn]at e;cases e
 have thr:∀b u,s.heap.get? b=some u->∃u',h3.get? b=some u':=λb u e=>by
  by_cases hb:b=X.env.locals
  ·obtain⟨u',_,_,e',_⟩:=F3.ns;exact⟨u',by rw[hb];exact e'⟩
  ·exact⟨u,kp b u hb e⟩
 refine⟨Hn,I.step (g':=s.gens) (d':=s.drawn) (ch:=[]) (λ_ z=>nomatch z) (λb u hb _ _ e _=>kp b u hb e) (λb u hb _ _ e _=>⟨u.slots,kp b u hb e⟩) (λb u _ e n=>?_) (λb u _ e=>thr b u e) (λb xs e=>?_) (λb u v e=>?_) (λb ps e=>?_) (λm' hm=>?_) (λb u e=>?_) I.bare⟩
 ·rw[jM (ne b u e)];exact n
 ·rw[jM (kL e Hn)];exact e
 ·rw[jM (kL e Hn)];exact e
 ·exact⟨#[],by rw[jM (kL e Hn),e];simp⟩
 ·rw[ZZ hm F.ns];exact F3.ns
 ·by_cases hb:b=D
  ·subst hb;rw[jG]at e;cases e;exact new n1.1
  ·rw[jM hb]at e;refine(I.hok b u e).stay (λc v hc q=>kp c v (λz=>?_) q) (λc q=>by rw[jM (kL q Hn)];exact q) λc xs q=>by rw[jM (kL q Hn)];exact q
   rcases hc with y | y
   ·rw[<-y,z,I.free]at e;cases e
   ·rw[z,I.free]at y;cases y
end
section
variable{prog:Program}{w:World}{A:Around}{E:Value->Shared->Prop}{s:Shared}
theorem MA{a:Addr}{vs:List Value}{n:Nat}{Q:Value->Shared->Prop}(ho:s.heap.get? a=some (seqObj "list" vs.toArray n))(h2:vs.length<2)(q:Q .none { s with heap:=sortedHeap s.heap a vs vs.toArray }):wpAny (model prog w) A (call (.builtin "list.sort") [.ref a]) Q E s:=by
 refine wpAny_call_entry slot_list_sort ⟨_,ho,rfl⟩ entry_list_sort ?_ (args_list_sort _);rw[list_sort_plain];have ha:a<s.heap.objs.size:=nJ ho;obtain⟨e1,ho1⟩:∃e1,(s.heap.update a (Obj.mapSeq λ_=>#[])).get? a=some (seqObj "list" #[] e1):=⟨_,get?_update_seq ho (λ_=>#[])⟩;have ho6:(((s.heap.update a (Obj.mapSeq λ_=>#[])).push (seqObj "tuple" vs.toArray 0)).push (seqObj "list" #[] 0)).get? a=some (seqObj "list" #[] e1):=uZ _ (uZ _ ho1);have hz:vs.toArray.size<2:=by simpa using h2
 refine tE (listItems_at ho rfl (tE (listUpdate_at ho rfl (tE (seqEpoch_at ho1 rfl (tE (wpAny_newTuple (tE (wpAny_newList (wpAny_holding ?_))))))))));show wpAny (model prog w) _ _ _ E { s with heap:=((s.heap.update a (Obj.mapSeq λ_=>#[])).push (seqObj "tuple" vs.toArray 0)).push (seqObj "list" #[] 0) };dsimp only;rw[tI hz,tI hz];refine tE (tF ?_);rw[StateT.run_pure];refine tE (tF ?_);dsimp only;have hm:(arrOf (SortSt.mk' general' (vs.toArray.zip vs.toArray) #[] 7 none)).map (·.2)=vs.toArray:=by
  show(vs.toArray.zip vs.toArray).map (·.2)=vs.toArray;apply Array.ext';simp [List.map_snd_zip]
 refine tE (seqEpoch_at ho6 rfl (tE (listUpdate_at ho6 rfl ?_ (hsz2:=by rw[hm,sizeLine_eq];omega))));rw[hm];simp only[bne_self_eq_false,Bool.false_eq_true,if_false];exact tF ⟨_,rfl,q⟩
end
abbrev ik(ns:List Int):List Key:=ns.map Sum.inl
theorem yX(ns:List Int):(ik ns).map kV=ns.map V.int:=by
 unfold ik;rw[nP]
 rfl
section
variable{X:Cx}
end
theorem KTgetI{H:Hp}{kvs:List (List Key×V)}{xs:List (List Key×Addr×Value)}(r:KT H kvs xs):∀{j:Nat} {q:List Key×Addr×Value},xs[j]? = some q->∃v,kvs[j]? = some (q.1,v)/\H q.2.1=some (.tup (q.1.map kV)):=by
 induction r with
 | nil=>intro j q e;simp at e
 | @cons p q' ps qs h t ih=>
  intro j q e;cases j with
  | zero=>
   simp only[List.getElem?_cons_zero,Option.some.injEq]at e;subst e;exact⟨p.2,by rw[<-h.1];rfl,by rw[<-h.1];exact h.2.1⟩
  | succ j=>
   simp only[List.getElem?_cons_succ]at e ⊢;exact ih e
def Keyed(H:Hp)(ys:List V)(zs:List (List Key×V)):Prop:=ys.length=zs.length/\∀(i:Nat) (y:V) (p:List Key×V),ys[i]? = some y->zs[i]? = some p->∃(b:Addr) (ns:List Int),y=.ref b/\H b=some (.tup (ns.map V.int))/\p.1=ik ns
theorem CV{α:Type}(l:List α)(d:α):(List.range l.length).map (λi=>l.getD i d)=l:=by
 apply List.ext_getElem
 ·simp
 ·intro i h1 h2;simp at h1;simp [h1]
end LwD
namespace L2
open PySem PySem.Spec PyProof.Rows
section
variable{prog:Program}{w:World}{A:Around}{E:Value->Shared->Prop}{s:Shared}
theorem JZ{it t:Addr}{k:Nat}{its:Array Value}{v:Value}{Q:Value->Shared->Prop}(st:s.heap.IsTupleIter it t k)(tu:s.heap.IsTuple t its)(hv:its[k]? = some v)
  (q:∀g,g.IsTupleIter it t (k+1)->Heap.SameBut it s.heap g->Q v { s with heap:=g }):wpAny (model prog w) A (Builtin.SmallTypes.nextOf (.ref it)) Q E s:=by
 obtain⟨oi,gi,ci,di⟩:=id st;obtain⟨ot,gt,_,nt,dt⟩:=tu;unfold Builtin.SmallTypes.nextOf;refine tE (wpAny_callSpecial?_slot (name:=Str.ofString "__next__") st.typeIs F.slot_tuple_iterator_next (wpAny_call_entry F.slot_tuple_iterator_next st.typeIs F.entry_tuple_iterator_next ?_ (F.args_tuple_iterator_next_1 _)));show wpAny _ _ (field (.ref it) 0 >>= _) _ _ _;refine tE (wpAny_field gi di (x:=.ref t) rfl ?_);show wpAny _ _ (if (Value.ref t==Value.none)=true then _ else _) _ _ _;rw[tH (show ¬(Value.ref t==Value.none)=true from gT)];show wpAny _ _ (field (.ref it) 1 >>= _) _ _ _;refine tE (wpAny_field gi di (x:=.int k 0) rfl ?_);show wpAny _ _ (seqItems? (.ref t) >>= _) _ _ _;refine tE (wpAny_seqItems gt dt ?_);simp only[mG,hv];refine tE (wpAny_setField gi di (by simp) (tF ⟨v,rfl,tF (q _ ⟨_,Heap.get?_update_self _ gi (Obj.isFreed_of_fields (Obj.data_mapFields di _)),(Obj.cls_mapFields ..).trans ci,by rw[Obj.data_mapFields di];simp [rawInt]⟩ (Heap.SameBut.update ..))⟩))
theorem AJ{it t:Addr}{k:Nat}{its:Array Value}{Q:Value->Shared->Prop}(hh:A.handled=none)(st:s.heap.IsTupleIter it t k)(tu:s.heap.IsTuple t its)(hv:its[k]? = none)
  (q:∀g e,Heap.ExtBut it s.heap g->(∃o,g.get? e=some o/\o.cls=.type "StopIteration")->E (.ref e) { s with heap:=g }):wpAny (model prog w) A (Builtin.SmallTypes.nextOf (.ref it)) Q E s:=by
 obtain⟨oi,gi,ci,di⟩:=id st;obtain⟨ot,gt,_,nt,dt⟩:=tu;unfold Builtin.SmallTypes.nextOf;refine tE (wpAny_callSpecial?_slot (name:=Str.ofString "__next__") st.typeIs F.slot_tuple_iterator_next (wpAny_call_entry F.slot_tuple_iterator_next st.typeIs F.entry_tuple_iterator_next ?_ (F.args_tuple_iterator_next_1 _)));show wpAny _ _ (field (.ref it) 0 >>= _) _ _ _;refine tE (wpAny_field gi di (x:=.ref t) rfl ?_);show wpAny _ _ (if (Value.ref t==Value.none)=true then _ else _) _ _ _;rw[tH (show ¬(Value.ref t==Value.none)=true from gT)];show wpAny _ _ (field (.ref it) 1 >>= _) _ _ _;refine tE (wpAny_field gi di (x:=.int k 0) rfl ?_);show wpAny _ _ (seqItems? (.ref t) >>= _) _ _ _;refine tE (wpAny_seqItems gt dt ?_);simp only[mG,hv];refine tE (wpAny_rule (tE (wpAny_setField gi di (by simp) ?_)));show wpAny _ _ (newExc (.type "StopIteration") [] >>= _) _ _ _;refine tE ?_;simp only[newExc,newTuple];refine tE (wpAny_newObj_type ?_ (by size_fits));refine tE (m:=firstArgMember _ _) (wpAny_of_eq (a:=Value.none) (by first | rfl | (simp only[firstArgMember];rfl)) ?_);refine wpAny_newObj_type ?_ (by size_fits);simp only[raiseNew];refine tE (wpAny_handled ?_);first | rw[show A.in1.handled=none from hh] | rw[hh]
 exact tE (tF (wpAny_throw (q _ _ (((Heap.SameBut.update ..).extBut.push _).push _) ⟨_,gO _ rfl,rfl⟩)))
structure ZT(z TI TO i1 i2 l1 l2:Addr)(k:Nat)(h:Heap):Prop where
 zz:IsZip h z TI TO .none
 ti:IsPair h TI (.ref i1) (.ref i2)
 to:∃a b,IsPair h TO a b
 one:h.IsTupleIter i1 l1 k
 two:h.IsTupleIter i2 l2 k
theorem IsTupleIter.as{h h':Heap}{a t:Addr}{k:Nat}(x:h.IsTupleIter a t k)(f:∀o,h.get? a=some o->h'.get? a=some o):h'.IsTupleIter a t k:=let ⟨o,ho,r⟩:=x;⟨o,f o ho,r⟩
variable{z TI TO i1 i2 l1 l2:Addr}{k:Nat}{xs ys:Array Value}
theorem QW{x y:Value}{Q:Option Value->Shared->Prop}(D:ZipApart z TI TO i1 i2 l1 l2)(Z:ZT z TI TO i1 i2 l1 l2 k s.heap)(t1:s.heap.IsTuple l1 xs)(t2:s.heap.IsTuple l2 ys)(hx:xs[k]? = some x)(hy:ys[k]? = some y)
  (q:∀g,IsZip g z TI TO (rawInt s.heap.objs.size)->IsPair g TO x y->g.IsTupleIter i1 l1 (k+1)->g.IsTupleIter i2 l2 (k+1)->IsPair g s.heap.objs.size x y->
   (∀c o,c∉[z,TO,i1,i2]->s.heap.get? c=some o->g.get? c=some o)->Q (some (.ref s.heap.objs.size)) { s with heap:=g }):wpAny (model prog w) A (pyNext (.ref z)) Q E s:=by
 obtain⟨hz,hti,⟨a,b,hto⟩,s1,s2⟩:=Z;have T:s.TypeIs (.ref z) "zip":=⟨_,hz,rfl⟩;unfold pyNext;refine tE (wpAny_attempt (wpAny_callSpecial?_slot (name:=Str.ofString "__next__") T F.slot_zip_next (wpAny_call_entry F.slot_zip_next T F.entry_zip_next ?_ (F.args_zip_next_1 _))));show wpAny _ _ (field (.ref z) 2 >>= _) _ _ _;refine tE (wpAny_field hz rfl (x:=.bool false) rfl ?_);show wpAny _ _ (field (.ref z) 3 >>= _) _ _ _;refine tE (wpAny_field hz rfl (x:=.ref TI) rfl (tE (wpAny_seqItems hti rfl ?_)));show wpAny _ _ (Builtin.SmallTypes.ownedTupleIsFree (.ref z) >>= _) _ _ _;refine tE ?_;unfold Builtin.SmallTypes.ownedTupleIsFree;refine tE (wpAny_field hz rfl (x:=.none) rfl (tF ?_));simp only[if_true];refine tE (wpAny_rule (tE (wpAny_field hz rfl (x:=.ref TO) rfl (tE (wpAny_setField_rec hz (by simp) λg1 z1 b1=>?_)))))
 replace z1:IsZip g1 z TI TO .ellipsis:=z1
 refine tE ?_;simp only[List.zipIdx_cons,List.zipIdx_nil,List.forIn_cons,List.forIn_nil];refine tE (tE (wpAny_onRaise ?_));show wpAny _ _ (Builtin.SmallTypes.nextOf (.ref i1) >>= _) _ _ _;refine tE (JZ (s1.extBut b1.extBut D.i1z) (t1.extBut b1.extBut D.l1z) hx λg2 n2 b2=>tF ?_);have o2:IsPair g2 TO a b:=b2.extBut _ _ D.TOi1 (b1.extBut _ _ D.TOz hto);refine tE (wpAny_seqItems o2 rfl (tE (wpAny_updateSeq_pair o2 λg3 o3 b3=>?_)))
 replace o3:IsPair g3 TO x b:=o3
 refine tE (wpAny_letGo (tF (tE (tE (wpAny_onRaise ?_)))));show wpAny _ _ (Builtin.SmallTypes.nextOf (.ref i2) >>= _) _ _ _;refine tE (JZ (((s2.extBut b1.extBut D.i2z).extBut b2.extBut D.i12.symm).extBut b3.extBut D.TOi2.symm) (((t2.extBut b1.extBut D.l2z).extBut b2.extBut D.l2i1).extBut b3.extBut D.l2TO) hy λg4 n4 b4=>tF ?_);have o4:IsPair g4 TO x b:=b4.extBut _ _ D.TOi2 o3;refine tE (wpAny_seqItems o4 rfl (tE (wpAny_updateSeq_pair o4 λg5 o5 b5=>?_)))
 replace o5:IsPair g5 TO x y:=o5
 refine tE (wpAny_letGo (tF (tF (tE (wpAny_seqItems o5 rfl (tE (wpAny_newTuple ?_)))))));have sz:g5.objs.size=s.heap.objs.size:=by rw[b5.1,b4.1,b3.1,b2.1,b1.1]
 have z5:IsZip g5 z TI TO .ellipsis:=b5.extBut _ _ D.TOz.symm (b4.extBut _ _ D.i2z.symm (b3.extBut _ _ D.TOz.symm (b2.extBut _ _ D.i1z.symm z1)));have k5:∀c o,c∉[z,TO,i1,i2]->s.heap.get? c=some o->g5.get? c=some o:=λc o hc e=>by
  simp only[nF,not_or]at hc;exact b5.extBut _ _ hc.2.1 (b4.extBut _ _ hc.2.2.2.1 (b3.extBut _ _ hc.2.1 (b2.extBut _ _ hc.2.2.1 (b1.extBut _ _ hc.1 e))))
 have n5:g5.IsTupleIter i1 l1 (k+1):=((n2.extBut b3.extBut D.TOi1.symm).extBut b4.extBut D.i12).extBut b5.extBut D.TOi1.symm;have m5:g5.IsTupleIter i2 l2 (k+1):=n4.extBut b5.extBut D.TOi2.symm;have zl:z<g5.objs.size:=nJ z5;show wpAny _ _ (Builtin.SmallTypes.ownedTupleHandOut (.ref z) (.ref g5.objs.size) >>= _) _ _ _;refine tE ?_;unfold Builtin.SmallTypes.ownedTupleHandOut;have z6:IsZip (g5.push { cls:=.type "tuple",data:=.seq #[x,y] }) z TI TO .ellipsis:=uZ _ z5;refine tE (wpAny_setField_rec z6 (by simp) λg7 z7 b7=>?_)
 replace z7:IsZip g7 z TI TO (rawInt g5.objs.size):=z7
 refine wpAny_setField_rec z7 (by simp) λg8 z8 b8=>?_
 replace z8:IsZip g8 z TI TO (rawInt g5.objs.size):=z8
 have up:∀c o,c≠z->g5.get? c=some o->g8.get? c=some o:=λc o cz e=>b8.extBut _ _ cz (b7.extBut _ _ cz (uZ _ e));have nu:IsPair g8 g5.objs.size x y:=b8.extBut _ _ (Nat.ne_of_gt zl) (b7.extBut _ _ (Nat.ne_of_gt zl) (gO _ rfl));rw[sz]at z8 nu;refine tF ⟨_,rfl,tF ?_⟩;show Q (some (.ref g5.objs.size)) _;rw[sz];exact q g8 z8 (up _ _ D.TOz o5) (IsTupleIter.as n5 λo e=>up _ o D.i1z e) (IsTupleIter.as m5 λo e=>up _ o D.i2z e) nu λc o hc e=>up c o (λh=>hc (by simp [h])) (k5 c o hc e)
theorem TR{Q:Option Value->Shared->Prop}(hh:A.handled=none)(D:ZipApart z TI TO i1 i2 l1 l2)(Z:ZT z TI TO i1 i2 l1 l2 k s.heap)(t1:s.heap.IsTuple l1 xs)(t2:s.heap.IsTuple l2 ys)(he:xs[k]? = none∨ys[k]? = none)
  (q:∀g,(∀c o,c∉[z,TO,i1,i2]->s.heap.get? c=some o->g.get? c=some o)->Q none { s with heap:=g }):wpAny (model prog w) A (pyNext (.ref z)) Q E s:=by
 obtain⟨hz,hti,⟨a,b,hto⟩,s1,s2⟩:=Z;have T:s.TypeIs (.ref z) "zip":=⟨_,hz,rfl⟩;unfold pyNext;refine tE (wpAny_attempt (wpAny_callSpecial?_slot (name:=Str.ofString "__next__") T F.slot_zip_next (wpAny_call_entry F.slot_zip_next T F.entry_zip_next ?_ (F.args_zip_next_1 _))));have fin:∀g (e:Addr),(∀c o,c∉[z,TO,i1,i2]->s.heap.get? c=some o->g.get? c=some o)->(∃o,g.get? e=some o/\o.cls=.type "StopIteration")->
   wpAny (model prog w) A (do if (<-isInstance (.ref e) (.type "StopIteration"))then pure none else throw (.ref e)) Q E { s with heap:=g } :=λg e hk ⟨o,ho,hc⟩=>
  tE (wpAny_isInstance (T:="StopIteration") (b:=true) ⟨o,ho,hc⟩ isSubtype_stop (tF (q _ hk)))
 show wpAny _ _ (field (.ref z) 2 >>= _) _ _ _;refine tE (wpAny_field hz rfl (x:=.bool false) rfl ?_);show wpAny _ _ (field (.ref z) 3 >>= _) _ _ _;refine tE (wpAny_field hz rfl (x:=.ref TI) rfl (tE (wpAny_seqItems hti rfl ?_)));show wpAny _ _ (Builtin.SmallTypes.ownedTupleIsFree (.ref z) >>= _) _ _ _;refine tE ?_;unfold Builtin.SmallTypes.ownedTupleIsFree;refine tE (wpAny_field hz rfl (x:=.none) rfl (tF ?_));simp only[if_true];refine tE (wpAny_rule (tE (wpAny_field hz rfl (x:=.ref TO) rfl (tE (wpAny_setField_rec hz (by simp) λg1 z1 b1=>?_)))))
 replace z1:IsZip g1 z TI TO .ellipsis:=z1
 refine tE ?_;simp only[List.zipIdx_cons,List.zipIdx_nil,List.forIn_cons,List.forIn_nil];refine tE (tE (wpAny_onRaise ?_));show wpAny _ _ (Builtin.SmallTypes.nextOf (.ref i1) >>= _) _ _ _;cases hx:xs[k]? with
 | none=>
  refine tE (AJ hh (s1.extBut b1.extBut D.i1z) (t1.extBut b1.extBut D.l1z) hx λg2 e b2 ⟨oe,he,ce⟩=>?_);have z2:IsZip g2 z TI TO .ellipsis:=b2 _ _ D.i1z.symm z1;have ez:e≠z:=λh=>by subst h;rw[z2]at he;cases he;simp at ce
  refine wpAny_setField_rec z2 (by simp) λg3 _ b3=>fin g3 e (λc o hc h=>?_) ⟨oe,b3.extBut _ _ ez he,ce⟩;simp only[nF,not_or]at hc;exact b3.extBut _ _ hc.1 (b2 _ _ hc.2.2.1 (b1.extBut _ _ hc.1 h))
 | some x=>
  have hy:ys[k]? = none:=he.resolve_left (by rw[hx];simp);refine tE (JZ (s1.extBut b1.extBut D.i1z) (t1.extBut b1.extBut D.l1z) hx λg2 n2 b2=>tF ?_);have o2:IsPair g2 TO a b:=b2.extBut _ _ D.TOi1 (b1.extBut _ _ D.TOz hto);refine tE (wpAny_seqItems o2 rfl (tE (wpAny_updateSeq_pair o2 λg3 o3 b3=>?_)));refine tE (wpAny_letGo (tF (tE (tE (wpAny_onRaise ?_)))));show wpAny _ _ (Builtin.SmallTypes.nextOf (.ref i2) >>= _) _ _ _;refine tE (AJ hh (((s2.extBut b1.extBut D.i2z).extBut b2.extBut D.i12.symm).extBut b3.extBut D.TOi2.symm) (((t2.extBut b1.extBut D.l2z).extBut b2.extBut D.l2i1).extBut b3.extBut D.l2TO) hy λg4 e b4 ⟨oe,he,ce⟩=>?_);have z4:IsZip g4 z TI TO .ellipsis:=b4 _ _ D.i2z.symm (b3.extBut _ _ D.TOz.symm (b2.extBut _ _ D.i1z.symm z1));have ez:e≠z:=λh=>by subst h;rw[z4]at he;cases he;simp at ce
  refine wpAny_setField_rec z4 (by simp) λg5 _ b5=>fin g5 e (λc o hc h=>?_) ⟨oe,b5.extBut _ _ ez he,ce⟩;simp only[nF,not_or]at hc;exact b5.extBut _ _ hc.1 (b4 _ _ hc.2.2.2.1 (b3.extBut _ _ hc.2.1 (b2.extBut _ _ hc.2.2.1 (b1.extBut _ _ hc.1 h))))
theorem MO(a b:Addr)(xs ys:Array Value) :
  Meets (Builtin.«zip.__new__» ⟨[.type "zip",.ref a,.ref b],[]⟩) (λ_ R s=>s.heap.IsTuple a xs/\s.heap.IsTuple b ys/\
   ∀g,(∀c o,s.heap.get? c=some o->g.get? c=some o)->ZT (s.heap.objs.size+4) (s.heap.objs.size+2) (s.heap.objs.size+3) s.heap.objs.size (s.heap.objs.size+1) a b 0 g->R (.ok (.ret (.ref (s.heap.objs.size+4)))) { s with heap:=g }):=
 .of_wp λprog w A R s h=>by
  obtain⟨hp,gs,d,tk,os⟩:=s;obtain⟨t1,t2,h⟩:=h;have hsub:=sub_zip;have T1:Heap.IsTuple (Shared.heap ⟨hp,gs,d,tk,os⟩) a xs:=t1;have T2:Heap.IsTuple (Shared.heap ⟨hp.push { cls:=.type "tuple_iterator",data:=.fields #[.ref a,.int 0 0] },gs,d,tk,os⟩) b ys:=Heap.IsTuple.push t2 _
  wp_walk using wpAny_pyIter_tuple T1,wpAny_pyIter_tuple T2
  have e1:=λo=>mZ hp (o:=o);refine⟨_,rfl, ?_⟩;simp only[mZ]at h ⊢;refine h _ (λc o e=>uZ _ (uZ _ (uZ _ (uZ _ (uZ _ e))))) ⟨?_, ?_, ?_, ?_, ?_⟩
  ·have e:=gO (((((hp.push { cls:=.type "tuple_iterator",data:=.fields #[.ref a,.int 0 0] }).push { cls:=.type "tuple_iterator",data:=.fields #[.ref b,.int 0 0] }).push { cls:=.type "tuple",data:=.seq #[.ref hp.objs.size,.ref (hp.objs.size+1)] })).push { cls:=.type "tuple",data:=.seq #[.none,.none] }) (o:={ cls:=.type "zip",data:=.fields #[.none,.bool false,.bool false,.ref (hp.objs.size+2),.ref (hp.objs.size+3)] }) rfl;simp only[mZ]at e;exact e
  ·have e:=gO ((hp.push { cls:=.type "tuple_iterator",data:=.fields #[.ref a,.int 0 0] }).push { cls:=.type "tuple_iterator",data:=.fields #[.ref b,.int 0 0] }) (o:={ cls:=.type "tuple",data:=.seq #[.ref hp.objs.size,.ref (hp.objs.size+1)] }) rfl;simp only[mZ]at e;exact uZ _ (uZ _ e)
  ·have e:=gO ((((hp.push { cls:=.type "tuple_iterator",data:=.fields #[.ref a,.int 0 0] }).push { cls:=.type "tuple_iterator",data:=.fields #[.ref b,.int 0 0] }).push { cls:=.type "tuple",data:=.seq #[.ref hp.objs.size,.ref (hp.objs.size+1)] })) (o:={ cls:=.type "tuple",data:=.seq #[.none,.none] }) rfl;simp only[mZ]at e;exact⟨_,_,uZ _ e⟩
  ·have e:=gO hp (o:={ cls:=.type "tuple_iterator",data:=.fields #[.ref a,.int 0 0] }) rfl;exact⟨_,uZ _ (uZ _ (uZ _ (uZ _ e))),rfl,rfl⟩
  ·have e:=gO (hp.push { cls:=.type "tuple_iterator",data:=.fields #[.ref a,.int 0 0] }) (o:={ cls:=.type "tuple_iterator",data:=.fields #[.ref b,.int 0 0] }) rfl;simp only[mZ]at e;exact⟨_,uZ _ (uZ _ (uZ _ e)),rfl,rfl⟩
theorem TK{a b:Addr}{xs ys:Array Value}{Q:Value->Shared->Prop}(t1:s.heap.IsTuple a xs)(t2:s.heap.IsTuple b ys)
  (q:∀g,(∀c o,s.heap.get? c=some o->g.get? c=some o)->ZT (s.heap.objs.size+4) (s.heap.objs.size+2) (s.heap.objs.size+3) s.heap.objs.size (s.heap.objs.size+1) a b 0 g->Q (.ref (s.heap.objs.size+4)) { s with heap:=g }) :
  wpAny (model prog w) A (call (.type "zip") [.ref a,.ref b]) Q E s:=
 callType_new F.called_zip (by decide) (F.typeCall_zip_2 _ _) (F.newCall_zip_2 _ _) (λobj=>F.args_object_init_3 obj _ _) F.entry_zip_new (MO a b xs ys) ⟨t1,t2,λg k Z=>⟨⟨_,Z.zz,rfl⟩,q g k Z⟩⟩
end
section
variable{X:Cx}{pins:List (Addr×Obj)}{σ:St}{H:Hp}{s:Shared}{h':Heap}
theorem Inv.turnedL{t':Nat}{fp:List Addr}(I:Inv X pins σ H s)(hf:∀b∈fp,FpOk X pins H b)(k:∀b o,b∉fp->s.heap.get? b=some o->h'.get? b=some o):Inv X pins σ H { s with heap:=h',toks:=t' } :=by
 have nit:∀b u,H b=some u->b∉fp:=λb u e z=>by rw[(hf b z).1]at e;cases e
 refine I.step (g':=s.gens) (d':=s.drawn) (ch:=fp) (λb hb=>⟨(hf b hb).2.2.2.1,(hf b hb).2.1,(hf b hb).2.2.2.2.1,(hf b hb).2.2.2.2.2⟩) (λb o _ _ hc e _=>k b o hc e) (λb o _ _ hc e _=>⟨o.slots,k b o hc e⟩) (λ_ _ _ _ n=>n)
  (λb o hc e=>⟨o,k b o hc e⟩) (λ_ _ e=>e) (λ_ _ _ e=>e) (λb ps e=>⟨#[],by rw[e];simp⟩) (λm ⟨o,es,ep,ho,r⟩=>⟨o,es,ep,k _ o (λz=>(hf _ z).2.1 rfl) ho,r⟩) (λb u e=>?_) I.bare
 refine(I.hok b u e).stay (λc v hc q=>k c v ?_ q) (λ_ q=>q) λ_ _ q=>q;rcases hc with z | z
 ·rw[z];exact nit b u e
 ·exact nit c _ z
theorem FpOk.apart{a b:Addr}{xs:List V}(I:Inv X pins σ H s)(f:FpOk X pins H b)(h:SqT X.K H a xs):a≠b:=by
 rintro rfl;rcases h with(h | ⟨o,h⟩) | ⟨o,its,n,hk,hc,hs,hz,r⟩
 ·rw[f.1]at h;cases h
 ·rw[f.1]at h;cases h
 ·have hb:X.base.get? a=some o:=I.ok.mod.kin a o hk;rcases f.2.2.2.1 with z | z
  ·exact I.ok.noex a o hb z
  ·exact absurd (gU (nJ hb) (nK I.ok.bsz z)) (nH _)
end
def Itz(K:tJ)(a b:Addr):It:=
 ⟨λi H=>∃xs ys x y,SqT K H a xs/\SqT K H b ys/\xs[i]? = some x/\ys[i]? = some y,
  λi H v H'=>∃p x y,H p=none/\v=.ref p/\H'=upd H p (.tup [x,y])/\(∀xs,SqT K H a xs->xs[i]? = some x)/\(∀ys,SqT K H b ys->ys[i]? = some y),
  λi H=>∃xs ys,SqT K H a xs/\SqT K H b ys/\(xs.length<=i∨ys.length<=i)⟩
structure Five(z TI TO i1 i2:Addr):Prop where
 nd:[z,TI,TO,i1,i2].Nodup
theorem Five.of{z TI TO i1 i2 l1 l2:Addr}(F:Five z TI TO i1 i2)(h1:∀b∈[z,TI,TO,i1,i2],l1≠b)(h2:∀b∈[z,TI,TO,i1,i2],l2≠b):ZipApart z TI TO i1 i2 l1 l2:=by
 have nd:=F.nd;simp only[List.nodup_cons,nF,not_or,mJ]at nd;obtain⟨⟨a1,a2,a3,a4,_⟩,⟨b1,b2,b3,_⟩,⟨c1,c2,_⟩,⟨d1,_⟩,_⟩:=nd;exact⟨Ne.symm a1,Ne.symm a2,Ne.symm a3,Ne.symm a4,b1,b2,b3,c1,c2,d1,h1 _ (by simp),h1 _ (by simp),h1 _ (by simp),h1 _ (by simp),h2 _ (by simp),h2 _ (by simp),h2 _ (by simp),h2 _ (by simp)⟩
theorem QZ{P:Program}{w:World}{K:tJ}{es:List Expr}{x1}{pos:Pos}(l1 l2:Addr){z TI TO i1 i2:Addr}(F:Five z TI TO i1 i2):Turn P w K (.Tuple es x1 pos) (Itz K l1 l2) [z,TI,TO,i1,i2] z (λi h=>ZT z TI TO i1 i2 l1 l2 i h) where
 mem:=by simp
 obj:=λi h Z b hb=>by
  simp only[nF,mJ,or_false]at hb;obtain⟨hz,hti,⟨a,c,hto⟩,⟨o1,g1,c1,d1⟩,⟨o2,g2,c2,d2⟩⟩:=Z;rcases hb with rfl | rfl | rfl | rfl | rfl
  ·exact⟨_,hz,λv q=>by cases (show Data.fields _=Data.cell v from q)⟩
  ·exact⟨_,hti,λv q=>by cases (show Data.seq _ _=Data.cell v from q)⟩
  ·exact⟨_,hto,λv q=>by cases (show Data.seq _ _=Data.cell v from q)⟩
  ·exact⟨_,g1,λv q=>by rw[d1]at q;cases q⟩
  ·exact⟨_,g2,λv q=>by rw[d2]at q;cases q⟩
 keep:=λi h h' Z k=>by
  obtain⟨hz,hti,⟨a,c,hto⟩,s1,s2⟩:=Z;exact⟨k z (by simp) _ hz,k TI (by simp) _ hti,⟨a,c,k TO (by simp) _ hto⟩,IsTupleIter.as s1 λo e=>k i1 (by simp) o e,IsTupleIter.as s2 λo e=>k i2 (by simp) o e⟩
 item:=by
  intro X hP hw hK hc i pins s σ H E I hf Z hg;subst hP hw hK;obtain⟨xs,ys,x,y,q1,q2,hx,hy⟩:=hg;obtain⟨its1,r1,p1,_⟩:=I.tuple q1;obtain⟨its2,r2,p2,_⟩:=I.tuple q2;obtain⟨u1,hu1,ru1⟩:=r1.get hx;obtain⟨u2,hu2,ru2⟩:=r2.get hy;have D:=F.of (λb hb=>FpOk.apart I (hf b hb) q1) (λb hb=>FpOk.apart I (hf b hb) q2);refine QW D Z (show s.heap.IsTuple l1 its1.toArray from p1) (show s.heap.IsTuple l2 its2.toArray from p2) (x:=u1) (y:=u2) (by simpa using hu1) (by simpa using hu2) λg z1 to1 n1 n2 nu kk=>⟨_,rfl, ?_⟩;refine wpAny_letOwnedTupleGo_zip z1 λg2 z2 sb=>?_;have fr:H s.heap.objs.size=none:=I.hok.fresh uO ;have fp:∀b∈[z,TI,TO,i1,i2],FpOk X pins (upd H s.heap.objs.size (.tup [x,y])) b:=λb hb=>by
   have lt:b≠s.heap.objs.size:=by
    simp only[nF,mJ,or_false]at hb;obtain⟨hz,hti,⟨a,c,hto⟩,⟨o1,g1,_⟩,⟨o2,g2,_⟩⟩:=Z;rcases hb with rfl | rfl | rfl | rfl | rfl
    ·exact nM (nJ hz)
    ·exact nM (nJ hti)
    ·exact nM (nJ hto)
    ·exact nM (nJ g1)
    ·exact nM (nJ g2)
   exact⟨by rw[jM lt];exact(hf b hb).1,(hf b hb).2⟩
  have I1:Inv X pins σ (upd H s.heap.objs.size (.tup [x,y])) { s with heap:=s.heap.push { cls:=.type "tuple",data:=.seq #[u1,u2] } } :=I.laid (t':=s.toks) (λb u e=>uZ _ e) uO ⟨by simp [sizeLine],[u1,u2],.cons ru1 (.cons ru2 .nil),⟨_,gO _ rfl,rfl,_,rfl⟩,.of (gO _ rfl) rfl⟩;have up:∀c o,c≠z->g.get? c=some o->g2.get? c=some o:=λc o cz e=>sb.extBut _ _ cz e;have zs:z≠s.heap.objs.size:=nM (nJ Z.zz);have I2:Inv X pins σ (upd H s.heap.objs.size (.tup [x,y])) { s with heap:=g2 } :=by
   refine Inv.turnedL (s:={ s with heap:=s.heap.push { cls:=.type "tuple",data:=.seq #[u1,u2] } }) (h':=g2) (t':=s.toks) I1 fp λb o hb e=>?_;have bz:b≠z:=λh=>hb (by simp [h]);rcases Heap.get?_push_cases e with⟨e1,e2⟩ | e1
   ·rw[e1,e2];exact up _ _ (Ne.symm zs) nu
   ·exact up _ _ bz (kk b o (λh=>hb (by simp only[nF,mJ,or_false]at h ⊢;rcases h with h | h | h | h<;>simp [h])) e1)
  exact⟨.ref s.heap.objs.size,_,I2,rfl,⟨_,x,y,fr,rfl,rfl,λxs' h=>by rw[I.tuple_inj h q1];exact hx,λys' h=>by rw[I.tuple_inj h q2];exact hy⟩,⟨z2,up _ _ D.TIz (kk _ _ (by simp [D.TIz,D.TITO,D.TIi1,D.TIi2]) Z.ti),⟨_,_,up _ _ D.TOz to1⟩,IsTupleIter.as n1 λo e=>up _ o D.i1z e,IsTupleIter.as n2 λo e=>up _ o D.i2z e⟩,λb hb=>(fp b hb).1⟩
 done:=by
  intro X hP hw hK hc i pins s σ H E I hf Z hg;subst hP hw hK;obtain⟨xs,ys,q1,q2,he⟩:=hg;obtain⟨its1,r1,p1,_⟩:=I.tuple q1;obtain⟨its2,r2,p2,_⟩:=I.tuple q2;have D:=F.of (λb hb=>FpOk.apart I (hf b hb) q1) (λb hb=>FpOk.apart I (hf b hb) q2);have e1:=r1.length;have e2:=r2.length;refine TR (I.ok.hd hc) D Z (show s.heap.IsTuple l1 its1.toArray from p1) (show s.heap.IsTuple l2 its2.toArray from p2) ?_ λg kk=>⟨rfl,Inv.turnedL (t':=s.toks) I hf λb o hb e=>kk b o (λh=>hb (by simp only[nF,mJ,or_false]at h ⊢;rcases h with h | h | h | h<;>simp [h])) e⟩;rcases he with h | h
  ·exact .inl (by simp;omega)
  ·exact .inr (by simp;omega)
 self:=λ_ _ _ _ _ Z h=>wpAny_pyIter_zip Z.zz h
section
variable{X:Cx}
def iZipT(K:tJ)(ta:TA):TI:=fun σ H R=>ta σ H λvs H1=>∃a b,vs=[.ref a,.ref b]/\(∃xs,SqT K H1 a xs)/\(∃ys,SqT K H1 b ys)/\R (Itz K a b) H1
theorem OF{es:List Expr}{x1}{tp:Pos}{a b:Expr}{ta:TA}{p pos:Pos}(hg:Gl X "zip")(hm:X.mg "zip" = none)(ha:PA X [a,b] ta)(hs:starEach [a,b] X.env=[(false,eval a X.env),(false,eval b X.env)]:=by rfl)(hs2:starEach [b] X.env=[(false,eval b X.env)]:=by rfl) :
  PI X (.Tuple es x1 tp) (.Call (.Name "zip" p) [a,b] [] pos) (iZipT X.K ta):=by
 intro pins s σ H R I h;refine Call_ (xB I hg hm boot_zip (PyProof.Rows.callWith_type1 (thn (ha pos pins s σ H _ I h) λus s1 ⟨vs,H1,I1,r1,q1⟩=>?_) (by rw[hs,hs2]) (by rw[hs2];rfl)));obtain⟨l1,l2,e,⟨xs,q1⟩,⟨ys,q2⟩,q⟩:=q1;subst e;cases r1 with
 | cons r rr=>
  cases rr with
  | cons r' rr=>
   cases rr;cases r;cases r';obtain⟨its1,_,p1,_⟩:=I1.tuple q1;obtain⟨its2,_,p2,_⟩:=I1.tuple q2;refine TK (show s1.heap.IsTuple l1 its1.toArray from p1) (show s1.heap.IsTuple l2 its2.toArray from p2) λg k Z=>wpAny_pyIter_zip Z.zz ?_;refine⟨_,_,_,_,H1,rfl,I1.kept (t':=s1.toks) k,QZ l1 l2 ⟨by simp⟩,Z,λb hb=>?_,q⟩;have hb':s1.heap.objs.size<=b:=by
    simp only[nF,mJ,or_false]at hb;rcases hb with rfl | rfl | rfl | rfl | rfl<;>first | exact Nat.le_add_right _ _ | exact nW _
   exact I1.fpOk hb' (I1.hok.fresh hb')
end
end L2
namespace HT
open PySem PySem.Spec PyProof.Rows
section
variable{prog:Program}{w:World}{A:Around}{E:Value->Shared->Prop}{s:Shared}
theorem cat_any{t b:Addr}{vs ws:List Value}{Q:Value->Shared->Prop}(ht:IsTup s.heap t vs.toArray)(hb:IsTup s.heap b ws.toArray)(h0:vs=[]->Q (.ref b) s)
  (h1:ws=[]->Q (.ref t) s) (h2:Q (.ref s.heap.objs.size) { s with heap:=s.heap.push { cls:=.type "tuple",data:=.seq (vs++ws).toArray } })
  (hz:vs.length+ws.length<=sizeLine):wpAny (model prog w) A (binaryOp .Add (.ref t) (.ref b)) Q E s:=by
 by_cases hv:vs=[]
 ·obtain⟨⟨c1,x1,y1,z1⟩,g1,rfl,n1,rfl⟩:=id ht;obtain⟨⟨c2,x2,y2,z2⟩,g2,rfl,n2,rfl⟩:=id hb;exact concat_meets ⟨_,g1,rfl⟩ ⟨_,g2,rfl⟩ noFill_tuple_add seq_tuple_add PySem.F.slot_tuple_add PySem.F.entry_tuple_add (PySem.F.args_tuple_add_2 _ _) (tuple_addW0 t b vs.toArray ws.toArray n1 n2 x1 x2 z1 z2 (by simp [hv])) ⟨g1,g2,h0 hv⟩
 ·exact cat_tup ht hb hv h1 (λ_=>h2) hz
end
end HT
namespace L2
open PySem PySem.Spec PyProof.Rows
section
variable{X:Cx}
def Gets(H:Hp)(xs:List V)(Q:VK):Prop:=∀p H',Same H H'->H' p=some (.tup xs)->Q (.ref p) H'
def rCatH:R2:=λx y H Q=>∃a b xs ys,x=.ref a/\y=.ref b/\H a=some (.tup xs)/\H b=some (.tup ys)/\xs.length+ys.length<=sizeLine/\Gets H (xs++ys) Q
theorem ZE:OpR X (binaryOp .Add) rCatH:=by
 intro pins s σ H x y v u Q I rx ry h;obtain⟨a,b,xs,ys,rfl,rfl,ha,hb,hz,q⟩:=h;cases rx;cases ry;obtain⟨its,r1,p1,_⟩:=I.tuple (SqT.of ha);obtain⟨its2,r2,p2,_⟩:=I.tuple (SqT.of hb);refine HT.cat_any p1 p2 (λz=>⟨.ref b,H,I,rfl,q b H (λ_ _ e=>e) ?_⟩) (λz=>⟨.ref a,H,I,rfl,q a H (λ_ _ e=>e) ?_⟩) ?_ (by rw[<-r1.length,<-r2.length];exact hz)
 ·rw[r1.nil_iff.mp z];exact hb
 ·rw[r2.nil_iff.mp z,List.append_nil];exact ha
 ·have n:=I.hok.fresh (nW s.heap.objs.size);refine⟨.ref s.heap.objs.size,_,I.laid (t':=s.toks) (o:=.tup (xs++ys)) (λb ob q=>uZ _ q) uO ?_,rfl,q _ _ (Lw.kD _ n) jG⟩;exact⟨by rw[gS];exact hz,_,r1.append r2,IsTup.new _ _,.of (gO _ rfl) rfl⟩
end
end L2
namespace LwMx
open PySem PySem.Spec PyProof.Rows L2 Lw
section
variable{prog:Program}{w:World}{A:Around}{R:Result->Shared->Prop}{J:Addr}{fp wr:List Addr}{n:Nat}{Pv:Nat->Value->Prop}{St:Nat->Heap->Prop}
theorem HQ:(toString "max"++toString ".loop" :String)="max.loop":=by decide
theorem WD(Wk:Walks prog w A.in1 J fp wr n Pv St)(gt:Nat->Nat->Bool)(cmp:CmpOf prog w A.in1 .Gt Pv gt)(B:Addr)(out:B∉fp)(kws:List (Str×Value)) :
  ∀(k j:Nat) (s:Shared) (x:Value) (c:Nat),n-(j+1)=k->j+1<=n->St (j+1) s.heap->Pv (argBest gt j) x->
  s.heap.get? B=some { cls:=.type "list",dict:=none,data:=.seq #[x,x] c,slots:=#[] }->
  (∀y h' tk,Pv (argBest gt (n-1)) y->(∀b o,b∉wr->b≠B->s.heap.get? b=some o->h'.get? b=some o)->R (.ok (.ret y)) { s with heap:=h',toks:=tk })->
  codeAny (model prog w) A (.builtin "max.loop" ⟨[.ref J,.none,.ref B],kws⟩) R s:=by
 have outw:B∉wr:=λz=>out (Wk.sub _ z);intro k;induction k with
 | zero=>
  intro j s x c hk hj st px hB hR;have jn:j+1=n:=by omega
  refine codeAny_builtin PySem.F.entry_max_loop ?_;rw[Around.under_plainId PySem.F.plain_max_loop _];show wpAny _ A.in1 (seqItems? (.ref B) >>= _) _ _ s;refine tE (wpAny_seqItems hB rfl ?_);show wpAny _ A.in1 (tryCatch (pyNext (.ref J)) _ >>= _) _ _ s;refine tE (wpAny_tryCatch (Wk.done s _ _ (jn▸st) λh1 t1 k1=>?_));have hB1:=k1 B _ outw hB;show wpAny _ A.in1 (updateSeq B (λ_=>#[]) >>= _) _ _ _;refine tE (wpAny_updateSeq hB1 rfl (tE (wpAny_letGo (tF ?_))));exact hR x _ t1 (by rw[<-jn];exact px) λb o n1 n2 e=>(Heap.get?_update_other _ _ (Ne.symm n2)).trans (k1 b o n1 e)
 | succ k ih=>
  intro j s x c hk hj st px hB hR;have jn:j+1<n:=by omega
  refine codeAny_builtin PySem.F.entry_max_loop ?_;rw[Around.under_plainId PySem.F.plain_max_loop _];show wpAny _ A.in1 (seqItems? (.ref B) >>= _) _ _ s;refine tE (wpAny_seqItems hB rfl ?_);show wpAny _ A.in1 (tryCatch (pyNext (.ref J)) _ >>= _) _ _ s;refine tE (wpAny_tryCatch (Wk.item (j+1) s _ _ jn st λy h1 t1 py st1 k1=>?_));have hB1:=k1 B _ outw hB;show wpAny _ A.in1 (tryCatch (holding [y,y] (richCompare .Gt y x >>= _)) _ >>= _) _ _ _;refine tE (wpAny_tryCatch (wpAny_holding (tE (cmp (j+1) (argBest gt j) y x _ _ _ py px ?_))));refine tE (wpAny_holding (wpAny_truthy_bool (tE (wpAny_letGo (tF ?_)))));cases hb:gt (j+1) (argBest gt j)with
  | true=>
   simp only[if_true];refine tE (wpAny_updateSeq hB1 rfl (tE (wpAny_letGo ?_)));rw[HQ];refine tF ⟨plainId_quiet PySem.F.plain_max_loop _,ih (j+1) _ y _ (by omega) jn (Wk.frame _ _ _ st1 λb hb' o e=>?_) (by simp only[argBest,hb,if_true];exact py) (Heap.get?_update_self _ hB1 rfl) λy' h2 t2 p2 k2=>?_⟩
   ·exact(Heap.get?_update_other _ _ (λz:B=b=>out (by rw[z];exact hb'))).trans e
   ·exact hR y' h2 t2 p2 λb o n1 n2 e=>k2 b o n1 n2 ((Heap.get?_update_other _ _ (Ne.symm n2)).trans (k1 b o n1 e))
  | false=>
   simp only[Bool.false_eq_true,if_false];refine tE (wpAny_letGo ?_);rw[HQ];refine tF ⟨plainId_quiet PySem.F.plain_max_loop _,ih (j+1) _ x c (by omega) jn st1 (by simp only[argBest,hb,Bool.false_eq_true,if_false];exact px) hB1 λy' h2 t2 p2 k2=>?_⟩;exact hR y' h2 t2 p2 λb o n1 n2 e=>k2 b o n1 n2 (k1 b o n1 e)
theorem WE(Wk:Walks prog w A.in1 J fp wr n Pv St)(gt:Nat->Nat->Bool)(cmp:CmpOf prog w A.in1 .Gt Pv gt)(B:Addr)(out:B∉fp)(d:Value){s:Shared}{c:Nat}(st:St 0 s.heap)
  (hB:s.heap.get? B=some { cls:=.type "list",dict:=none,data:=.seq #[] c,slots:=#[] })
  (h0:n=0->∀h' tk,(∀b o,b∉wr->b≠B->s.heap.get? b=some o->h'.get? b=some o)->R (.ok (.ret d)) { s with heap:=h',toks:=tk })
  (hR:0<n->∀y h' tk,Pv (argBest gt (n-1)) y->(∀b o,b∉wr->b≠B->s.heap.get? b=some o->h'.get? b=some o)->R (.ok (.ret y)) { s with heap:=h',toks:=tk }) :
  codeAny (model prog w) A (.builtin "max.loop" ⟨[.ref J,.none,.ref B],[("default",d)]⟩) R s:=by
 have outw:B∉wr:=λz=>out (Wk.sub _ z);refine codeAny_builtin PySem.F.entry_max_loop ?_;rw[Around.under_plainId PySem.F.plain_max_loop _];show wpAny _ A.in1 (seqItems? (.ref B) >>= _) _ _ s;refine tE (wpAny_seqItems hB rfl ?_);show wpAny _ A.in1 (tryCatch (pyNext (.ref J)) _ >>= _) _ _ s;by_cases hn:0<n
 ·refine tE (wpAny_tryCatch (Wk.item 0 s _ _ hn st λy h1 t1 py st1 k1=>?_));have hB1:=k1 B _ outw hB;show wpAny _ A.in1 (updateSeq B (λ_=>#[y,y]) >>= _) _ _ _;refine tE (wpAny_updateSeq hB1 rfl ?_);rw[HQ];refine tF ⟨plainId_quiet PySem.F.plain_max_loop _,WD Wk gt cmp B out _ _ 0 _ y _ rfl hn (Wk.frame _ _ _ st1 λb hb' o e=>?_) py (Heap.get?_update_self _ hB1 rfl) λy' h2 t2 p2 k2=>?_⟩
  ·exact(Heap.get?_update_other _ _ (λz:B=b=>out (by rw[z];exact hb'))).trans e
  ·exact hR hn y' h2 t2 p2 λb o n1 n2 e=>k2 b o n1 n2 ((Heap.get?_update_other _ _ (Ne.symm n2)).trans (k1 b o n1 e))
 ·have z:n=0:=by omega
  subst z;refine tE (wpAny_tryCatch (Wk.done s _ _ st λh1 t1 k1=>?_));refine tE (wpAny_rule (tF ?_));exact h0 rfl _ t1 λb o n1 n2 e=>k1 b o n1 e
end
theorem mx_args(a v:Value):argsOk "max" ⟨[a],[(Str.ofString "default",v)]⟩:=by unfold argsOk;kernel_rfl
section
variable{prog:Program}{w:World}{A:Around}{E:Value->Shared->Prop}{s:Shared}
theorem mx_call{x d:Value}{Q:Value->Shared->Prop}
  (h:wpAny (model prog w) A.in1 (pyIter x) (λit s₂=>∃J fp wr n Pv St gt,it=.ref J/\Walks prog w A.in1 J fp wr n Pv St/\St 0 s₂.heap/\(∀b∈fp,b<s₂.heap.objs.size)/\CmpOf prog w A.in1 .Gt Pv gt/\
   (n=0->∀h' tk,(∀b o,b∉wr->s₂.heap.get? b=some o->h'.get? b=some o)->Q d { s₂ with heap:=h',toks:=tk })/\
   (0<n->∀v h' tk,Pv (argBest gt (n-1)) v->(∀b o,b∉wr->s₂.heap.get? b=some o->h'.get? b=some o)->Q v { s₂ with heap:=h',toks:=tk })) E s) :
  wpAny (model prog w) A (call (.builtin "max") [x] [(Str.ofString "default",d)]) Q E s:=by
 refine kmb_tree PySem.F.kind_max PySem.F.plain_max PySem.F.entry_max (mx_args _ _) ?_;show wpAny _ A.in1 (Builtin.Builtins.bindParams "max" ["key","default"] 0 ⟨[],[(Str.ofString "default",d)]⟩ >>= _) _ _ s;refine tE (wpAny_of_eq (show Builtin.Builtins.bindParams "max" ["key","default"] 0 ⟨[],[(Str.ofString "default",d)]⟩=pure [none,some d]from rfl) ?_);refine tE (tF (tE (tG h (λit s₂ h₂=>?_) λ_ _ e=>e)));obtain⟨J,fp,wr,n,Pv,St,gt,rfl,Wk,st,lt,cmp,q0,q1⟩:=h₂;refine tE (wpAny_newObj_type ?_);have out:s₂.heap.objs.size∉fp:=λz=>nH _ (lt _ z);rw[HQ];have up:∀(h':Heap),(∀b o,b∉wr->b≠s₂.heap.objs.size->(s₂.heap.push { cls:=.type "list",data:=.seq ([]:List Value).toArray }).get? b=some o->h'.get? b=some o)->∀b o,b∉wr->s₂.heap.get? b=some o->h'.get? b=some o:=λh' k b o n1 e=>
  k b o n1 (nM (nJ e)) (uZ _ e)
 refine tF ⟨plainId_quiet PySem.F.plain_max_loop _,WE Wk gt cmp s₂.heap.objs.size out d (Wk.frame _ _ _ st λb _ o e=>uZ _ e) (gO _ rfl) (λz h' tk k=>q0 z h' tk (up h' k)) λz v h' tk p k=>q1 z v h' tk p (up h' k)⟩
end
theorem QO(ns:List Int):∀k,k<ns.length->(argBest (λi j=>decide (ns.getD i 0>ns.getD j 0)) k)<=k/\∀j,j<=k->ns.getD j 0<=ns.getD (argBest (λi j=>decide (ns.getD i 0>ns.getD j 0)) k) 0
 | 0,_=>⟨nW _,λj hj=>by have:j=0:=(by omega);subst this;exact Int.le_refl _⟩
 | k+1,h=>by
  obtain⟨h1,h2⟩:=QO ns k (by omega);simp only[argBest];split
  ·rename_i hb;have hb:=mB hb;refine⟨nW _,λj hj=>?_⟩;rcases Nat.lt_or_ge j (k+1)with z | z
   ·have:=h2 j (by omega);omega
   ·have:j=k+1:=by omega
    subst this;exact Int.le_refl _
  ·rename_i hb;refine⟨by omega,λj hj=>?_⟩;rcases Nat.lt_or_ge j (k+1)with z | z
   ·exact h2 j (by omega)
   ·have e:j=k+1:=by omega
    have:¬ns.getD (k+1) 0>ns.getD (argBest (λi j=>decide (ns.getD i 0>ns.getD j 0)) k) 0:=λy=>hb (mU y);rw[e];omega
section
variable{X:Cx}
def rMaxD(d:Int):List V->Hp->VK->Prop:=λxs H Q=>∃(l:Addr) (ns:List Int),xs=[.ref l]/\H l=some (.lst (ns.map V.int))/\(ns=[]->Q (.int d) H)/\∀m,m∈ns->(∀x∈ns,x<=m)->Q (.int m) H
theorem TL{pins:List (Addr×Obj)}{σ:L2.St}{H:Hp}{s:Shared}{l:Addr}{ns:List Int}{d:Int}{t:Tok}{Q:VK}(hc:X.calm=true)(I:Inv X pins σ H s)(hl:H l=some (.lst (ns.map V.int)))
  (q0:ns=[]->Q (.int d) H) (q1:∀m,m∈ns->(∀x∈ns,x<=m)->Q (.int m) H):wpAny (model X.prog X.w) X.A (call (.builtin "max") [.ref l] [(Str.ofString "default",.int d t)]) (EP X pins σ Q) X.xe s:=by
 obtain⟨its,rv,p,_⟩:=I.list (SqL.of hl);have i1:IntsAre its ns:=yF rv;have il:=yV i1;have ha:l<s.heap.objs.size:=by
  obtain⟨o,_,e,_⟩:=p;exact nJ e
 have p':s.heap.IsList l its.toArray:=by
  obtain⟨o,n,e,e2,_,e3⟩:=p;exact⟨o,e,e2,⟨n,e3⟩⟩
 refine mx_call (wpAny_pyIter_list p' ?_);refine⟨s.heap.objs.size,_,_,_,_,_,λi j=>decide (ns.getD i 0>ns.getD j 0),rfl,Walks.list (show X.A.in1.handled=none from I.ok.hd hc) s.heap.objs.size l (nM ha) its.toArray,⟨⟨_,gO _ rfl,rfl,rfl⟩,p'.push _⟩, ?_, ?_, ?_, ?_⟩
 ·intro b hb;show b<(s.heap.push _).objs.size;rw[mZ];simp only[nF,mJ,or_false]at hb;rcases hb with rfl | rfl
  ·exact mO _
  ·exact Nat.lt_succ_of_lt ha
 ·refine CmpOf.ints_gt (λi=>ns.getD i 0) λi v hv=>?_;have hv':its[i]? = some v:=by simpa using hv
  obtain⟨hi,e⟩:=uU.mp hv';obtain⟨n,t,e1,e2⟩:=yW i1 hi;exact⟨t,by rw[<-e,e2,uR,e1];rfl⟩
 ·intro z h' tk k;have z':ns=[]:=by
   have:its.length=0:=by simpa using z
   exact List.length_eq_zero_iff.mp (by omega)
  refine⟨.int d,H,I.kept (t':=tk) (λb o e=>k b o ?_ (uZ _ e)),⟨t,rfl⟩,q0 z'⟩;simp;exact nM (nJ e)
 ·intro z v h' tk hv k;have z':0<ns.length:=by
   have:0<its.length:=by simpa using z
   omega
  have sz:its.toArray.size=ns.length:=by rw[hU,il]
  rw[sz]at hv;obtain⟨b1,b2⟩:=QO ns (ns.length-1) (by omega);generalize argBest (λi j=>decide (ns.getD i 0>ns.getD j 0)) (ns.length-1)=i at hv b1 b2;have hv':its[i]? = some v:=by simpa using hv
  obtain⟨hi,e⟩:=uU.mp hv';obtain⟨n,t,e1,e2⟩:=yW i1 hi;have en:ns.getD i 0=n:=by rw[uR,e1];rfl
  refine⟨.int n,H,I.kept (t':=tk) (λb o e=>k b o ?_ (uZ _ e)),⟨t,by rw[<-e,e2]⟩,q1 n (gH e1) λx hx=>?_⟩
  ·simp;exact nM (nJ e)
  ·obtain⟨j,hj⟩:=gF.mp hx;have hjl:=(uU.mp hj).1;have:=b2 j (by omega);rw[en,uR,hj]at this;exact this
variable{p pos kpos:Pos}{e e2:Expr}{es:List Expr}{t tk:TA}
def tMaxD(t tk:TA):TE:=fun σ H Q=>t σ H λvs H1=>tk σ H1 λzs H2=>∃d,zs=[.int d]/\rMaxD d vs H2 Q
theorem pe_maxD(hc:X.calm=true)(hg:Gl X "max")(hm:X.mg "max" = none)(ha:PA X [e] t)(hk:PK X [⟨some "default",e2,kpos⟩] tk)
  (hall:(backToKw pos (keywordEach [⟨some "default",e2,kpos⟩] X.env)).all (·.1.isSome)=true:=by rfl) (hks:(backToKw pos (keywordEach [⟨some "default",e2,kpos⟩] X.env)).filterMap (·.1)=[Str.ofString "default"]:=by rfl)
  (he:starEach [e] X.env=[(false,eval e X.env)]:=by rfl)
  (hpl:((backTo pos (starEach [e] X.env)).any (·.1)||(backToKw pos (keywordEach [⟨some "default",e2,kpos⟩] X.env)).any (·.1.isNone))=false:=by rfl) :
  PE X (.Call (.Name "max" p) [e] [⟨some "default",e2,kpos⟩] pos) (tMaxD t tk):=by
 intro pins s σ H Q I h;refine wpAny_Call_Name_kw (xB I hg hm (show bootBuiltins "max" = some (.builtin "max") by decide +kernel) ?_ (by decide) (by decide));refine PySem.W.callWith_of (P:=λ_=>True) hpl (λ_ _=>⟨_,.inr (.inl rfl),PySem.W.Looks.of_pure rfl⟩) (evalArgs_kw2 hall (thn (ha pos pins s σ H _ I h) λus s1 ⟨vs,H1,I1,r,q⟩=>?_) he);refine thn (hk pos pins s1 σ H1 _ I1 q) λws s2 ⟨zs,H2,I2,rz,q2⟩=>⟨trivial, ?_⟩;rw[hks];obtain⟨d,rfl,l,ns,rfl,hl,q0,q1⟩:=q2;obtain⟨u,rfl,ru⟩:=xA r;cases ru;obtain⟨u,rfl,⟨t,rfl⟩⟩:=xA rz;exact TL hc I2 hl q0 q1
end
end LwMx
namespace L2
open PySem PySem.Spec PyProof.Rows
section
variable{prog:Program}{w:World}{A:Around}{E:Value->Shared->Prop}{s:Shared}
structure ZU(z TI TO i1 i2 l1 l2:Addr)(k:Nat)(h:Heap):Prop where
 zz:IsZip h z TI TO .none
 ti:IsPair h TI (.ref i1) (.ref i2)
 to:∃a b,IsPair h TO a b
 one:h.IsTupleIter i1 l1 k
 two:h.IsListIter i2 l2 k
variable{z TI TO i1 i2 l1 l2:Addr}{k:Nat}{xs ys:Array Value}
theorem QV{x y:Value}{Q:Option Value->Shared->Prop}(D:ZipApart z TI TO i1 i2 l1 l2)(Z:ZU z TI TO i1 i2 l1 l2 k s.heap)(t1:s.heap.IsTuple l1 xs)(t2:s.heap.IsList l2 ys)(hx:xs[k]? = some x)(hy:ys[k]? = some y)
  (q:∀g,IsZip g z TI TO (rawInt s.heap.objs.size)->IsPair g TO x y->g.IsTupleIter i1 l1 (k+1)->g.IsListIter i2 l2 (k+1)->IsPair g s.heap.objs.size x y->
   (∀c o,c∉[z,TO,i1,i2]->s.heap.get? c=some o->g.get? c=some o)->Q (some (.ref s.heap.objs.size)) { s with heap:=g }):wpAny (model prog w) A (pyNext (.ref z)) Q E s:=by
 obtain⟨hz,hti,⟨a,b,hto⟩,s1,s2⟩:=Z;have T:s.TypeIs (.ref z) "zip":=⟨_,hz,rfl⟩;unfold pyNext;refine tE (wpAny_attempt (wpAny_callSpecial?_slot (name:=Str.ofString "__next__") T F.slot_zip_next (wpAny_call_entry F.slot_zip_next T F.entry_zip_next ?_ (F.args_zip_next_1 _))));show wpAny _ _ (field (.ref z) 2 >>= _) _ _ _;refine tE (wpAny_field hz rfl (x:=.bool false) rfl ?_);show wpAny _ _ (field (.ref z) 3 >>= _) _ _ _;refine tE (wpAny_field hz rfl (x:=.ref TI) rfl (tE (wpAny_seqItems hti rfl ?_)));show wpAny _ _ (Builtin.SmallTypes.ownedTupleIsFree (.ref z) >>= _) _ _ _;refine tE ?_;unfold Builtin.SmallTypes.ownedTupleIsFree;refine tE (wpAny_field hz rfl (x:=.none) rfl (tF ?_));simp only[if_true];refine tE (wpAny_rule (tE (wpAny_field hz rfl (x:=.ref TO) rfl (tE (wpAny_setField_rec hz (by simp) λg1 z1 b1=>?_)))))
 replace z1:IsZip g1 z TI TO .ellipsis:=z1
 refine tE ?_;simp only[List.zipIdx_cons,List.zipIdx_nil,List.forIn_cons,List.forIn_nil];refine tE (tE (wpAny_onRaise ?_));show wpAny _ _ (Builtin.SmallTypes.nextOf (.ref i1) >>= _) _ _ _;refine tE (JZ (s1.extBut b1.extBut D.i1z) (t1.extBut b1.extBut D.l1z) hx λg2 n2 b2=>tF ?_);have o2:IsPair g2 TO a b:=b2.extBut _ _ D.TOi1 (b1.extBut _ _ D.TOz hto);refine tE (wpAny_seqItems o2 rfl (tE (wpAny_updateSeq_pair o2 λg3 o3 b3=>?_)))
 replace o3:IsPair g3 TO x b:=o3
 refine tE (wpAny_letGo (tF (tE (tE (wpAny_onRaise ?_)))));show wpAny _ _ (Builtin.SmallTypes.nextOf (.ref i2) >>= _) _ _ _;refine tE (wpAny_nextOf_list_item (((s2.extBut b1.extBut D.i2z).extBut b2.extBut D.i12.symm).extBut b3.extBut D.TOi2.symm) (((t2.extBut b1.extBut D.l2z).extBut b2.extBut D.l2i1).extBut b3.extBut D.l2TO) hy λg4 n4 b4=>tF ?_);have o4:IsPair g4 TO x b:=b4.extBut _ _ D.TOi2 o3;refine tE (wpAny_seqItems o4 rfl (tE (wpAny_updateSeq_pair o4 λg5 o5 b5=>?_)))
 replace o5:IsPair g5 TO x y:=o5
 refine tE (wpAny_letGo (tF (tF (tE (wpAny_seqItems o5 rfl (tE (wpAny_newTuple ?_)))))));have sz:g5.objs.size=s.heap.objs.size:=by rw[b5.1,b4.1,b3.1,b2.1,b1.1]
 have z5:IsZip g5 z TI TO .ellipsis:=b5.extBut _ _ D.TOz.symm (b4.extBut _ _ D.i2z.symm (b3.extBut _ _ D.TOz.symm (b2.extBut _ _ D.i1z.symm z1)));have k5:∀c o,c∉[z,TO,i1,i2]->s.heap.get? c=some o->g5.get? c=some o:=λc o hc e=>by
  simp only[nF,not_or]at hc;exact b5.extBut _ _ hc.2.1 (b4.extBut _ _ hc.2.2.2.1 (b3.extBut _ _ hc.2.1 (b2.extBut _ _ hc.2.2.1 (b1.extBut _ _ hc.1 e))))
 have n5:g5.IsTupleIter i1 l1 (k+1):=((n2.extBut b3.extBut D.TOi1.symm).extBut b4.extBut D.i12).extBut b5.extBut D.TOi1.symm;have m5:g5.IsListIter i2 l2 (k+1):=n4.extBut b5.extBut D.TOi2.symm;have zl:z<g5.objs.size:=nJ z5;show wpAny _ _ (Builtin.SmallTypes.ownedTupleHandOut (.ref z) (.ref g5.objs.size) >>= _) _ _ _;refine tE ?_;unfold Builtin.SmallTypes.ownedTupleHandOut;have z6:IsZip (g5.push { cls:=.type "tuple",data:=.seq #[x,y] }) z TI TO .ellipsis:=uZ _ z5;refine tE (wpAny_setField_rec z6 (by simp) λg7 z7 b7=>?_)
 replace z7:IsZip g7 z TI TO (rawInt g5.objs.size):=z7
 refine wpAny_setField_rec z7 (by simp) λg8 z8 b8=>?_
 replace z8:IsZip g8 z TI TO (rawInt g5.objs.size):=z8
 have up:∀c o,c≠z->g5.get? c=some o->g8.get? c=some o:=λc o cz e=>b8.extBut _ _ cz (b7.extBut _ _ cz (uZ _ e));have nu:IsPair g8 g5.objs.size x y:=b8.extBut _ _ (Nat.ne_of_gt zl) (b7.extBut _ _ (Nat.ne_of_gt zl) (gO _ rfl));rw[sz]at z8 nu;refine tF ⟨_,rfl,tF ?_⟩;show Q (some (.ref g5.objs.size)) _;rw[sz];exact q g8 z8 (up _ _ D.TOz o5) (IsTupleIter.as n5 λo e=>up _ o D.i1z e) (m5.at λo e=>up _ o D.i2z e) nu λc o hc e=>up c o (λh=>hc (by simp [h])) (k5 c o hc e)
theorem TQ{Q:Option Value->Shared->Prop}(hh:A.handled=none)(D:ZipApart z TI TO i1 i2 l1 l2)(Z:ZU z TI TO i1 i2 l1 l2 k s.heap)(t1:s.heap.IsTuple l1 xs)(t2:s.heap.IsList l2 ys)(he:xs[k]? = none∨ys[k]? = none)
  (q:∀g,(∀c o,c∉[z,TO,i1,i2]->s.heap.get? c=some o->g.get? c=some o)->Q none { s with heap:=g }):wpAny (model prog w) A (pyNext (.ref z)) Q E s:=by
 obtain⟨hz,hti,⟨a,b,hto⟩,s1,s2⟩:=Z;have T:s.TypeIs (.ref z) "zip":=⟨_,hz,rfl⟩;unfold pyNext;refine tE (wpAny_attempt (wpAny_callSpecial?_slot (name:=Str.ofString "__next__") T F.slot_zip_next (wpAny_call_entry F.slot_zip_next T F.entry_zip_next ?_ (F.args_zip_next_1 _))));have fin:∀g (e:Addr),(∀c o,c∉[z,TO,i1,i2]->s.heap.get? c=some o->g.get? c=some o)->(∃o,g.get? e=some o/\o.cls=.type "StopIteration")->
   wpAny (model prog w) A (do if (<-isInstance (.ref e) (.type "StopIteration"))then pure none else throw (.ref e)) Q E { s with heap:=g } :=λg e hk ⟨o,ho,hc⟩=>
  tE (wpAny_isInstance (T:="StopIteration") (b:=true) ⟨o,ho,hc⟩ isSubtype_stop (tF (q _ hk)))
 show wpAny _ _ (field (.ref z) 2 >>= _) _ _ _;refine tE (wpAny_field hz rfl (x:=.bool false) rfl ?_);show wpAny _ _ (field (.ref z) 3 >>= _) _ _ _;refine tE (wpAny_field hz rfl (x:=.ref TI) rfl (tE (wpAny_seqItems hti rfl ?_)));show wpAny _ _ (Builtin.SmallTypes.ownedTupleIsFree (.ref z) >>= _) _ _ _;refine tE ?_;unfold Builtin.SmallTypes.ownedTupleIsFree;refine tE (wpAny_field hz rfl (x:=.none) rfl (tF ?_));simp only[if_true];refine tE (wpAny_rule (tE (wpAny_field hz rfl (x:=.ref TO) rfl (tE (wpAny_setField_rec hz (by simp) λg1 z1 b1=>?_)))))
 replace z1:IsZip g1 z TI TO .ellipsis:=z1
 refine tE ?_;simp only[List.zipIdx_cons,List.zipIdx_nil,List.forIn_cons,List.forIn_nil];refine tE (tE (wpAny_onRaise ?_));show wpAny _ _ (Builtin.SmallTypes.nextOf (.ref i1) >>= _) _ _ _;cases hx:xs[k]? with
 | none=>
  refine tE (AJ hh (s1.extBut b1.extBut D.i1z) (t1.extBut b1.extBut D.l1z) hx λg2 e b2 ⟨oe,he,ce⟩=>?_);have z2:IsZip g2 z TI TO .ellipsis:=b2 _ _ D.i1z.symm z1;have ez:e≠z:=λh=>by subst h;rw[z2]at he;cases he;simp at ce
  refine wpAny_setField_rec z2 (by simp) λg3 _ b3=>fin g3 e (λc o hc h=>?_) ⟨oe,b3.extBut _ _ ez he,ce⟩;simp only[nF,not_or]at hc;exact b3.extBut _ _ hc.1 (b2 _ _ hc.2.2.1 (b1.extBut _ _ hc.1 h))
 | some x=>
  have hy:ys[k]? = none:=he.resolve_left (by rw[hx];simp);refine tE (JZ (s1.extBut b1.extBut D.i1z) (t1.extBut b1.extBut D.l1z) hx λg2 n2 b2=>tF ?_);have o2:IsPair g2 TO a b:=b2.extBut _ _ D.TOi1 (b1.extBut _ _ D.TOz hto);refine tE (wpAny_seqItems o2 rfl (tE (wpAny_updateSeq_pair o2 λg3 o3 b3=>?_)));refine tE (wpAny_letGo (tF (tE (tE (wpAny_onRaise ?_)))));show wpAny _ _ (Builtin.SmallTypes.nextOf (.ref i2) >>= _) _ _ _;refine tE (wpAny_nextOf_list_end hh (((s2.extBut b1.extBut D.i2z).extBut b2.extBut D.i12.symm).extBut b3.extBut D.TOi2.symm) (((t2.extBut b1.extBut D.l2z).extBut b2.extBut D.l2i1).extBut b3.extBut D.l2TO) hy λg4 e b4 ⟨oe,he,ce⟩=>?_);have z4:IsZip g4 z TI TO .ellipsis:=b4 _ _ D.i2z.symm (b3.extBut _ _ D.TOz.symm (b2.extBut _ _ D.i1z.symm z1));have ez:e≠z:=λh=>by subst h;rw[z4]at he;cases he;simp at ce
  refine wpAny_setField_rec z4 (by simp) λg5 _ b5=>fin g5 e (λc o hc h=>?_) ⟨oe,b5.extBut _ _ ez he,ce⟩;simp only[nF,not_or]at hc;exact b5.extBut _ _ hc.1 (b4 _ _ hc.2.2.2.1 (b3.extBut _ _ hc.2.1 (b2.extBut _ _ hc.2.2.1 (b1.extBut _ _ hc.1 h))))
theorem MN(a b:Addr)(xs ys:Array Value) :
  Meets (Builtin.«zip.__new__» ⟨[.type "zip",.ref a,.ref b],[]⟩) (λ_ R s=>s.heap.IsTuple a xs/\s.heap.IsList b ys/\
   ∀g,(∀c o,s.heap.get? c=some o->g.get? c=some o)->ZU (s.heap.objs.size+4) (s.heap.objs.size+2) (s.heap.objs.size+3) s.heap.objs.size (s.heap.objs.size+1) a b 0 g->R (.ok (.ret (.ref (s.heap.objs.size+4)))) { s with heap:=g }):=
 .of_wp λprog w A R s h=>by
  obtain⟨hp,gs,d,tk,os⟩:=s;obtain⟨t1,t2,h⟩:=h;have hsub:=sub_zip;have T1:Heap.IsTuple (Shared.heap ⟨hp,gs,d,tk,os⟩) a xs:=t1;have T2:Heap.IsList (Shared.heap ⟨hp.push { cls:=.type "tuple_iterator",data:=.fields #[.ref a,.int 0 0] },gs,d,tk,os⟩) b ys:=Heap.IsList.push t2 _
  wp_walk using wpAny_pyIter_tuple T1,wpAny_pyIter_list T2
  have e1:=λo=>mZ hp (o:=o);refine⟨_,rfl, ?_⟩;simp only[mZ]at h ⊢;refine h _ (λc o e=>uZ _ (uZ _ (uZ _ (uZ _ (uZ _ e))))) ⟨?_, ?_, ?_, ?_, ?_⟩
  ·have e:=gO (((((hp.push { cls:=.type "tuple_iterator",data:=.fields #[.ref a,.int 0 0] }).push { cls:=.type "list_iterator",data:=.fields #[.ref b,.int 0 0] }).push { cls:=.type "tuple",data:=.seq #[.ref hp.objs.size,.ref (hp.objs.size+1)] })).push { cls:=.type "tuple",data:=.seq #[.none,.none] }) (o:={ cls:=.type "zip",data:=.fields #[.none,.bool false,.bool false,.ref (hp.objs.size+2),.ref (hp.objs.size+3)] }) rfl;simp only[mZ]at e;exact e
  ·have e:=gO ((hp.push { cls:=.type "tuple_iterator",data:=.fields #[.ref a,.int 0 0] }).push { cls:=.type "list_iterator",data:=.fields #[.ref b,.int 0 0] }) (o:={ cls:=.type "tuple",data:=.seq #[.ref hp.objs.size,.ref (hp.objs.size+1)] }) rfl;simp only[mZ]at e;exact uZ _ (uZ _ e)
  ·have e:=gO ((((hp.push { cls:=.type "tuple_iterator",data:=.fields #[.ref a,.int 0 0] }).push { cls:=.type "list_iterator",data:=.fields #[.ref b,.int 0 0] }).push { cls:=.type "tuple",data:=.seq #[.ref hp.objs.size,.ref (hp.objs.size+1)] })) (o:={ cls:=.type "tuple",data:=.seq #[.none,.none] }) rfl;simp only[mZ]at e;exact⟨_,_,uZ _ e⟩
  ·have e:=gO hp (o:={ cls:=.type "tuple_iterator",data:=.fields #[.ref a,.int 0 0] }) rfl;exact⟨_,uZ _ (uZ _ (uZ _ (uZ _ e))),rfl,rfl⟩
  ·have e:=gO (hp.push { cls:=.type "tuple_iterator",data:=.fields #[.ref a,.int 0 0] }) (o:={ cls:=.type "list_iterator",data:=.fields #[.ref b,.int 0 0] }) rfl;simp only[mZ]at e;exact⟨_,uZ _ (uZ _ (uZ _ e)),rfl,rfl⟩
theorem TJ{a b:Addr}{xs ys:Array Value}{Q:Value->Shared->Prop}(t1:s.heap.IsTuple a xs)(t2:s.heap.IsList b ys)
  (q:∀g,(∀c o,s.heap.get? c=some o->g.get? c=some o)->ZU (s.heap.objs.size+4) (s.heap.objs.size+2) (s.heap.objs.size+3) s.heap.objs.size (s.heap.objs.size+1) a b 0 g->Q (.ref (s.heap.objs.size+4)) { s with heap:=g }) :
  wpAny (model prog w) A (call (.type "zip") [.ref a,.ref b]) Q E s:=
 callType_new F.called_zip (by decide) (F.typeCall_zip_2 _ _) (F.newCall_zip_2 _ _) (λobj=>F.args_object_init_3 obj _ _) F.entry_zip_new (MN a b xs ys) ⟨t1,t2,λg k Z=>⟨⟨_,Z.zz,rfl⟩,q g k Z⟩⟩
end
section
variable{X:Cx}{pins:List (Addr×Obj)}{σ:St}{H:Hp}{s:Shared}{h':Heap}
theorem FpOk.apartL{a b:Addr}{xs:List V}(I:Inv X pins σ H s)(f:FpOk X pins H b)(h:SqL X.K H a xs):a≠b:=by
 rintro rfl;rcases h with(h | ⟨o,h⟩) | ⟨o,its,n,hk,hc,hs,hz,r⟩
 ·rw[f.1]at h;cases h
 ·rw[f.1]at h;cases h
 ·have hb:X.base.get? a=some o:=I.ok.mod.kin a o hk;rcases f.2.2.2.1 with z | z
  ·exact I.ok.noex a o hb z
  ·exact absurd (gU (nJ hb) (nK I.ok.bsz z)) (nH _)
end
def Itu(K:tJ)(a b:Addr):It:=
 ⟨λi H=>∃xs ys x y,SqT K H a xs/\SqL K H b ys/\xs[i]? = some x/\ys[i]? = some y,
  λi H v H'=>∃p x y,H p=none/\v=.ref p/\H'=upd H p (.tup [x,y])/\(∀xs,SqT K H a xs->xs[i]? = some x)/\(∀ys,SqL K H b ys->ys[i]? = some y),
  λi H=>∃xs ys,SqT K H a xs/\SqL K H b ys/\(xs.length<=i∨ys.length<=i)⟩
theorem QY{P:Program}{w:World}{K:tJ}{es:List Expr}{x1}{pos:Pos}(l1 l2:Addr){z TI TO i1 i2:Addr}(F:Five z TI TO i1 i2):Turn P w K (.Tuple es x1 pos) (Itu K l1 l2) [z,TI,TO,i1,i2] z (λi h=>ZU z TI TO i1 i2 l1 l2 i h) where
 mem:=by simp
 obj:=λi h Z b hb=>by
  simp only[nF,mJ,or_false]at hb;obtain⟨hz,hti,⟨a,c,hto⟩,⟨o1,g1,c1,d1⟩,⟨o2,g2,c2,d2⟩⟩:=Z;rcases hb with rfl | rfl | rfl | rfl | rfl
  ·exact⟨_,hz,λv q=>by cases (show Data.fields _=Data.cell v from q)⟩
  ·exact⟨_,hti,λv q=>by cases (show Data.seq _ _=Data.cell v from q)⟩
  ·exact⟨_,hto,λv q=>by cases (show Data.seq _ _=Data.cell v from q)⟩
  ·exact⟨_,g1,λv q=>by rw[d1]at q;cases q⟩
  ·exact⟨_,g2,λv q=>by rw[d2]at q;cases q⟩
 keep:=λi h h' Z k=>by
  obtain⟨hz,hti,⟨a,c,hto⟩,s1,s2⟩:=Z;exact⟨k z (by simp) _ hz,k TI (by simp) _ hti,⟨a,c,k TO (by simp) _ hto⟩,IsTupleIter.as s1 λo e=>k i1 (by simp) o e,s2.at λo e=>k i2 (by simp) o e⟩
 item:=by
  intro X hP hw hK hc i pins s σ H E I hf Z hg;subst hP hw hK;obtain⟨xs,ys,x,y,q1,q2,hx,hy⟩:=hg;obtain⟨its1,r1,p1,_⟩:=I.tuple q1;obtain⟨its2,r2,p2,_⟩:=I.list q2;obtain⟨u1,hu1,ru1⟩:=r1.get hx;obtain⟨u2,hu2,ru2⟩:=r2.get hy;have D:=F.of (λb hb=>FpOk.apart I (hf b hb) q1) (λb hb=>FpOk.apartL I (hf b hb) q2);refine QV D Z (show s.heap.IsTuple l1 its1.toArray from p1) p2.isList (x:=u1) (y:=u2) (by simpa using hu1) (by simpa using hu2) λg z1 to1 n1 n2 nu kk=>⟨_,rfl, ?_⟩;refine wpAny_letOwnedTupleGo_zip z1 λg2 z2 sb=>?_;have fr:H s.heap.objs.size=none:=I.hok.fresh uO ;have fp:∀b∈[z,TI,TO,i1,i2],FpOk X pins (upd H s.heap.objs.size (.tup [x,y])) b:=λb hb=>by
   have lt:b≠s.heap.objs.size:=by
    simp only[nF,mJ,or_false]at hb;obtain⟨hz,hti,⟨a,c,hto⟩,⟨o1,g1,_⟩,⟨o2,g2,_⟩⟩:=Z;rcases hb with rfl | rfl | rfl | rfl | rfl
    ·exact nM (nJ hz)
    ·exact nM (nJ hti)
    ·exact nM (nJ hto)
    ·exact nM (nJ g1)
    ·exact nM (nJ g2)
   exact⟨by rw[jM lt];exact(hf b hb).1,(hf b hb).2⟩
  have I1:Inv X pins σ (upd H s.heap.objs.size (.tup [x,y])) { s with heap:=s.heap.push { cls:=.type "tuple",data:=.seq #[u1,u2] } } :=I.laid (t':=s.toks) (λb u e=>uZ _ e) uO ⟨by simp [sizeLine],[u1,u2],.cons ru1 (.cons ru2 .nil),⟨_,gO _ rfl,rfl,_,rfl⟩,.of (gO _ rfl) rfl⟩;have up:∀c o,c≠z->g.get? c=some o->g2.get? c=some o:=λc o cz e=>sb.extBut _ _ cz e;have zs:z≠s.heap.objs.size:=nM (nJ Z.zz);have I2:Inv X pins σ (upd H s.heap.objs.size (.tup [x,y])) { s with heap:=g2 } :=by
   refine Inv.turnedL (s:={ s with heap:=s.heap.push { cls:=.type "tuple",data:=.seq #[u1,u2] } }) (h':=g2) (t':=s.toks) I1 fp λb o hb e=>?_;have bz:b≠z:=λh=>hb (by simp [h]);rcases Heap.get?_push_cases e with⟨e1,e2⟩ | e1
   ·rw[e1,e2];exact up _ _ (Ne.symm zs) nu
   ·exact up _ _ bz (kk b o (λh=>hb (by simp only[nF,mJ,or_false]at h ⊢;rcases h with h | h | h | h<;>simp [h])) e1)
  exact⟨.ref s.heap.objs.size,_,I2,rfl,⟨_,x,y,fr,rfl,rfl,λxs' h=>by rw[I.tuple_inj h q1];exact hx,λys' h=>by rw[I.list_inj h q2];exact hy⟩,⟨z2,up _ _ D.TIz (kk _ _ (by simp [D.TIz,D.TITO,D.TIi1,D.TIi2]) Z.ti),⟨_,_,up _ _ D.TOz to1⟩,IsTupleIter.as n1 λo e=>up _ o D.i1z e,n2.at λo e=>up _ o D.i2z e⟩,λb hb=>(fp b hb).1⟩
 done:=by
  intro X hP hw hK hc i pins s σ H E I hf Z hg;subst hP hw hK;obtain⟨xs,ys,q1,q2,he⟩:=hg;obtain⟨its1,r1,p1,_⟩:=I.tuple q1;obtain⟨its2,r2,p2,_⟩:=I.list q2;have D:=F.of (λb hb=>FpOk.apart I (hf b hb) q1) (λb hb=>FpOk.apartL I (hf b hb) q2);have e1:=r1.length;have e2:=r2.length;refine TQ (I.ok.hd hc) D Z (show s.heap.IsTuple l1 its1.toArray from p1) p2.isList ?_ λg kk=>⟨rfl,Inv.turnedL (t':=s.toks) I hf λb o hb e=>kk b o (λh=>hb (by simp only[nF,mJ,or_false]at h ⊢;rcases h with h | h | h | h<;>simp [h])) e⟩;rcases he with h | h
  ·exact .inl (by simp;omega)
  ·exact .inr (by simp;omega)
 self:=λ_ _ _ _ _ Z h=>wpAny_pyIter_zip Z.zz h
section
variable{X:Cx}
def iZipU(K:tJ)(ta:TA):TI:=fun σ H R=>ta σ H λvs H1=>∃a b,vs=[.ref a,.ref b]/\(∃xs,SqT K H1 a xs)/\(∃ys,SqL K H1 b ys)/\R (Itu K a b) H1
theorem YW{es:List Expr}{x1}{tp:Pos}{a b:Expr}{ta:TA}{p pos:Pos}(hg:Gl X "zip")(hm:X.mg "zip" = none)(ha:PA X [a,b] ta)(hs:starEach [a,b] X.env=[(false,eval a X.env),(false,eval b X.env)]:=by rfl)(hs2:starEach [b] X.env=[(false,eval b X.env)]:=by rfl) :
  PI X (.Tuple es x1 tp) (.Call (.Name "zip" p) [a,b] [] pos) (iZipU X.K ta):=by
 intro pins s σ H R I h;refine Call_ (xB I hg hm boot_zip (PyProof.Rows.callWith_type1 (thn (ha pos pins s σ H _ I h) λus s1 ⟨vs,H1,I1,r1,q1⟩=>?_) (by rw[hs,hs2]) (by rw[hs2];rfl)));obtain⟨l1,l2,e,⟨xs,q1⟩,⟨ys,q2⟩,q⟩:=q1;subst e;cases r1 with
 | cons r rr=>
  cases rr with
  | cons r' rr=>
   cases rr;cases r;cases r';obtain⟨its1,_,p1,_⟩:=I1.tuple q1;obtain⟨its2,_,p2,_⟩:=I1.list q2;refine TJ (show s1.heap.IsTuple l1 its1.toArray from p1) p2.isList λg k Z=>wpAny_pyIter_zip Z.zz ?_;refine⟨_,_,_,_,H1,rfl,I1.kept (t':=s1.toks) k,QY l1 l2 ⟨by simp⟩,Z,λb hb=>?_,q⟩;have hb':s1.heap.objs.size<=b:=by
    simp only[nF,mJ,or_false]at hb;rcases hb with rfl | rfl | rfl | rfl | rfl<;>first | exact Nat.le_add_right _ _ | exact nW _
   exact I1.fpOk hb' (I1.hok.fresh hb')
end
section
open AutoSeq1 (wpAny_loadPart')
end
section
variable{prog:Program}{w:World}{A:Around}{E:Value->Shared->Prop}{s:Shared}
end
section
variable{X:Cx}
end
theorem XE{K:tJ}{a b:Addr}{xs ys:List V}{g:TG}{tb:TS}{D:Ends}{σ:St}{H:Hp}(Pv:Nat->St->Hp->Prop)(le:xs.length=ys.length)(h0:Pv 0 σ H)(hl:∀i σ H,i<=xs.length->Pv i σ H->SqT K H a xs/\SqT K H b ys)
  (hs:∀i x y p σ H,xs[i]? = some x->ys[i]? = some y->H p=none->Pv i σ H->g (.ref p) σ (upd H p (.tup [x,y])) fun σ2 H2=>tb { D with nx:=Pv (i+1),ct:=Pv (i+1),bk:=D.nx } σ2 H2) (hd:∀σ H,Pv xs.length σ H->D.nx σ H) :
  ∃W:Nat->Nat->St->Hp->Prop,(∃m,W 0 m σ H)/\∀i m σ H,W i m σ H->
   ((Itz K a b).stop i H/\D.nx σ H)∨((Itz K a b).go i H/\∃N:St->Hp->Prop,(∀σ' H',N σ' H'->∃m',m'<m/\W (i+1) m' σ' H')/\∀x H',(Itz K a b).yld i H x H'->g x σ H' fun σ2 H2=>tb { D with nx:=N,ct:=N,bk:=D.nx } σ2 H2):=by
 refine⟨λi m σ H=>m=xs.length-i/\i<=xs.length/\Pv i σ H,⟨xs.length,by simp,nX _,h0⟩, ?_⟩;rintro i m σ H ⟨rfl,hi,p⟩;obtain⟨q1,q2⟩:=hl i σ H hi p;by_cases hlt:i<xs.length
 ·refine .inr ⟨⟨xs,ys,xs[i],ys[i]'(by omega),q1,q2,by simp [hlt],by simp [le▸hlt]⟩,Pv (i+1),fun σ' H' p'=>⟨xs.length-(i+1),by omega,rfl,hlt,p'⟩,λv H' y=>?_⟩;obtain⟨r,x,y,hr,rfl,rfl,hx,hy⟩:=y;exact hs i x y r σ H (hx xs q1) (hy ys q2) hr p
 ·have ei:i=xs.length:=by omega
  subst ei;exact .inl ⟨⟨xs,ys,q1,q2,.inl uO⟩,hd σ H p⟩
theorem XD{K:tJ}{a b:Addr}{xs ys:List V}{g:TG}{tb:TS}{D:Ends}{σ:St}{H:Hp}(Pv:Nat->St->Hp->Prop)(le:xs.length=ys.length)(h0:Pv 0 σ H)(hl:∀i σ H,i<=xs.length->Pv i σ H->SqT K H a xs/\SqL K H b ys)
  (hs:∀i x y p σ H,xs[i]? = some x->ys[i]? = some y->H p=none->Pv i σ H->g (.ref p) σ (upd H p (.tup [x,y])) fun σ2 H2=>tb { D with nx:=Pv (i+1),ct:=Pv (i+1),bk:=D.nx } σ2 H2) (hd:∀σ H,Pv xs.length σ H->D.nx σ H) :
  ∃W:Nat->Nat->St->Hp->Prop,(∃m,W 0 m σ H)/\∀i m σ H,W i m σ H->
   ((Itu K a b).stop i H/\D.nx σ H)∨((Itu K a b).go i H/\∃N:St->Hp->Prop,(∀σ' H',N σ' H'->∃m',m'<m/\W (i+1) m' σ' H')/\∀x H',(Itu K a b).yld i H x H'->g x σ H' fun σ2 H2=>tb { D with nx:=N,ct:=N,bk:=D.nx } σ2 H2):=by
 refine⟨λi m σ H=>m=xs.length-i/\i<=xs.length/\Pv i σ H,⟨xs.length,by simp,nX _,h0⟩, ?_⟩;rintro i m σ H ⟨rfl,hi,p⟩;obtain⟨q1,q2⟩:=hl i σ H hi p;by_cases hlt:i<xs.length
 ·refine .inr ⟨⟨xs,ys,xs[i],ys[i]'(by omega),q1,q2,by simp [hlt],by simp [le▸hlt]⟩,Pv (i+1),fun σ' H' p'=>⟨xs.length-(i+1),by omega,rfl,hlt,p'⟩,λv H' y=>?_⟩;obtain⟨r,x,y,hr,rfl,rfl,hx,hy⟩:=y;exact hs i x y r σ H (hx xs q1) (hy ys q2) hr p
 ·have ei:i=xs.length:=by omega
  subst ei;exact .inl ⟨⟨xs,ys,q1,q2,.inl uO⟩,hd σ H p⟩
end L2
namespace LwD
open PySem PySem.Spec PyProof.Rows L2 Lw
section
variable{X:Cx}
end
section
variable{X:Cx}{pins:List (Addr×Obj)}{σ:L2.St}{H:Hp}{s:Shared}
theorem Inv.freeze{d:Addr}{kvs:List (List Key×V)}(I:Inv X pins σ H s)(e:H d=some (.dT kvs)):∃o,Inv X pins σ (upd H d (.frz o (.dT kvs))) s:=by
 have ob:ObjOk X.prog X.w H s.heap d (.dT kvs):=I.hok d _ e;obtain⟨z,lo,xs,rel,o,es,ep,ho,r⟩:=id ob;refine⟨o, ?_⟩;have ne:∀{b:Addr} {u:HO},H b=some u->(∀k,u≠.dT k)->upd H d (.frz o (.dT kvs)) b=some u:=fun {b u} q n=>by
  rw[jM (λy=>by rw[y,e]at q;cases q;exact n _ rfl)];exact q
 refine I.step (h':=s.heap) (g':=s.gens) (t':=s.toks) (d':=s.drawn) (ch:=[]) (λ_ y=>nomatch y) (λb u _ _ _ q _=>q) (λb u _ _ _ q _=>⟨u.slots,q⟩) (λb u _ _ q=>?_) (λb u _ q=>⟨u,q⟩) (λb xs q=>ne q λ_ y=>by cases y) (λb u v q=>ne q λ_ y=>by cases y)
  (λb ps q=>⟨#[],by rw[ne q λ_ y=>by cases y];simp⟩) (λm hm=>hm) ?_ I.bare
 ·rw[jM (λy=>by rw[y,e]at q;cases q)];exact q
 ·intro b u q;by_cases hb:b=d
  ·subst hb;rw[jG]at q;cases q;exact⟨ho,ob.stay (λc v _ q=>q) (λc q=>ne q λ_ y=>by cases y) λc xs q=>ne q λ_ y=>by cases y⟩
  ·rw[jM hb]at q;exact(I.hok b u q).stay (λc v _ q=>q) (λc q=>ne q λ_ y=>by cases y) λc xs q=>ne q λ_ y=>by cases y
end
section
variable{X:Cx}
def tFrz(te:TE):TE:=fun σ H Q=>te σ H λv H1=>∃d kvs,v=.ref d/\H1 d=some (.dT kvs)/\∀o,Q v (upd H1 d (.frz o (.dT kvs)))
theorem MJ{e:Expr}{te:TE}(h:PE X e te):PE X e (tFrz te):=by
 intro pins s σ H Q I hq;refine thn (h pins s σ H _ I hq) λu s1 ⟨x,H1,I1,r1,q1⟩=>?_;obtain⟨d,kvs,rfl,hd,k⟩:=q1;obtain⟨o,I2⟩:=Inv.freeze I1 hd;exact⟨.ref d,_,I2,r1,k o⟩
end
def Itk(d:Addr)(o:Obj)(kvs:List (List Key×V))(ys:List V):It:=
 ⟨λi H=>H d=some (.frz o (.dT kvs))/\i<ys.length,λi H x H'=>H'=H/\ys[i]? = some x,λi H=>H d=some (.frz o (.dT kvs))/\i=ys.length⟩
theorem RC{P:Program}{w:World}{K:tJ}{tg:Expr}(d it:Addr){o:Obj}{es:Array DictEntry}{ep:Nat}{kvs:List (List Key×V)}{ys:List V}(xo:o.ExactDict)(ho:o.data=.dict es ep)
  (hy:∀(i:Nat) (h:i<es.size),∃b,es[i].key=.ref b/\ys[i]? = some (.ref b)) (hl:ys.length=es.size):Turn P w K tg (Itk d o kvs ys) [it] it (λi h=>h.IsKeyIter it d i es.size ep) where
 mem:=by simp
 obj:=λi h st b hb=>by
  have e:b=it:=by simpa using hb
  subst e;obtain⟨o,e,c,d⟩:=st;exact⟨o,e,λv z=>by rw[d]at z;cases z⟩
 keep:=λi h h' st k=>st.at λo e=>k it (by simp) o e
 item:=by
  intro X hP hw hK hc i pins s σ H E I hf st hg;subst hP hw hK;obtain⟨hd,hi⟩:=hg;have raw:Raw s.heap d es ep:=⟨o,(I.hok d _ hd).1,xo,ho⟩;obtain⟨b,eb,yb⟩:=hy i (by omega);obtain⟨f0,f1,f2,f3,f4,f5⟩:=hf it (by simp);refine JE st raw (by omega) λh' st' sb=>?_;have I1:Inv X pins σ H { s with heap:=h' } :=I.turned (t':=s.toks) (λb o hb e=>(sb.2 b hb).trans e) f0 f1 f3 f4 f5;obtain⟨oi,e,c,dd⟩:=id st';exact⟨_,rfl,PV (s:={ s with heap:=h' }) e c dd (by decide) ⟨.ref b,H,I1,by rw[eb];rfl,⟨rfl,yb⟩,st',λb hb=>(hf b hb).1⟩⟩
 done:=by
  intro X hP hw hK hc i pins s σ H E I hf st hg;subst hP hw hK;obtain⟨hd,hi⟩:=hg;have raw:Raw s.heap d es ep:=⟨o,(I.hok d _ hd).1,xo,ho⟩;obtain⟨f0,f1,f2,f3,f4,f5⟩:=hf it (by simp);rw[hi,hl]at st;exact OD (I.ok.hd hc) st raw λh' eb=>⟨rfl,I.turned (t':=s.toks) (λb o hb e=>eb b o hb e) f0 f1 f3 f4 f5⟩
 self:=λ_ _ _ _ _ st h=>wpAny_pyIter_keyiter st h
section
variable{X:Cx}
def iKeys(te:TE):TI:=fun σ H R=>te σ H λv H1=>∃d o kvs,v=.ref d/\H1 d=some (.frz o (.dT kvs))/\(∀p∈kvs,∃ns:List Int,p.1=ik ns)/\∀ys,Keyed H1 ys kvs->R (Itk d o kvs ys) H1
theorem BD{tg l:Expr}{tl:TE}(hl:PE X l tl):PI X tg l (iKeys tl):=by
 intro pins s σ H R I h;refine thn (hl pins s σ H _ I h) λv s1 ⟨x,H1,I1,r1,q1⟩=>?_;obtain⟨d,o,kvs,rfl,hd,hk,q⟩:=q1;cases r1;obtain⟨go,ob⟩:=I1.hok d _ hd;obtain⟨z,lo,ks,rel,o',es,ep,ho,xo,hdat,he,hn⟩:=(show ObjOk X.prog X.w H1 s1.heap d (.dT kvs)from ob);rw[go]at ho;cases ho;have esz:es.size=kvs.length:=by rw[size_of_entries he,<-Paired.length rel]
 have itup:∀(j:Nat) (h:j<es.size),∃(b:Addr) (ns:List Int) (v:V),es[j].key=.ref b/\H1 b=some (.tup (ns.map V.int))/\kvs[j]? = some (ik ns,v):=λj hj=>by
  have e1:=entry_at he j;rw[Array.getElem?_eq_getElem hj]at e1;cases e2:ks[j]? with
  | none=>rw[e2]at e1;cases e1
  | some x=>
   rw[e2]at e1;have e3:es[j]=entryOfKey _ x:=Option.some.inj e1;obtain⟨v,m1,m2⟩:=KTgetI rel e2;obtain⟨ns,n1⟩:=hk _ (gH m1);dsimp only at n1;rw[n1]at m1 m2;rw[yX]at m2;exact⟨x.2.1,ns,v,by rw[e3];rfl,m2,m1⟩
 have kref:∀(j:Nat) (h:j<es.size),∃b:Addr,es[j].key=.ref b:=λj hj=>let ⟨b,_,_,e,_⟩:=itup j hj;⟨b,e⟩;refine JF lo ⟨o,go,xo,hdat⟩ ?_;refine⟨s1.heap.objs.size,[s1.heap.objs.size],_,_,H1,rfl,I1.kept (t':=s1.toks) λb o e=>uZ _ e,RC (kvs:=kvs) d _ xo hdat (ys:=es.toList.map λe=>match e.key with | .ref b=>V.ref b | _=>V.non) ?_ (by simp),⟨_,gO _ rfl,rfl,rfl⟩,λb hb=>?_,q _ ⟨by simp [esz],λi y p ey ep=>?_⟩⟩
 ·intro i hi;obtain⟨b,e⟩:=kref i hi;refine⟨b,e, ?_⟩;simp only[hJ,Array.getElem?_toList,Array.getElem?_eq_getElem hi,Option.map_some,e]
 ·have e:b=s1.heap.objs.size:=by simpa using hb
  rw[e];exact I1.fpOk uO (I1.hok.fresh uO)
 ·have hi:i<es.size:=by
   have:=(uU.mp ey).1;simpa using this
  obtain⟨b,ns,v,e1,e2,e3⟩:=itup i hi;simp only[hJ,Array.getElem?_toList,Array.getElem?_eq_getElem hi,Option.map_some,e1,Option.some.injEq]at ey;rw[e3]at ep;cases ep;exact⟨b,ns,ey.symm,e2,rfl⟩
end
theorem XF{d:Addr}{o:Obj}{kvs:List (List Key×V)}{xs:List V}{g:TG}{tb:TS}{D:Ends}{σ:L2.St}{H:Hp}(Pv:Nat->L2.St->Hp->Prop)(h0:Pv 0 σ H)(hl:∀i σ H,Pv i σ H->H d=some (.frz o (.dT kvs)))
  (hs:∀i x σ H,xs[i]? = some x->Pv i σ H->g x σ H fun σ2 H2=>tb { D with nx:=Pv (i+1),ct:=Pv (i+1),bk:=D.nx } σ2 H2) (hd:∀σ H,Pv xs.length σ H->D.nx σ H) :
  ∃W:Nat->Nat->L2.St->Hp->Prop,(∃m,W 0 m σ H)/\∀i m σ H,W i m σ H->
   ((Itk d o kvs xs).stop i H/\D.nx σ H)∨((Itk d o kvs xs).go i H/\∃N:L2.St->Hp->Prop,(∀σ' H',N σ' H'->∃m',m'<m/\W (i+1) m' σ' H')/\∀x H',(Itk d o kvs xs).yld i H x H'->g x σ H' fun σ2 H2=>tb { D with nx:=N,ct:=N,bk:=D.nx } σ2 H2):=by
 refine⟨λi m σ H=>m=xs.length-i/\i<=xs.length/\Pv i σ H,⟨xs.length,by simp,nX _,h0⟩, ?_⟩;rintro i m σ H ⟨rfl,hi,p⟩;have q:=hl i σ H p;by_cases hlt:i<xs.length
 ·refine .inr ⟨⟨q,hlt⟩,Pv (i+1),fun σ' H' p'=>⟨xs.length-(i+1),by omega,rfl,hlt,p'⟩,λx H' y=>?_⟩;obtain⟨e,y⟩:=y;subst e;exact hs i x σ _ y p
 ·have ei:i=xs.length:=by omega
  subst ei;exact .inl ⟨⟨q,rfl⟩,hd σ H p⟩
theorem LT(l:Addr)(x:Value)(n:Nat)(od:Option Addr)(sl:Array (Option Value))(k:Nat)(hk:2<=k/\k<=4)(u:Tok) :
  Meets (Builtin.«tuple.__mul__» ⟨[.ref l,.int k u],[]⟩) (λ_ R s=>s.heap.get? l=some { cls:=.type "tuple",dict:=od,data:=.seq #[x] n,slots:=sl }/\R (.ok (.ret (Value.ref s.heap.objs.size))) { s with heap:=s.heap.push { cls:=Value.type "tuple",data:=Data.seq (List.replicate k x).toArray } }):=
 .of_wp λprog w A R s h=>by
  obtain⟨hp,g,d,tk,os⟩:=s;obtain⟨hl,h⟩:=h;have:k=2∨k=3∨k=4:=by omega
  rcases this with rfl | rfl | rfl<;>(wp_walk;exact⟨_,rfl,h⟩)
theorem UB(l:Addr)(x:Value)(n:Nat)(od:Option Addr)(sl:Array (Option Value))(u:Tok) :
  Meets (Builtin.«tuple.__mul__» ⟨[.ref l,.int 1 u],[]⟩) (λ_ R s=>s.heap.get? l=some { cls:=.type "tuple",dict:=od,data:=.seq #[x] n,slots:=sl }/\R (.ok (.ret (Value.ref l))) s):=
 .of_wp λprog w A R s h=>by
  obtain⟨hp,g,d,tk,os⟩:=s;obtain⟨hl,h⟩:=h
  wp_walk
  exact⟨_,rfl,h⟩
theorem tmul_r(a:Int)(t:Tok)(l:Addr)(x:Value)(n:Nat)(od:Option Addr)(sl:Array (Option Value)) :
  Meets (Builtin.«int.__rmul__» ⟨[.int a t,.ref l],[]⟩) (λ_ R s=>s.heap.get? l=some { cls:=.type "tuple",dict:=od,data:=.seq #[x] n,slots:=sl }/\R (.ok (.ret Value.notImplemented)) s):=
 .of_wp λprog w A R s h=>by obtain⟨hp,g,d,tk,os⟩:=s;obtain⟨hl,h⟩:=h;wp_walk;exact⟨_,rfl,h⟩
theorem JX:fillsNumberSlot (.type "tuple") "mul" = pure false:=
 PySem.fillsNumberSlot_seq (id:="tuple.__mul__") (r:=some (.builtin "tuple.__rmul__")) F.slot_tuple_mul.lookup (by decide +kernel) F.slot_tuple_rmul.lookup (by decide +kernel)
theorem YM:seqRepeat? (.type "tuple")=pure (some (.builtin "tuple.__mul__")):=by
 unfold seqRepeat?;rw[PySem.seqSlot_of (T:="tuple") (name:="__mul__") (id:="tuple.__mul__") F.slot_tuple_mul.lookup (by decide +kernel),PySem.seqSlot_of (T:="tuple") (name:="__rmul__") (id:="tuple.__rmul__") F.slot_tuple_rmul.lookup (by decide +kernel)]
 rfl
section
variable{X:Cx}
def rRepT:R2:=λx y H Q=>∃(l:Addr) (k:Nat) (v:V),x=.ref l/\y=.int k/\H l=some (.tup [v])/\1<=k/\k<=4/\∀p H',Same H H'->H' p=some (.tup (List.replicate k v))->Q (.ref p) H'
theorem ZC:OpR X (binaryOp .Mult) rRepT:=by
 intro pins s σ H x y v u Q I rx ry h;obtain⟨l,k,z,rfl,rfl,hH,h1,h2,q⟩:=h;cases rx;obtain⟨t,rfl⟩:=ry;obtain⟨zl,its,rv,⟨⟨cl,od,dt,sl⟩,ho,hc,n,hd⟩,nD⟩:=(show ObjOk X.prog X.w H s.heap l (.tup [z])from I.hok l _ hH)
 replace hc:cl=.type "tuple":=hc
 replace hd:dt=.seq its.toArray n:=hd
 obtain⟨iv,rfl,riv⟩:=xA rv;subst hc hd;refine wpAny_binaryOp_repeat_ref (T:="tuple") (U:="int") (by decide) ⟨_,ho,rfl⟩ (λs'=>typeIs_int s' k t) JX F.fills_int_mul F.slot_int_rmul YM F.slot_int_index.lookup
  (call_meets F.slot_int_rmul (typeIs_int s k t) F.entry_int_rmul (F.args_int_rmul_2 _ _) (tmul_r k t l iv n od sl) ⟨ho,rfl,⟨_,ho,rfl⟩, ?_⟩)
 by_cases k1:k=1
 ·subst k1;exact call_meets F.slot_tuple_mul ⟨_,ho,rfl⟩ F.entry_tuple_mul (F.args_tuple_mul_2 _ _) (UB l iv n od sl t) ⟨ho,⟨.ref l,H,I,rfl,q l H (Same.refl _) hH⟩⟩
 ·refine call_meets F.slot_tuple_mul ⟨_,ho,rfl⟩ F.entry_tuple_mul (F.args_tuple_mul_2 _ _) (LT l iv n od sl k (by omega) t) ⟨ho, ?_⟩;have nz:H s.heap.objs.size=none:=I.hok.fresh uO ;have rr:Vals (List.replicate k z) (List.replicate k iv):=by
   clear h1 h2 q k1;induction k with
   | zero=>exact .nil
   | succ k ih=>exact .cons riv ih
  exact⟨.ref s.heap.objs.size,_,I.laid (o:=.tup (List.replicate k z)) (t':=s.toks) (λb u e=>uZ _ e) uO ⟨by rw[gC];exact nK h2 (by decide),_,rr,⟨_,gO _ rfl,rfl,_,rfl⟩,.of (gO _ rfl) rfl⟩,rfl,q _ _ (kD _ nz) jG⟩
def CDivP(i j:Int):Prop:=0<j/\Builtin.divisionGoesByPylong i j=false
theorem JT:OpR X (binaryOp .FloorDiv) (rI CDivP λi j=>.int (i/j)):=opI λi j _ _ _ _ _ hc q=>by
 refine floordiv_int (by have:=hc.1;omega) ?_ (.inl hc.2);rw[Int.fdiv_eq_ediv_of_nonneg _ (Int.le_of_lt hc.1)];exact q
theorem LJ{i j:Int}(h:CDivL i j):CDivP i j:=⟨h.1,PyProof.noPylong_of_log2 (gU (LwM.log2_lt (by decide) h.2) (by decide))⟩
theorem EA{i j:Int}{m:Nat}(hj:0<j)(hm:m<=13400)(hi:i.natAbs<2^m):CDivP i j:=by
 refine⟨hj, ?_⟩;by_cases h9:j.natAbs.log2<9000
 ·exact PyProof.noPylong_of_log2 h9
 ·show(decide ((if j==0 then 0 else j.natAbs.log2/30+1)>300)&&decide ((if i==0 then 0 else i.natAbs.log2/30+1)>(if j==0 then 0 else j.natAbs.log2/30+1)+150))=false;rw[Bool.and_eq_false_iff]
  right
  refine mR ?_;have j0:(j==0)=false:=by
   rw[beq_eq_false_iff_ne];omega
  rw[j0];simp only[Bool.false_eq_true,if_false];have:i.natAbs.log2<13440:=by
   by_cases z:i.natAbs=0
   ·rw[z];decide +kernel
   ·exact(Nat.log2_lt z).mpr (gU hi (gJ (by decide) (by omega)))
  split<;>omega
end
end LwD
namespace LwD
open PySem PySem.W PySem.Spec PyProof.Rows
def TruT{α:Type}(lt:Nat->Nat->Bool)(n:Nat):KasT α->(α->Prop)->Prop
 | .ret a,P=>P a
 | .ask i j k,P=>i<n/\j<n/\TruT lt n (k (lt i j)) P
theorem TruT.bind{α β:Type}{lt:Nat->Nat->Bool}{n:Nat}{f:α->KasT β}{P:α->Prop}{R:β->Prop} :∀{t:KasT α},TruT lt n t P->(∀a,P a->TruT lt n (f a) R)->TruT lt n (t.bind f) R
 | .ret a,h,g=>g a h
 | .ask _ _ _,h,g=>⟨h.1,h.2.1,TruT.bind h.2.2 g⟩
theorem TruT.mono{α:Type}{lt:Nat->Nat->Bool}{n:Nat}{P R:α->Prop}(g:∀a,P a->R a):∀{t:KasT α},TruT lt n t P->TruT lt n t R
 | .ret a,h=>g a h
 | .ask _ _ _,h=>⟨h.1,h.2.1,TruT.mono g h.2.2⟩
structure Strict(lt:Nat->Nat->Bool)(n:Nat):Prop where
 tr:∀a b c,lt a b=true->lt b c=true->lt a c=true
 as:∀a b,lt a b=true->lt b a=false
 tot:∀a b,a<n->b<n->a≠b->lt a b=false->lt b a=true
def Up(lt:Nat->Nat->Bool)(p:Array Nat)(m:Nat):Prop:=∀a b,a<b->b<m->lt (p.getD a 0) (p.getD b 0)=true
def Dn(lt:Nat->Nat->Bool)(p:Array Nat)(m:Nat):Prop:=∀a b,a<b->b<m->lt (p.getD b 0) (p.getD a 0)=true
theorem Pm.ne{n:Nat}{p:Array Nat}(h:Pm n p){a b:Nat}(hab:a<b)(hb:b<n):p.getD a 0≠p.getD b 0:=by
 have sz:=h.size;have nd:p.toList.Nodup:=h.nodup_iff.mpr List.nodup_range;have ha':a<p.toList.length:=by simp [sz];omega
 have hb':b<p.toList.length:=by simp [sz];omega
 intro e;have e1:p.toList[a]=p.toList[b]:=by
  have h1:p.getD a 0=p.toList[a]:=by simp [Array.getD,show a<p.size by omega]
  have h2:p.getD b 0=p.toList[b]:=by simp [Array.getD,show b<p.size by omega]
  rw[<-h1,<-h2,e]
 have:=(List.getElem_inj nd).mp e1;omega
section
variable{lt:Nat->Nat->Bool}{n:Nat}
theorem Up.snoc(O:Strict lt n){p:Array Nat}{m:Nat}(u:Up lt p m)(h:0<m->lt (p.getD (m-1) 0) (p.getD m 0)=true):Up lt p (m+1):=by
 intro a b hab hb;by_cases hbm:b<m
 ·exact u a b hab hbm
 ·have:b=m:=by omega
  subst this;by_cases ha:a=b-1
  ·rw[ha];exact h (by omega)
  ·exact O.tr _ _ _ (u a (b-1) (by omega) (by omega)) (h (by omega))
theorem Dn.snoc(O:Strict lt n){p:Array Nat}{m:Nat}(u:Dn lt p m)(h:0<m->lt (p.getD m 0) (p.getD (m-1) 0)=true):Dn lt p (m+1):=by
 intro a b hab hb;by_cases hbm:b<m
 ·exact u a b hab hbm
 ·have:b=m:=by omega
  subst this;by_cases ha:a=b-1
  ·rw[ha];exact h (by omega)
  ·exact O.tr _ _ _ (h (by omega)) (u a (b-1) (by omega) (by omega))
theorem FU(O:Strict lt n){p:Array Nat}(h:Pm n p)(hn:0<n):∀(f k:Nat),1<=k->k+f=n->Up lt p k->TruT lt n (kas_asc p f k) λm=>k<=m/\m<=n/\Up lt p m/\(m<n->lt (p.getD m 0) (p.getD (m-1) 0)=true)
 | 0,k,h1,h2,u=>⟨nW _,by omega,u,λz=>by omega⟩
 | f+1,k,h1,h2,u=>by
  refine⟨h.lt hn,h.lt hn, ?_⟩;cases hb:lt (p.getD k 0) (p.getD (k-1) 0)with
  | true=>exact⟨nW _,by omega,u,λ_=>hb⟩
  | false=>
   have up:Up lt p (k+1):=u.snoc O λ_=>O.tot _ _ (h.lt hn) (h.lt hn) (Ne.symm (h.ne (by omega) (by omega))) hb;refine(FU O h hn f (k+1) (by omega) (by omega) up).mono λm hm=>⟨by omega,hm.2⟩
theorem IU(O:Strict lt n)(hn:0<n){p:Array Nat}(h:Pm n p):∀(f k:Nat),1<=k->k+f=n->Dn lt p k->TruT lt n (kas_desc f p k 0) λr=>r.1=p/\r.2.2=0/\k<=r.2.1/\r.2.1<=n/\Dn lt p r.2.1
 | 0,k,_,h2,d=>⟨rfl,rfl,nW _,(show k<=n by omega),d⟩
 | f+1,k,h1,h2,d=>by
  refine⟨h.lt hn,h.lt hn, ?_⟩;cases hb:lt (p.getD k 0) (p.getD (k-1) 0)with
  | true=>
   have dn:Dn lt p (k+1):=d.snoc O λ_=>hb;exact(IU O hn h f (k+1) (by omega) (by omega) dn).mono λr hr=>⟨hr.1,hr.2.1,by omega,hr.2.2.2⟩
  | false=>
   refine⟨h.lt hn,h.lt hn, ?_⟩;have:lt (p.getD (k-1) 0) (p.getD k 0)=true:=O.tot _ _ (h.lt hn) (h.lt hn) (Ne.symm (h.ne (by omega) (by omega))) hb;rw[this];exact⟨rfl,rfl,nW _,(show k<=n by omega),d⟩
theorem getD_of?{p:Array Nat}{i:Nat}{q:Array Nat}{j:Nat}(h:p[i]? = q[j]?):p.getD i 0=q.getD j 0:=by
 rw[Array.getD_eq_getD_getElem?,Array.getD_eq_getD_getElem?,h]
theorem rev_up{p:Array Nat}(sz:p.size=n){k:Nat}(hk:k<=n)(d:Dn lt p k):Up lt (kas_rev p 0 k) k:=by
 intro a b hab hb;have e:∀c,c<k->(kas_rev p 0 k).getD c 0=p.getD (k-1-c) 0:=λc hc=>by
  refine getD_of? ?_;unfold kas_rev;rw[getElem?_mirror_all (by omega),tI ⟨nX _,hc⟩,Nat.zero_add]
 rw[e a (by omega),e b hb];exact d (k-1-b) (k-1-a) (by omega) (by omega)
theorem RD(O:Strict lt n)(hn:0<n):TruT lt n (kas_count n (List.toArray (List.range n))) λr=>Pm n r.2/\1<=r.1/\r.1<=n/\Up lt r.2 r.1:=by
 have h:Pm n (List.toArray (List.range n)):=by unfold Pm;simp
 generalize List.toArray (List.range n)=p at h;have u1:Up lt p 1:=λa b h1 h2=>by omega
 refine(FU O h hn (n-1) 1 (by omega) (by omega) u1).bind λm hm=>?_;obtain⟨m1,m2,um,hlt⟩:=hm;by_cases e:m=n
 ·rw[tI (by simp [e])];exact⟨h,m1,m2,um⟩
 ·rw[tH (by simp [e])];by_cases m3:m>1
  ·rw[tI m3];refine⟨h.lt hn,h.lt hn, ?_⟩;rw[um 0 (m-1) (by omega) (by omega)];exact⟨h,m1,m2,um⟩
  ·rw[tH m3];have m4:m=1:=by omega
   subst m4;have d2:Dn lt p 2:=by
    intro a b hab hb;have hl:=hlt (by omega);have:a=0/\b=1:=by omega
    rw[this.1,this.2];exact hl
   unfold kas_descPart;refine(IU O hn h (n-(1+1)) (1+1) (by omega) (by omega) d2).bind λr hr=>?_;obtain⟨r1,r2,r3,r4,r5⟩:=hr;rw[tH (by rw[r2];decide),r1];unfold kas_tail3;have hv:Pm n (kas_rev p 0 r.2.1):=h.rev _ _;refine(FU O hv hn (n-r.2.1) r.2.1 (by omega) (by omega) (rev_up h.size r4 r5)).bind λk hk=>?_;exact⟨hv,by omega,hk.2.1,hk.2.2.1⟩
theorem uL(O:Strict lt n)(hn:0<n){p:Array Nat}(h:Pm n p){k:Nat}(hk:k<n)(u:Up lt p k):∀(f l r:Nat),l<=r->r<=k->r-l<=f->(∀a,a<l->lt (p.getD a 0) (p.getD k 0)=true)->(∀a,r<=a->a<k->lt (p.getD k 0) (p.getD a 0)=true)->
  TruT lt n (kas_place p k f l r) λx=>x<=k/\(∀a,a<x->lt (p.getD a 0) (p.getD k 0)=true)/\∀a,x<=a->a<k->lt (p.getD k 0) (p.getD a 0)=true
 | 0,l,r,h1,h2,h3,hl,hr=>⟨by omega,hl,λa ha=>hr a (by omega)⟩
 | f+1,l,r,h1,h2,h3,hl,hr=>by
  show TruT lt n (if l ≥ r then _ else _) _;split
  ·exact⟨by omega,hl,λa ha=>hr a (by omega)⟩
  ·refine⟨h.lt hn,h.lt hn, ?_⟩;have mk:(l+r)/2<k:=by omega
   cases hb:lt (p.getD k 0) (p.getD ((l+r)/2) 0)with
   | true=>
    refine uL O hn h hk u f l ((l+r)/2) (by omega) (by omega) (by omega) hl λa ha hak=>?_;by_cases e:a=(l+r)/2
    ·rw[e];exact hb
    ·exact O.tr _ _ _ hb (u _ _ (by omega) hak)
   | false=>
    have hm:lt (p.getD ((l+r)/2) 0) (p.getD k 0)=true:=O.tot _ _ (h.lt hn) (h.lt hn) (Ne.symm (h.ne mk hk)) hb;refine uL O hn h hk u f ((l+r)/2+1) r (by omega) h2 (by omega) (λa ha=>?_) hr;by_cases e:a=(l+r)/2
    ·rw[e];exact hm
    ·exact O.tr _ _ _ (u a _ (by omega) mk) hm
theorem bub_up{p:Array Nat}(sz:p.size=n){k l:Nat}(hk:k<n)(hl:l<=k)(u:Up lt p k)(h1:∀a,a<l->lt (p.getD a 0) (p.getD k 0)=true)(h2:∀a,l<=a->a<k->lt (p.getD k 0) (p.getD a 0)=true):Up lt (bubble p k (k-l)) (k+1):=by
 have e:∀c,(bubble p k (k-l)).getD c 0=if c=l then p.getD k 0 else if l<c/\c<=k then p.getD (c-1) 0 else p.getD c 0:=λc=>by
  have:=getElem?_bubble (xs:=p) (src:=k) (by omega) (k-l) (by omega) c;have z:k-(k-l)=l:=by omega
  rw[z]at this;split
  ·rename_i hc;rw[tI hc]at this;exact getD_of? this
  ·rename_i hc;rw[tH hc]at this;split
   ·rename_i hc2;rw[tI hc2]at this;exact getD_of? this
   ·rename_i hc2;rw[tH hc2]at this;exact getD_of? this
 intro a b hab hb;rw[e a,e b];by_cases a1:a=l
 ·rw[tI a1,tH (by omega),tI ⟨by omega,by omega⟩];exact h2 _ (by omega) (by omega)
 ·rw[tH a1];by_cases a2:l<a/\a<=k
  ·rw[tI a2,tH (by omega),tI ⟨by omega,by omega⟩];exact u _ _ (by omega) (by omega)
  ·rw[tH a2];by_cases b1:b=l
   ·rw[tI b1];exact h1 a (by omega)
   ·rw[tH b1];by_cases b2:l<b/\b<=k
    ·rw[tI b2];by_cases ab:a=b-1
     ·omega
     ·exact u _ _ (by omega) (by omega)
    ·rw[tH b2];exact u _ _ hab (by omega)
theorem NK(O:Strict lt n)(hn:0<n):∀(f:Nat) {p:Array Nat} (_:Pm n p) (k:Nat),k+f=n->Up lt p k->TruT lt n (kas_bin f p k) λq=>Pm n q/\Up lt q n
 | 0,p,h,k,hk,u=>⟨h,by have:k=n:=(by omega);rw[<-this];exact u⟩
 | f+1,p,h,k,hk,u=>by
  refine(uL O hn h (by omega) u k 0 k (nX _) uO (by omega) (λa ha=>by omega) (λa h1 h2=>by omega)).bind λl hl=>?_;exact NK O hn f (h.bub _ _) (k+1) (by omega) (bub_up h.size (by omega) hl.1 u hl.2.1 hl.2.2)
theorem UA(O:Strict lt n)(hn:0<n):TruT lt n (kas_sort n) λq=>Pm n q/\Up lt q n:=by
 refine(RD O hn).bind λr hr=>?_;obtain⟨h1,h2,h3,h4⟩:=hr;split
 ·rw[show max r.1 1=r.1 by omega];exact NK O hn _ h1 _ (by omega) h4
 ·have:r.1=n:=by omega
  exact⟨h1,this▸h4⟩
theorem TW{α:Type}{cmp:Nat->Nat->(Bool->Shared->Prop)->Shared->Prop}{s:Shared}(hc:∀i j C,i<n->j<n->C (lt i j) s->cmp i j C s){P:α->Prop}{Q:α->Shared->Prop}(hq:∀a,P a->Q a s):∀{t:KasT α},TruT lt n t P->t.kasWp cmp Q s
 | .ret a,h=>hq a h
 | .ask i j k,h=>hc i j _ h.1 h.2.1 (TW hc hq h.2.2)
end
end LwD
namespace LwD
open PySem PySem.Spec PyProof.Rows L2 Lw
def qY:List Int->List Int->Bool
 | x::xs,y::ys=>if x=y then qY xs ys else decide (x<y)
 | [],_::_=>true
 | _,[]=>false
theorem OX:∀a b c:List Int,qY a b=true->qY b c=true->qY a c=true
 | [],[],_,h,_=>by simp [qY]at h
 | [],_::_,[],_,h=>by simp [qY]at h
 | [],_::_,_::_,_,_=>by simp [qY]
 | _::_,[],_,h,_=>by simp [qY]at h
 | _::_,_::_,[],_,h=>by simp [qY]at h
 | x::xs,y::ys,z::zs,h1,h2=>by
  have ih:=OX xs ys zs;simp only[qY]at h1 h2 ⊢;by_cases e1:x=y
  ·subst e1;rw[tI rfl]at h1;by_cases e2:x=z
   ·rw[tI e2]at h2 ⊢;exact ih h1 h2
   ·rw[tH e2]at h2 ⊢;exact h2
  ·rw[tH e1]at h1;have h1:=mB h1;by_cases e2:y=z
   ·subst e2;rw[tH e1];exact mU h1
   ·rw[tH e2]at h2;have h2:=mB h2;rw[tH (by omega)];exact mU (by omega)
theorem OY:∀a b:List Int,qY a b=true->qY b a=false
 | [],[],h=>by simp [qY]at h
 | [],_::_,_=>by simp [qY]
 | _::_,[],h=>by simp [qY]at h
 | x::xs,y::ys,h=>by
  have ih:=OY xs ys;simp only[qY]at h ⊢;by_cases e1:x=y
  ·subst e1;rw[tI rfl]at h ⊢;exact ih h
  ·rw[tH e1]at h;have h:=mB h;rw[tH (by omega)];exact mR (by omega)
theorem KL:∀a b:List Int,a≠b->qY a b=false->qY b a=true
 | [],[],n,_=>absurd rfl n
 | [],_::_,_,h=>by simp [qY]at h
 | _::_,[],_,_=>by simp [qY]
 | x::xs,y::ys,n,h=>by
  have ih:=KL xs ys;simp only[qY]at h ⊢;by_cases e1:x=y
  ·subst e1;rw[tI rfl]at h ⊢;exact ih (λz=>n (by rw[z])) h
  ·rw[tH e1]at h;have h:=of_decide_eq_false h;rw[tH (by omega)];exact mU (by omega)
def HX(fin:Bool):List Int->List Int->Bool
 | x::xs,y::ys=>if x=y then HX fin xs ys else decide (x<y)
 | _,_=>fin
theorem OZ:∀a b:List Int,HX (decide (a.length<b.length)) a b=qY a b
 | [],[]=>rfl
 | [],_::_=>by simp [HX,qY]
 | _::_,[]=>by simp [HX,qY]
 | x::xs,y::ys=>by
  have ih:=OZ xs ys;simp only[HX,qY,mL,Nat.add_lt_add_iff_right];rw[ih]
def xV(k:List Key):List Int:=k.filterMap fun | .inl i=>some i | .inr _=>none
theorem WR(ns:List Int):xV (ik ns)=ns:=by
 unfold xV ik;induction ns with
 | nil=>rfl
 | cons n r ih=>simp [ih]
theorem KTkeys{H:Hp}{kvs:List (List Key×V)}{xs:List (List Key×Addr×Value)}(r:KT H kvs xs):kvs.map (·.1)=xs.map (·.1):=by
 induction r with
 | nil=>rfl
 | cons h _ ih=>rw[nC,nC,ih,h.1]
section
variable{prog:Program}{w:World}{A:Around}{E:Value->Shared->Prop}{s:Shared}
theorem KK{b fin:Bool}{Q:Bool->Shared->Prop} :∀{as bs:List Value} {xs ys:List Int} (_:IntsAre as xs) (_:IntsAre bs ys) (_:Q (HX fin xs ys) s) (i:Nat),PySem.W.KatLex prog w A b fin Q (as.zip bs) i s
 | _,_,_,_,.nil,_,h,_=>by
  rw[List.zip_nil_left];exact PySem.W.kat_nil (by simpa [HX]using h)
 | _,_,_,_,.cons _ _ _,.nil,h,_=>by
  rw[List.zip_nil_right];exact PySem.W.kat_nil (by simpa [HX]using h)
 | _,_,_,_,.cons n t r,.cons m u r2,h,i=>by
  rw[List.zip_cons_cons];simp only[HX]at h;refine PySem.W.kat_cons (SeqAt.EqAt.int_int _ _ _ _ prog w _ _ ?_);refine PySem.W.kat_go (λe=>PySem.W.kat_yes (KK r r2 (by rwa [tI (by simpa using e)]at h) (i+1))) λe=>PySem.W.kat_no ?_;rw[tH (by simpa using e)]at h;cases hb:(b&&i==0)with
  | true=>exact oneLt_int h
  | false=>exact PySem.W.kat_one _ _ (lt_int h)
end
section
variable{X:Cx}
def rSortS:List V->Hp->VK->Prop:=λxs H Q=>∃(a:Addr) (kvs:List (List Key×V)),xs=[.ref a]/\Rd H a (.dT kvs)/\kvs.length<64/\(∀p∈kvs,∃ns:List Int,p.1=ik ns/\ns≠[])/\
 ∀(ys:List V) (zs:List (List Key×V)),zs.Perm kvs->Keyed H ys zs->zs.Pairwise (λp q=>qY (xV p.1) (xV q.1)=true)->New H (.lst ys) Q
theorem NC(hc:X.calm=true):CallR X (.builtin "sorted") rSortS:=by
 intro pins s σ H xs us Q I r h;obtain⟨a,kvs,rfl,ha,h64,hk,q⟩:=h;obtain⟨u,rfl,ru⟩:=xA r;cases ru;obtain⟨z,lo,ks,rel,dd⟩:=DJ I.hok ha;obtain⟨o,es,ep,hd1,hd2,hd3,he,his,hn⟩:=id dd;have raw:Raw s.heap a es ep:=⟨o,hd1,hd2,hd3⟩;have esz:es.size=kvs.length:=by rw[size_of_entries he,<-Paired.length rel]
 obtain⟨m,F⟩:=I.fr;have kn:(kvs.map (·.1)).Nodup:=by rw[KTkeys rel];exact hn
 have itup:∀(j:Nat) (h:j<es.size),∃(b:Addr) (ns:List Int) (v:V),es[j].key=.ref b/\H b=some (.tup (ns.map V.int))/\kvs[j]? = some (ik ns,v)/\ns≠[]:=λj hj=>by
  have e1:=entry_at he j;rw[Array.getElem?_eq_getElem hj]at e1;cases e2:ks[j]? with
  | none=>rw[e2]at e1;cases e1
  | some x=>
   rw[e2]at e1;have e3:es[j]=entryOfKey _ x:=Option.some.inj e1;obtain⟨v,m1,m2⟩:=KTgetI rel e2;obtain⟨ns,n1,n2⟩:=hk _ (gH m1);dsimp only at n1;rw[n1]at m1 m2;rw[yX]at m2;exact⟨x.2.1,ns,v,by rw[e3];rfl,m2,m1,n2⟩
 refine PySem.W.kdu_sorted (YN lo) (I.ok.hd hc) F VX raw (by rw[esz];exact z) λD h' tk vs F' N' lt hlen hP=>?_;have vtup:∀(j:Nat) (hj:j<vs.length),∃(b:Addr) (ns:List Int) (v:V),vs[j]=.ref b/\H b=some (.tup (ns.map V.int))/\kvs[j]? = some (ik ns,v)/\ns≠[]:=λj hj=>by
  obtain⟨h1,h2⟩:=hP j vs[j] (by simp [hj]);rw[h2];exact itup j h1
 have vl:vs.length=kvs.length:=by rw[hlen,esz]
 have kvI:∀(j:Nat) (ns:List Int) (v:V),kvs[j]? = some (ik ns,v)->xV (kvs.getD j ([],.non)).1=ns:=λj ns v e=>by rw[uR,e];exact WR ns
 have O:Strict (λi j=>qY (xV (kvs.getD i ([],.non)).1) (xV (kvs.getD j ([],.non)).1)) vs.length:=by
  refine⟨λa b c=>OX _ _ _,λa b=>OY _ _,λa b ha hb hab hf=>?_⟩;obtain⟨_,ns,v,_,_,e3,_⟩:=vtup a ha;obtain⟨_,ms,v',_,_,e3',_⟩:=vtup b hb;rw[kvI _ _ _ e3,kvI _ _ _ e3']at hf;show qY (xV (kvs.getD b ([],.non)).1) (xV (kvs.getD a ([],.non)).1)=true;rw[kvI _ _ _ e3,kvI _ _ _ e3'];refine KL _ _ (λz=>hab ?_) hf;have i1:(kvs.map (·.1))[a]? = some (ik ns):=by rw[hJ,e3];rfl
  have i2:(kvs.map (·.1))[b]? = some (ik ns):=by rw[hJ,e3',z];rfl
  exact(List.getElem?_inj (by rw[mP];omega) kn).mp (i1.trans i2.symm)
 have fin:∀(idx:List Nat) (h3:Heap) (c tk3:Nat),idx.Perm (List.range kvs.length)->idx.Pairwise (λi j=>qY (xV (kvs.getD i ([],.non)).1) (xV (kvs.getD j ([],.non)).1)=true)->Fr X.base X.env.locals h3 m->News X.base X.env.locals h3 ((D,PySem.W.listOf (idx.map λi=>vs.getD i Value.none).toArray c)::yL X.base s.heap X.env.locals)->
   EP X pins σ Q (.ref D) { s with heap:=h3,toks:=tk3 } :=λidx h3 c tk3 pm pw F3 N3=>by
  have il:idx.length=kvs.length:=by rw[pm.length_eq,mC]
  have im:∀i∈idx,i<kvs.length:=λi hi=>mW.mp (pm.mem_iff.mp hi);have tr:∀js:List Nat,(∀i∈js,i<kvs.length)->∃ys:List V,Vals ys (js.map λi=>vs.getD i Value.none)/\Keyed H ys (js.map λi=>kvs.getD i ([],.non)):=by
   intro js;induction js with
   | nil=>exact λ_=>⟨[],.nil,rfl,λi y p e=>by simp at e⟩
   | cons j js ih=>
    intro hj;obtain⟨ys,r1,r2,r3⟩:=ih λi hi=>hj i (gI _ hi);have hj1:=hj j (gY ..);obtain⟨b,ns,x,e1,e2,e3,_⟩:=vtup j (by rw[vl];exact hj1);refine⟨.ref b::ys, ?_,by simp [r2],λi y p ey ep=>?_⟩
    ·rw[nC];refine .cons ?_ r1;rw[uR,uW (by rw[vl];exact hj1),e1]
     rfl
    ·cases i with
     | zero=>
      simp only[nC,List.getElem?_cons_zero,Option.some.injEq]at ey ep;rw[uR,e3]at ep;subst ey;subst ep;exact⟨b,ns,rfl,e2,rfl⟩
     | succ i=>
      simp only[nC,List.getElem?_cons_succ]at ey ep;exact r3 i y p ey ep
  obtain⟨ys,rv,hy⟩:=tr idx im;have yl:ys.length=kvs.length:=by rw[hy.1,mP];exact il
  have nb:=KA (ho:=.lst ys) (tk:=tk3) I F F3 N3 lt λe=>⟨by rw[yl];exact z,_,c,rv,e⟩;have pz:(idx.map λi=>kvs.getD i ([],.non)).Perm kvs:=by
   have:=pm.map λi=>kvs.getD i ([],V.non);rw[CV]at this;exact this
  exact⟨.ref D,_,nb.2,rfl,(q ys _ pz hy (List.pairwise_map.mpr pw)).at nb.1⟩
 have nD:=N' (D,PySem.W.listOf vs.toArray 0) (gY ..);by_cases h2:vs.length<2
 ·refine MA (n:=0) nD.1 h2 ?_;obtain⟨c,hat⟩:=sortedHeap_at (vs:=vs) (n:=0) (out:=vs.toArray) nD.1;have old:∀b u,b≠D->h'.get? b=some u->(sortedHeap h' D vs vs.toArray).get? b=some u:=λb u hb e=>by
   rw[sortedHeap_old hb (nJ e)];exact e
  have er:(List.range kvs.length).map (λi=>vs.getD i Value.none)=vs:=by rw[<-vl];exact CV vs _
  refine fin (List.range kvs.length) _ c tk (List.Perm.refl _) (by
   rw[<-vl];have:vs.length=0∨vs.length=1:=by omega
   rcases this with z | z<;>rw[z]<;>simp) ⟨?_,λb u e=>old b u (λy=>by rw[y,nD.2.2]at e;cases e) (F'.keep b u e),F'.above⟩ (λp hp=>?_)
  ·obtain⟨ob,es',ep',e1,e2⟩:=F'.ns;exact⟨ob,es',ep',old _ _ (Ne.symm nD.2.1) e1,e2⟩
  ·rw[er]at hp;rcases nF.mp hp with rfl | hp
   ·exact⟨hat,nD.2⟩
   ·have y:=N' p (gI _ hp);exact⟨old _ _ (nM (lt p hp)) y.1,y.2⟩
 ·have hd:∀q∈yL X.base s.heap X.env.locals,q.1≠D:=λq hq=>nM (lt q hq);refine PySem.W.kat_lsort (vs:=vs) (its:=vs.toArray) F' N' (.head hd) rfl (by omega) (by omega) λe1 h4 F4 N4=>?_;have in4:∀b xs,H b=some (.tup xs)->∃its:List Value,Vals xs its/\IsTup h4 b its.toArray:=λb xs e=>by
   obtain⟨_,its,rv,⟨ob,ho,hc2⟩,_⟩:=(show ObjOk X.prog X.w H s.heap b (.tup xs)from I.hok b _ e);refine⟨its,rv,ob, ?_,hc2⟩;cases y:X.base.get? b with
   | some u=>
    have y2:=I.bk b u y;rw[ho]at y2;cases y2;exact F4.keep b _ y
   | none=>exact(N4 (b,ob) (gI _ (yT (λy2=>by rw[y2,I.free]at e;cases e) y ho))).1
  have tups:∀l:List Value,(∀v∈l,v∈vs)->∃fs:List Value,PySem.W.KatTups h4 l fs/\fs.length=l.length/\∀f∈fs,∃n t,f=Value.int n t:=by
   intro l;induction l with
   | nil=>exact λ_=>⟨[],.nil,rfl,λ_ y=>nomatch y⟩
   | cons v r ih=>
    intro hm;obtain⟨fs,t1,t2,t3⟩:=ih λv' hv'=>hm v' (gI _ hv');obtain⟨j,hj,ev⟩:=List.getElem_of_mem (hm v (gY ..));obtain⟨b,ns,x,g1,g2,g3,g4⟩:=vtup j hj;obtain⟨its,rv,ob,ho,hc2,nn,hdt⟩:=in4 b _ g2
    match ns,g4,rv with
    | n::nr,_,.cons (b:=iv) (l₂:=ir) rr rt=>
     obtain⟨tt,rfl⟩:=rr;rw[<-ev,g1];exact⟨.int n tt::fs,.cons ho hc2 hdt (by simp) t1,by simp [t2],λf hf=>(nF.mp hf).elim (λy=>⟨n,tt,y⟩) (t3 f)⟩
  obtain⟨fs,t1,t2,t3⟩:=tups vs λ_ y=>y;refine PySem.W.kat_kind (T:=.type "int") t1 (by omega) (λf hf=>?_) (by decide) ?_
  ·obtain⟨n,t,rfl⟩:=t3 f hf;exact PySem.W.Looks.of_pure rfl
  ·refine TW (n:=vs.length) (P:=λq=>Pm vs.length q/\Up (λi j=>qY (xV (kvs.getD i ([],.non)).1) (xV (kvs.getD j ([],.non)).1)) q vs.length) (λi j C hi hj hC=>?_) (λp hp=>?_) (UA O (by omega))
   ·obtain⟨b,ns,x,g1,g2,g3,_⟩:=vtup i hi;obtain⟨b',ns',x',g1',g2',g3',_⟩:=vtup j hj;obtain⟨its,rv,ob,ho,hc2,nn,hdt⟩:=in4 b _ g2;obtain⟨its',rv',ob',ho',hc2',nn',hdt'⟩:=in4 b' _ g2';unfold PySem.W.kas_ask;rw[show vs.getD i Value.none=.ref b by rw[uR,uW hi,g1];rfl,show vs.getD j Value.none=.ref b' by rw[uR,uW hj,g1'];rfl];rw[kvI _ _ _ g3,kvI _ _ _ g3']at hC;have i1:=yF rv;have i2:=yF rv';refine PySem.W.kat_lt ho hdt ho' hdt' (KK i1 i2 ?_ 0);rw[hU,hU,yV i1,yV i2,OZ];exact hC
   ·refine PySem.W.KasFin.intro F4 N4 (.head hd) λh5 c F5 N5=>fin p.toList h5 c tk ?_ ?_ F5 N5
    ·rw[<-vl];exact hp.1
    ·have sz:=hp.1.size;refine List.pairwise_iff_getElem.mpr λa b ha hb hab=>?_;have ha':a<p.size:=by simpa using ha
     have hb':b<p.size:=by simpa using hb
     have:=hp.2 a b hab (by omega);simpa [Array.getD,ha',hb']using this
end
theorem SJ:typeLookup (.type "tuple") "keys" = pure none:=am_miss_of_fast (by decide +kernel)
theorem TZ:typeLookup (.type "tuple") "__getattr__" = pure none:=by rw[typeLookup_type,builtinLookup_eq_fast];kernel_rfl
section
variable{prog:Program}{w:World}{A:Around}{E:Value->Shared->Prop}{h:Heap}{g:Array GenState}{d:Drawn}{t:Nat}{os:OsState}{a:Addr}{o:Obj}
theorem MU{tk:Tok}{Q:Fin->Shared->Prop}(hx:h.get? a=some o)(hc:o.cls=.type "tuple")(hd:o.dict=none)(n:Nat)(its:Array Value)(hs:o.data=.seq its n)(hh:A.handled=none)
  (hq:∀h' tk' e,Heap.NewAttrErr h h' e (.ref a) "keys"->E (.ref e) ⟨h',g,d,tk',os⟩) :
  wpAny (model prog w) A (Builtin.«object.__getattribute__» ⟨[.ref a,.str "keys" tk],[]⟩) Q E ⟨h,g,d,t,os⟩:=by
 have hT:(⟨h,g,d,t,os⟩:Shared).TypeIs (.ref a) "tuple":=⟨_,hx,hc⟩;have f4:=SJ;obtain⟨c,dd,dt,sl⟩:=o
 replace hc:c=.type "tuple":=hc
 replace hd:dd=none:=hd
 replace hs:dt=.seq its n:=hs
 subst hc hd hs;unfold Builtin.«object.__getattribute__»
 repeat (any_goals (first | assumption | wp_step))
 exact wpAny_raiseAttrError hh hq (attrMsg_fits (by decide +kernel) (by size_fits))
theorem SO{tk:Tok}{R:Result->Shared->Prop}(hx:h.get? a=some o)(hc:o.cls=.type "tuple")(hd:o.dict=none)(n:Nat)(its:Array Value)(hs:o.data=.seq its n)(hh:A.handled=none)
  (hq:∀h' tk' e,Heap.NewAttrErr h h' e (.ref a) "keys"->R (.error (.ref e)) ⟨h',g,d,tk',os⟩) :
  codeAny (model prog w) A (.call (.builtin "tuple.__getattribute__") ⟨[.ref a,.str "keys" tk],[]⟩) R ⟨h,g,d,t,os⟩:=
 codeAny_call_builtin F.slot_tuple_getattribute.plain F.entry_tuple_ga (F.slot_tuple_getattribute.check _ _ _ _ _ _ _ _ (show(⟨h,g,d,t,os⟩:Shared).TypeIs (.ref a) "tuple" from⟨_,hx,hc⟩) (F.args_tuple_getattribute_2 _ _) (MU hx hc hd n its hs (show A.in1.handled=none from hh) hq))
theorem SN{Q:Option Value->Shared->Prop}(hx:h.get? a=some o)(hc:o.cls=.type "tuple")(hd:o.dict=none)(n:Nat)(its:Array Value)(hs:o.data=.seq its n)(hh:A.handled=none)
  (hq:∀h' tk',(∀b u,h.get? b=some u->h'.get? b=some u)->Q none ⟨h',g,d,tk',os⟩):wpAny (model prog w) A (getAttr? (.ref a) "keys") Q E ⟨h,g,d,t,os⟩:=by
 have hT:(⟨h,g,d,t,os⟩:Shared).TypeIs (.ref a) "tuple":=⟨_,hx,hc⟩;have f2:=F.slot_tuple_getattribute.lookup;have f3:=F.slot_tuple_getattribute.bind (.ref a);have f1:=sub_AttributeError;have kc:=λ(A:Around) (t:Nat) (tk:Tok) (R:Result->Shared->Prop) (hh:A.handled=none)=>SO (prog:=prog) (w:=w) (A:=A) (g:=g) (d:=d) (t:=t) (os:=os) (tk:=tk) (R:=R) hx hc hd n its hs hh;obtain⟨c,dd,dt,sl⟩:=o
 replace hc:c=.type "tuple":=hc
 replace hd:dd=none:=hd
 replace hs:dt=.seq its n:=hs
 subst hc hd hs;unfold getAttr? getAttrBy?
 repeat (any_goals (first | assumption | wp_step))
 refine kc _ _ _ _ hh λh' tk' e ne=>?_;obtain⟨t',u',he⟩:=ne.there;have f5:=TZ
 repeat (any_goals (first | assumption | wp_step))
 exact hq h' tk' ne.keeps
end
theorem yC:plainId "dict.update.loop" = true:=by decide +kernel
theorem CQ:entryFor table "dict.update.loop" = some Builtin.«dict.update.loop»:=entryFor_of_tree (by kernel_rfl)
section
variable{prog:Program}{w:World}{A:Around}{E:Value->Shared->Prop}
abbrev tkd(prog:Program)(w:World):=tupleKind (qE prog w)
def PairAt(prog:Program)(w:World)(h:Heap)(v:Value)(x:List Key×Addr×Value):Prop:=∃r,v=.ref r/\IsTup h r #[.ref x.2.1,x.2.2]/\(tkd prog w).is h x.1 x.2.1
theorem PairAt.keep{h h':Heap}{v:Value}{x:List Key×Addr×Value}(p:PairAt prog w h v x)(k:∀b u,h.get? b=some u->h'.get? b=some u):PairAt prog w h' v x:=by
 obtain⟨r,e,⟨o,h1,h2⟩,q,its,n,h3,h4⟩:=p;exact⟨r,e,⟨o,k _ _ h1,h2⟩,q,its,n,k _ _ h3,h4⟩
def YO(xs ps:List (List Key×Addr×Value)):List (List Key×Addr×Value):=ps.foldl (λacc x=>storedH acc x.1 x.2.1 x.2.2) xs
theorem XT{h h':Heap}{d it t:Addr}{i:Nat}{xs:List (List Key×Addr×Value)}(D:h.DictOfH (tkd prog w) d xs)(I:h.IsTupleIter it t i)(hdi:d≠it)(k:∀b u,b≠it->h.get? b=some u->h'.get? b=some u):h'.DictOfH (tkd prog w) d xs:=by
 obtain⟨o,es,ep,h1,h2,h3,h4,h5,h6⟩:=D;refine⟨o,es,ep,k _ _ hdi h1,h2,h3,h4,λx hx=>?_,h6⟩;obtain⟨q,its,n,g1,g2,g3⟩:=h5 x hx;refine⟨q,its,n,k _ _ (λe=>?_) g1,g2,g3⟩;obtain⟨u,u1,u2,_⟩:=I;rw[e,u1]at g1;cases g1;rw[u2]at g2;exact absurd g2 (by decide)
theorem LY(xs:List (List Key×Addr×Value))(k:List Key)(a:Addr)(v:Value):(storedH xs k a v).length<=xs.length+1:=by
 unfold storedH;split<;>simp
theorem SZ{Q:Shared->Prop}{h0:Heap}{d it t:Addr}{items:Array Value}(hh:A.handled=none)(hu:A.units+1<cLine)(hd:h0.objs.size<=d)(hi:h0.objs.size<=it)(hdi:d≠it)(ht:h0.IsTuple t items) :
  ∀(ps xs:List (List Key×Addr×Value)) (i:Nat) (tk:Tok) (s:Shared),(∀j,Option.Rel (PairAt prog w h0) items[i+j]? ps[j]?)->xs.length+ps.length<=sizeLine->(∀b u,h0.get? b=some u->s.heap.get? b=some u)->s.heap.DictOfH (tkd prog w) d xs->s.heap.IsTupleIter it t i->
   (∀h' tk',(∀b u,h0.get? b=some u->h'.get? b=some u)->h'.DictOfH (tkd prog w) d (YO xs ps)->Q { s with heap:=h',toks:=tk' })->
   codeAny (model prog w) A (.builtin "dict.update.loop" ⟨[.ref d,.ref it,.int i tk,.none],[]⟩) (wants (λr s₂=>r=.none/\Q s₂) E) s:=by
 intro ps;induction ps with
 | nil=>
  intro xs i tk s hp hz hk hD hI q;have hn:items[i]? = none:=by have:=hp 0;revert this;rw[nU];cases items[i]? <;>intro z<;>cases z;rfl
  refine codeAny_builtin CQ ?_;rw[Around.under_plainId yC _];have ht':s.heap.IsTuple t items:=let ⟨o,ho,r⟩:=ht;⟨o,hk _ _ ho,r⟩;unfold Builtin.«dict.update.loop»;refine tE (wpAny_pyNext_tuple_end (A:=A.in1) hh hI ht' hn λh' hx=>?_);refine tF ⟨rfl,q h' s.toks ?_ ?_⟩
  ·exact λb u e=>hx b u (nM (gU (nJ e) hi)) (hk b u e)
  ·exact XT hD hI hdi λb u hb e=>hx b u hb e
 | cons p ps ih=>
  intro xs i tk s hp hz hk hD hI q;have hp0:=hp 0;rw[nU]at hp0;obtain⟨v,hv,pa⟩:∃v,items[i]? = some v/\PairAt prog w h0 v p:=by
   revert hp0;cases items[i]? with
   | none=>intro z;cases z
   | some v=>intro z;cases z with | some y=>exact⟨v,rfl,y⟩
  refine codeAny_builtin CQ ?_;rw[Around.under_plainId yC _];have ht':s.heap.IsTuple t items:=let ⟨o,ho,r⟩:=ht;⟨o,hk _ _ ho,r⟩;unfold Builtin.«dict.update.loop»;refine tE (wpAny_pyNext_tuple_item (A:=A.in1) hI ht' hv λh' hI' hs=>?_);have k1:∀b u,h0.get? b=some u->h'.get? b=some u:=λb u e=>(hs.2 b (nM (gU (nJ e) hi))).trans (hk b u e);have D1:=XT hD hI hdi λb u hb e=>(hs.2 b hb).trans e;obtain⟨r,rfl,tp,ky⟩:=pa.keep k1;obtain⟨o,ho,hc,n,hdt⟩:=id tp;have hT:(⟨h',s.gens,s.drawn,s.toks,s.os⟩:Shared).TypeIs (.ref r) "tuple":=⟨o,ho,hc⟩;unfold Builtin.Dict.pairItems;dsimp only;refine tE (wpAny_holding (tE (wpAny_tryCatch (tE (wpAny_typeOf hT ?_)))));rw[tI (by decide)];unfold seqItems?;refine tE (tE (wpAny_load ho ?_));rw[hdt];refine tF ?_;refine tF (wpAny_holding ?_);refine wpAny_dictSet_heap (hsz:=by simp only[mL]at hz;omega) (knd:=tkd prog w) (tupleKind_room_in1 hu) ky D1 λh2 D2 hs2=>?_;have nt:t≠d:=λe=>by obtain⟨u,hu,_⟩:=ht;exact absurd (nJ hu) (by rw[e];exact Nat.not_lt.mpr hd)
  refine tF ⟨plainId_quiet yC _, ?_⟩;refine ih (storedH xs p.1 p.2.1 p.2.2) (i+1) 0 _ (λj=>?_) ?_ (λb u e=>?_) D2 ?_ λh3 tk3 k3 D3=>?_
  ·have:=hp (j+1);rw[List.getElem?_cons_succ]at this;rw[show i+1+j=i+(j+1) by omega];exact this
  ·have:=LY xs p.1 p.2.1 p.2.2;simp only[mL]at hz;omega
  ·exact(hs2.2 b (nM (gU (nJ e) hd))).trans (k1 b u e)
  ·obtain⟨u,u1,u2⟩:=hI';exact⟨u,(hs2.2 it (Ne.symm hdi)).trans u1,u2⟩
  ·exact q h3 tk3 k3 D3
end
section
variable{prog:Program}{w:World}{A:Around}{E:Value->Shared->Prop}{s:Shared}
theorem XS{t:Addr}{o:Obj}{items:Array Value}{n:Nat}{ps:List (List Key×Addr×Value)}{Q:Value->Shared->Prop}(hh:A.handled=none)(hu:A.units+2<cLine)(ho:s.heap.get? t=some o)(hc:o.cls=.type "tuple")(hd:o.dict=none)(hs:o.data=.seq items n)
  (hp:∀j:Nat,Option.Rel (PairAt prog w s.heap) items[j]? ps[j]?) (hz:ps.length<=sizeLine)
  (q:∀h' tk',(∀b u,s.heap.get? b=some u->h'.get? b=some u)->h'.DictOfH (tkd prog w) s.heap.objs.size (YO [] ps)->Q (.ref s.heap.objs.size) { s with heap:=h',toks:=tk' }) :
  wpAny (model prog w) A (call (.type "dict") [.ref t]) Q E s:=by
 refine callType_codes (Q₁:=λobj s₁=>obj=.ref s.heap.objs.size/\s₁ = { s with heap:=s.heap.push { cls:=.type "dict",data:=.dict #[] } }) F.kt_called_dict (F.kt_typeCall_dict_1 _) F.entry_dict_init (kt_code_dict_new _ ⟨rfl,rfl⟩) ?_;rintro obj s₁ ⟨rfl,rfl⟩;have hT:(⟨s.heap.push { cls:=.type "dict",data:=.dict #[] },s.gens,s.drawn,s.toks,s.os⟩:Shared).TypeIs (.ref s.heap.objs.size) "dict":=⟨_,gO _ rfl,rfl⟩;have ho1:(s.heap.push { cls:=.type "dict",data:=.dict #[] }).get? t=some o:=uZ _ ho;have hT1:(⟨s.heap.push { cls:=.type "dict",data:=.dict #[] },s.gens,s.drawn,s.toks,s.os⟩:Shared).TypeIs (.ref t) "tuple":=⟨_,ho1,hc⟩;refine⟨hT,F.args_dict_init_2 _ _, ?_⟩;unfold Builtin.«dict.__init__»;refine tE ?_;unfold Builtin.Dict.selfAndRest;refine tE (wpAny_notOrdered_dict hT ?_);show wpAny _ _ (pure (s.heap.objs.size,[Value.ref t])) _ _ _;refine tF ?_;show wpAny _ _ (Builtin.Dict.updateFrom "dict.__init__" s.heap.objs.size (.ref t) [] .none) _ _ _;unfold Builtin.Dict.updateFrom;refine tE (wpAny_typeOf hT1 ?_);rw[tI (by decide)];refine tE (SN ho1 hc hd n items hs hh λh2 tk2 k2=>?_);have kk:∀b u,s.heap.get? b=some u->h2.get? b=some u:=λb u e=>k2 b u (uZ _ e);have hi2:h2.IsTuple t items:=⟨o,kk _ _ ho,hc,n,hs⟩;have hd2:h2.get? s.heap.objs.size=some { cls:=.type "dict",data:=.dict #[] } :=k2 _ _ (gO _ rfl);have lt2:s.heap.objs.size<h2.objs.size:=nJ hd2;rw[tI (by decide)]
 refine tE (wpAny_rule (tE (wpAny_pyIter_tuple hi2 (tF ⟨plainId_quiet yC _, ?_⟩))));refine SZ (A:=A.in1) (E:=E) (Q:=λs₂=>Q (.ref s.heap.objs.size) s₂) (h0:=s.heap) (items:=items) (t:=t) hh hu uO (Nat.le_of_lt lt2) (nM lt2) ⟨o,ho,hc,n,hs⟩ ps [] 0 0 { s with heap:=h2.push { cls:=.type "tuple_iterator",data:=.fields #[.ref t,.int 0 0] },toks:=tk2 } (λj=>?_) (by simpa using hz) (λb u e=>?_) ?_ ?_ λh3 tk3 k3 D3=>q h3 tk3 k3 D3
 ·rw[Nat.zero_add];exact hp j
 ·exact uZ _ (kk b u e)
 ·exact⟨_,#[],0,uZ _ hd2,⟨rfl,rfl,rfl⟩,rfl,rfl,(λx hx=>nomatch hx),List.nodup_nil⟩
 ·exact⟨_,gO _ rfl,rfl,rfl⟩
end
section
variable{X:Cx}
def PairsIn(H:Hp)(ys:List V)(kvs:List (List Key×V)):Prop:=Paired (λ(y:V) (p:List Key×V)=>∃r b,y=.ref r/\Rd H r (.tup [.ref b,p.2])/\H b=some (.tup (p.1.map kV))) ys kvs
theorem JI:∀(ps xs:List (List Key×Addr×Value)),((xs++ps).map (·.1)).Nodup->YO xs ps=xs++ps
 | [],xs,_=>(List.append_nil xs).symm
 | p::ps,xs,h=>by
  have hn:atKey xs p.1=none:=by
   refine atKey_none_of_get λj q e=>?_;rw[mQ,nC]at h;exact(mD.mp h).2.2 p.1 (nN.mpr ⟨_,gH e,rfl⟩) p.1 (gY ..) rfl
  show YO (storedH xs p.1 p.2.1 p.2.2) ps=_;rw[storedH_new hn,JI ps _ (by rw[hZ];exact h),hZ]
  rfl
def rDictT:List V->Hp->VK->Prop:=λxs H Q=>∃(t:Addr) (o:Obj) (ys:List V) (kvs:List (List Key×V)),xs=[.ref t]/\H t=some (.frz o (.tup ys))/\o.dict=none/\PairsIn H ys kvs/\(kvs.map (·.1)).Nodup/\New H (.dT kvs) Q
theorem NE(hc:X.calm=true)(hu:X.A.units+2<cLine):CallR X (.type "dict") rDictT:=by
 intro pins s σ H xs us Q I r h;obtain⟨t,o,ys,kvs,rfl,ht,hd,hp,hn,q⟩:=h;obtain⟨u,rfl,ru⟩:=xA r;cases ru;obtain⟨ho,hz,its,rv,⟨o',ho',hcl,n,hdt⟩,_⟩:=(show ObjOk X.prog X.w H s.heap t (.frz o (.tup ys))from I.hok t _ ht);rw[ho]at ho';cases ho';have key:∀(ys:List V) (its:List Value) (kvs:List (List Key×V)),Vals ys its->PairsIn H ys kvs->∃ps:List (List Key×Addr×Value),KT H kvs ps/\Paired (PairAt X.prog X.w s.heap) its ps:=by
  intro ys its kvs rv hp;induction hp generalizing its with
  | nil=>cases rv;exact⟨[],.nil,.nil⟩
  | @cons y p ys kvs h t ih=>
   cases rv with
   | cons r1 rt=>
    obtain⟨ps,k1,k2⟩:=ih _ rt;obtain⟨r,b,rfl,e1,e2⟩:=h;cases r1;obtain⟨_,il,rl,tp,_⟩:=(show ObjOk X.prog X.w H s.heap r (.tup [.ref b,p.2])from e1.ok I.hok);cases rl with
    | cons a1 a2=>cases a2 with
     | cons b1 b2=>
      cases b2;cases a1;rename_i vb;exact⟨(p.1,b,vb)::ps,.cons ⟨rfl,e2,b1⟩ k1,.cons ⟨r,rfl,tp,wC I.hok e2⟩ k2⟩
 obtain⟨ps,k1,k2⟩:=key ys its kvs rv hp;have lz:ps.length=its.length:=(Paired.length k2).symm;have lz2:kvs.length=ps.length:=Paired.length k1;have lz3:=rv.length;have hn2:(ps.map (·.1)).Nodup:=by
  have:kvs.map (·.1)=ps.map (·.1):=KTkeys k1;rw[<-this];exact hn
 refine XS (ps:=ps) (I.ok.hd hc) hu ho hcl hd hdt (λj=>?_) (by omega) λh' tk' kk D=>?_
 ·have pr:∀(l:List Value) (m:List (List Key×Addr×Value)),Paired (PairAt X.prog X.w s.heap) l m->∀j:Nat,Option.Rel (PairAt X.prog X.w s.heap) l[j]? m[j]? :=by
   intro l m h;induction h with
   | nil=>intro j;exact .none
   | cons a b ih=>intro j;cases j with
    | zero=>exact .some a
    | succ j=>exact ih j
  simpa using pr its ps k2 j
 ·rw[JI ps [] (by simpa using hn2),List.nil_append]at D;obtain⟨ob,es,ep,g1,g2,g3,g4,_,g5⟩:=D;refine⟨.ref s.heap.objs.size,_,I.laid (a:=s.heap.objs.size) (o:=.dT kvs) kk uO ⟨by omega,beq_eq_false_iff_ne.mpr (Ne.symm (nM I.big)),ps,(KT.keeps k1 λc ys e=>?_),ob,es,ep,g1,g2,g3,g4,g5⟩,rfl,q.at (I.hok.fresh uO)⟩;rw[jM (λz=>by rw[z,I.hok.fresh uO]at e;cases e)];exact e
end
section
variable{prog:Program}{w:World}{A:Around}{E:Value->Shared->Prop}{s:Shared}
end
section
variable{X:Cx}
end
structure PwS(many:Nat)(ns:List Int):Prop where
 len:ns.length=many
 nn:∀n∈ns,0<=n
 deg:ns.sum<=8
section
variable{X:Cx}
end
section
variable{prog:Program}{w:World}{A:Around}{E:Value->Shared->Prop}{s:Shared}
end
section
variable{X:Cx}
end
section
variable{prog:Program}{w:World}{A:Around}{E:Value->Shared->Prop}{s:Shared}{d it:Addr}{es:Array DictEntry}{ep i:Nat}
end
section
variable{X:Cx}
end
end LwD
namespace Lw
open PySem PySem.Spec PyProof.Rows L2
def vH(X:Cx)(N:List Str)(scope:Scope)(x0:Str)(cl:List (Str×Addr))(C:Addr)(fp:List Addr)(s2:Shared)(H2:Hp):Cx:=
 { X with N:=N,s₀:=s2,H₀:=H2,env:=compEnvC scope ((x0,C+1)::cl) C X.env,outer:=X.stack,stack:=X.stack,ex:=fp,fn:=λx=>decide (x=x0),pn:=[],xe:=λ_ _=>False }
theorem HS{x0:Str}{c:Addr}{cl:List (Str×Addr)} :((x0,c)::cl).lookup x0=some c:=by rw[List.lookup_cons,beq_self_eq_true]
theorem zK{x0 x:Str}{c c':Addr}{cl:List (Str×Addr)}(h:((x0,c)::cl).lookup x=some c'):(x=x0/\c'=c)∨cl.lookup x=some c':=by
 rw[List.lookup_cons]at h;cases q:x==x0 with
 | true=>
  rw[q]at h;exact .inl ⟨beq_iff_eq.mp q,(Option.some.inj h).symm⟩
 | false=>
  rw[q]at h;exact .inr h
theorem WM{x0 x:Str}{c c':Addr}{cl:List (Str×Addr)}(n:x≠x0)(h:cl.lookup x=some c'):((x0,c)::cl).lookup x=some c':=by
 rw[List.lookup_cons,beq_false_of_ne n];exact h
theorem KC{M:Model}{A:Around}{E:Value->Shared->Prop}{s:Shared}{scope:Scope}{x0:Str}{globals:Addr}{cl:List (Str×Addr)}{qual:Str}{env:Env}{Q:Env->Shared->Prop}(hcf:∀a l,cellsFrom a scope.names l=(x0,a)::l)(hpc:∀h,pushCells h scope.names=h.push { cls:=.type "cell",data:=.cell none })
  (hQ:Q (newEnv scope s.heap.objs.size globals ((x0,s.heap.objs.size+1)::cl) qual none .none (some env) builtinsNs) { s with heap:=(s.heap.push { cls:=.type "dict",data:=.dict #[] }).push { cls:=.type "cell",data:=.cell none } }) :
  wpAny M A (newFunctionEnv scope globals cl [] qual none .none (some env)) Q E s:=by
 simp only[newFunctionEnv,Option.isSome_some,if_true];refine tE (wpAny_alloc (tE (wpAny_layCells _ (λname kind cells=>by cases hkc:kind==NameKind.cell<;>simp [hkc]) _ _ _ _ ?_)));rw[hcf,hpc,mZ];exact tE (tF (tF hQ))
section
variable{X:Cx}
theorem MZ{pins:List (Addr×Obj)}{σ:L2.St}{H1:Hp}{s2:Shared}{N:List Str}{scope:Scope}{x0:Str}{cl:List (Str×Addr)}{C:Addr}{fp:List Addr}(I:Inv X pins σ H1 s2)(hk:scope.kind=.function)
  (hsub:∀x c,cl.lookup x=some c->X.env.cells.lookup x=some c) (hhas:∀x,((relabel scope X.env).names.lookup x=some .cell∨(relabel scope X.env).names.lookup x=some .free)->x=x0∨∃c,cl.lookup x=some c)
  (hC:s2.heap.objs.size<=C) (hf:∀b∈fp,FpOk X pins H1 b) (hlt:∀b∈fp,b<s2.heap.objs.size):(vH X N scope x0 cl C fp s2 H1).Ok where
 mod:=I.ok.mod
 kind:=hk
 glob:=I.ok.glob
 blt:=I.ok.blt
 above:=hC
 inj:=λx y c h1 h2=>by
  have old:∀z,cl.lookup z=some c->c≠C+1:=λz hz e=>by
   obtain⟨v,hv⟩:=I.cell z c (hsub z c hz);exact absurd e (nM (gU hv.lt (Nat.le_succ_of_le hC)))
  rcases zK h1 with⟨e1,e2⟩ | e1<;>rcases zK h2 with⟨e3,e4⟩ | e3
  ·rw[e1,e3]
  ·exact absurd e2 (old y e3)
  ·exact absurd e4 (old x e1)
  ·exact I.ok.inj x y c (hsub x c e1) (hsub y c e3)
 has:=λx h=>by
  rcases hhas x h with e | ⟨c,e⟩
  ·exact⟨C+1,by rw[e];exact HS⟩
  ·by_cases z:x=x0
   ·exact⟨C+1,by rw[z];exact HS⟩
   ·exact⟨c,WM z e⟩
 cab:=λx c h e=>by
  have z:x=x0:=mB h;rcases zK e with⟨_,e2⟩ | e2
  ·rw[e2];exact Nat.le_succ_of_le hC
  ·rw[z]at e;have e':((x0,C+1)::cl).lookup x0=some c:=e;rw[HS]at e';cases e';exact Nat.le_succ_of_le hC
 hd:=I.ok.hd
 frames:=I.ok.frames
 stk:=.inl rfl
 exf:=λb hb=>⟨nM (gU (hlt b hb) hC),λx c h=>by
  rcases zK h with⟨_,e2⟩ | e2
  ·rw[e2];exact Nat.ne_of_gt (gU (hlt b hb) (Nat.le_succ_of_le hC))
  ·exact(hf b hb).2.2.2.2.1 x c (hsub x c e2)⟩
 bs:=I.bs
 bsz:=nK I.ok.bsz I.sz
 noex:=λb o e hb=>by
  rcases(hf b hb).2.2.2.1 with z | z
  ·exact I.ok.noex b o e z
  ·exact absurd (gU (nJ e) (nK I.ok.bsz z)) (nH _)
 exfs:=λb hb z=>(nF.mp (I.stkSub b z)).elim (hf b hb).2.1 (hf b hb).2.2.1
 funs:=I.stack
 frf:=I.stkFree
theorem JP{idx:List Nat}{N:List Str}{elt target iter:Expr}{scope:Scope}{x0:Str}{cl:List (Str×Addr)}{pos:Pos}{wi:TI}{g:TG}{te:TE}(hc:X.calm=true)
  (hk:scope.kind=.function) (hclos:closureFor scope X.env=pure cl) (hcf:∀a l,cellsFrom a scope.names l=(x0,a)::l) (hpc:∀h,pushCells h scope.names=h.push { cls:=.type "cell",data:=.cell none }) (hnames:∀x∈scope.names,x.2=.local->scope.names.lookup x.1=some .local)
  (hsub:∀x c,cl.lookup x=some c->X.env.cells.lookup x=some c) (hhas:∀x,((relabel scope X.env).names.lookup x=some .cell∨(relabel scope X.env).names.lookup x=some .free)->x=x0∨∃c,cl.lookup x=some c)
  (hlen:N.length=1+idx.length)
  (hidx:∀(k j:Nat) (x:Str),idx[k]? = some j->N[1+k]? = some x->x≠x0/\X.N[j]? = some x/\X.env.kindOf x=some .cell/\(relabel scope X.env).names.lookup x=some .cell/\X.env.scope.names.lookup x=some .cell)
  (hi:PI X target iter wi) (hg:∀C fp s2 H2,PG (vH X N scope x0 cl C fp s2 H2) target g) (he:∀C fp s2 H2,PE (vH X N scope x0 cl C fp s2 H2) elt te)
  (hs:∀x,foldedSetIterable iter X.env x=pure x:=by intro _;rfl):PE X (.ListComp elt [⟨target,iter,[],0⟩] scope pos) (FX 1 idx wi g te):=by
 intro pins s σ H Q I h;rw[eval_ListComp];refine wpAny_comprehension_free (use:=none) rfl hs hclos hk hnames (thn (hi pins s σ H _ I h) λv s1 h1=>thn h1 λitv s2 h2=>?_);obtain⟨it,fp,tn,J,H1,e,I2,T,st2,f2,hR⟩:=h2;subst e;have hlt:∀b∈fp,b<s2.heap.objs.size:=λb hb=>by
  obtain⟨o,ho,_⟩:=T.obj 0 _ st2 b hb;exact nJ ho
 refine wpAny_newObj_type (KC hcf hpc ?_);dsimp only;generalize hHH:s2.heap.push { cls:=.type "list",dict:=none,data:=.seq ([]:List Value).toArray } = HH;generalize h1e:((HH.push { cls:=.type "dict",data:=.dict #[] }).push { cls:=.type "cell",data:=.cell none })=h₁;have hCe:HH.objs.size=s2.heap.objs.size+1:=by rw[<-hHH,mZ]
 have hDC:s2.heap.objs.size≠HH.objs.size:=by rw[hCe];exact nM (mO _)
 have hCle:s2.heap.objs.size<=HH.objs.size:=by rw[hCe];exact Nat.le_succ _
 have old:∀b o,s2.heap.get? b=some o->h₁.get? b=some o:=λb o e=>h1e▸uZ _ (uZ _ (hHH▸uZ _ e));have hD:h₁.get? s2.heap.objs.size=some { cls:=.type "list",dict:=none,data:=.seq ([]:List Value).toArray } :=h1e▸uZ _ (uZ _ (hHH▸gO _ rfl));have hns₁:h₁.Ns HH.objs.size (λ_=>none):=h1e▸(Heap.Ns.new HH (.type "dict")).keeps λb o e=>uZ _ e;have hcell0:h₁.IsCell (HH.objs.size+1) none:=by
  refine⟨{ cls:=.type "cell",data:=.cell none }, ?_,rfl⟩;rw[<-h1e,<-mZ HH (o:={ cls:=.type "dict",data:=.dict #[] })];exact gO _ rfl
 have nD:H1 s2.heap.objs.size=none:=I2.hok.fresh uO ;obtain⟨W,⟨m0,w0⟩,turn⟩:=hR s2.heap.objs.size _ nD (kD (.lst []) nD) jG;generalize hσ:(List.replicate 1 none++idx.map λj=>(σ[j]?).getD none:L2.St)=σ0 at turn;have lσ:σ0.length=N.length:=by rw[<-hσ,gS,gC,mP,hlen]
 have ok:=MZ (N:=N) (x0:=x0) (cl:=cl) (C:=HH.objs.size) I2 hk hsub hhas hCle f2 hlt;have oldC:∀c v,s2.heap.IsCell c v->h₁.IsCell c v:=λc v ⟨o,ho,hd⟩=>⟨o,old c o ho,hd⟩;have I4:Inv (vH X N scope x0 cl HH.objs.size fp s2 H1) [] σ0 (upd H1 s2.heap.objs.size (.lst [])) { s2 with heap:=h₁ } :=by
  refine⟨ok,rfl,I2.bare,Un.laid old uO nD,⟨_,hns₁,λi x v e1 e2 _=>?_⟩,(λx c z=>?_), ?_,(λx c z=>?_),(λp hp=>nomatch hp),I2.hok.laid old uO ?_,lσ⟩
  ·
   rw[<-hσ]at e2;by_cases hi':i<1
   ·rw[uV (by rw[gC];exact hi'),List.getElem?_replicate]at e2;split at e2<;>cases e2
   ·obtain⟨k,rfl⟩:∃k,i=1+k:=⟨i-1,by omega⟩;rw[uS (by rw[gC];omega),gC,Nat.add_sub_cancel_left,hJ]at e2;cases ej:idx[k]? with
    | none=>rw[ej]at e2;cases e2
    | some j=>
     rw[ej,Option.map_some]at e2;have e2:=Option.some.inj e2;obtain⟨n0,n1,n2,n3,n4⟩:=hidx k j x ej e1;have e3:σ[j]? = some (some v):=by
      cases q:σ[j]? with
      | none=>rw[q]at e2;cases e2
      | some y=>rw[q,Option.getD_some]at e2;rw[e2]
     obtain⟨m,hm,hl⟩:=I2.loc;obtain⟨u,ru,lk⟩:=hl j x v n1 e3 (.inr (.inl n4));refine⟨u,ru, ?_⟩;rcases lk with⟨kl,_⟩ | ⟨_,c,hcl,hic⟩
     ·rw[n2]at kl;cases kl
     ·obtain⟨c',hc'⟩:=(hhas x (.inl n3)).resolve_left n0;have:c'=c:=Option.some.inj ((hsub x c' hc').symm.trans hcl);subst this;exact .inr ⟨.inl n3,c',WM n0 hc',oldC _ _ hic⟩
  ·rcases zK z with⟨_,e2⟩ | e2
   ·rw[e2];exact⟨_,hcell0⟩
   ·obtain⟨v,hv⟩:=I2.cell x c (hsub x c e2);exact⟨v,oldC _ _ hv⟩
  ·show(upd H1 s2.heap.objs.size (.lst [])) HH.objs.size=none;rw[jM (Ne.symm hDC)];exact I2.hok.fresh hCle
  ·show(upd H1 s2.heap.objs.size (.lst [])) c=none;rcases zK z with⟨_,e2⟩ | e2
   ·rw[e2,jM (Nat.ne_of_gt (Nat.lt_succ_of_le hCle))];exact I2.hok.fresh (Nat.le_succ_of_le hCle)
   ·obtain⟨v,hv⟩:=I2.cell x c (hsub x c e2);rw[jM (nM hv.lt)];exact I2.freeC x c (hsub x c e2)
  ·exact⟨by show 0<=sizeLine;decide,[],0,.nil,hD⟩
 have stat:∀{H':Hp},(∀b∈fp,H' b=none)->∀b∈fp,FpOk (vH X N scope x0 cl HH.objs.size fp s2 H1) [] H' b:=λhn b hb=>
  ⟨hn b hb,(ok.exf b hb).1,ok.exfs b hb,.inl hb,(ok.exf b hb).2,λp hp=>nomatch hp⟩
 have st4:tn 0 h₁:=T.keep _ _ _ st2 λb _ o e=>old b o e;have fr4:∀b∈fp,(upd H1 s2.heap.objs.size (.lst [])) b=none:=λb hb=>by
  rw[jM (nM (hlt b hb))];exact(f2 b hb).1
 have loop:codeAny (model X.prog X.w) X.A (.compLoop (.ListComp elt [⟨target,iter,[],0⟩] scope pos) 0 (.ref it) (.ref s2.heap.objs.size) (compEnvC scope ((x0,HH.objs.size+1)::cl) HH.objs.size X.env))
   (compPost (model X.prog X.w) X.A X.xe none (EP X pins σ Q) (.ref s2.heap.objs.size) HH.objs.size) { s2 with heap:=h₁ } :=by
  refine yI (λn s'=>∃i ys H',Inv (vH X N scope x0 cl HH.objs.size fp s2 H1) [] σ0 H' s'/\tn i s'.heap/\(∀b∈fp,H' b=none)/\W i n ys H') ?_ m0 ⟨0,[],_,I4,st4,fr4,w0⟩;rintro n s3 ⟨i,ys,H3,I3,st3,fr3,w3⟩;obtain⟨hp3,hz3,hw⟩:=turn i n ys H3 w3;rcases hw with⟨stop,qn⟩ | ⟨go,step⟩
  ·refine thn (T.done (vH X N scope x0 cl HH.objs.size fp s2 H1) rfl rfl rfl hc i [] s3 _ H3 _ I3 (stat fr3) st3 stop) λr s4 ⟨hr,I5⟩=>?_;subst hr;obtain⟨m,hm,_⟩:=id I5.loc;refine⟨m,hm,λh' sb=>⟨.ref s2.heap.objs.size,H3, ?_,rfl,qn⟩⟩;have k:∀b o,b≠HH.objs.size->s4.heap.get? b=some o->h'.get? b=some o:=λb o hb e=>sb.extBut b o hb e;have nb:∀b o,s2.heap.get? b=some o->b≠HH.objs.size:=λb o e=>by rw[hCe];exact nM (Nat.lt_succ_of_lt (nJ e))
   have U:=I5.base;have fC:H3 HH.objs.size=none:=I5.free;refine I2.call' (ch:=fp) (s':={ s4 with heap:=h' }) I5.os ⟨λb o e n hb hx=>k b o (nb b o e) (U.keep b o e n hb hx),λb o e n hb hx=>?_,U.free,λb o e hx=>?_,U.tups,U.frzs,U.tbls⟩ (λb u e=>?_) I5.bare (λb hb=>⟨(f2 b hb).2.2.2.1,(f2 b hb).2.1,(f2 b hb).2.2.2.2.1,(f2 b hb).2.2.2.2.2⟩)
   ·obtain⟨sl,q⟩:=U.slot b o e n hb hx;exact⟨sl,k b _ (nb b o e) q⟩
   ·obtain⟨o',q⟩:=U.there b o e hx;exact⟨o',k b _ (nb b o e) q⟩
   ·refine(I5.hok b u e).stay (λc v hcc q=>k c v ?_ q) (λ_ q=>q) λ_ _ q=>q;rcases hcc with z | z
    ·rw[z];intro y;rw[y,fC]at e;cases e
    ·intro y;rw[y,fC]at z;cases z
  ·refine tG (T.item (vH X N scope x0 cl HH.objs.size fp s2 H1) rfl rfl rfl hc i [] s3 _ H3 (λ_ _=>False) I3 (stat fr3) st3 go) (λr s4 ⟨u,hr,h4⟩=>?_) λ_ _ z=>z.elim;subst hr;refine tG h4 (λ_ s5 ⟨x,H5,I5,r5,y5,st5,fr5⟩=>?_) λ_ _ z=>z.elim;have I5':=I5.pinned (stat fr5) (T.obj _ _ st5);refine tG (hg _ _ _ _ _ s5 _ H5 x u _ I5' r5 (step x H5 y5)) (λ_ s6 ⟨σ6,H6,I6,kp6,q6⟩=>?_) λ_ _ z=>z.elim;refine tG (he _ _ _ _ _ s6 σ6 H6 _ I6 q6) (λy s7 ⟨yv,H7,I7,r7,q7⟩=>?_) λ_ _ z=>z.elim;obtain⟨e7,m',hm',w7⟩:=q7;refine tG (kR (X:=vH X N scope x0 cl HH.objs.size fp s2 H1) _ s7 σ6 H7 (.ref s2.heap.objs.size) [yv] (.ref s2.heap.objs.size) [y] (λ_ H8=>H8=upd H7 s2.heap.objs.size (.lst (ys++[yv]))) I7 rfl (.cons r7 .nil) ⟨_,ys,yv,rfl,rfl,e7,hz3,rfl⟩) (λ_ s8 ⟨_,H8,I8,_,q8⟩=>?_) λ_ _ z=>z.elim;subst q8;refine⟨m',hm',i+1,_,_,(I8.unpinned).weak (by rw[lσ,I8.len];rfl) kp6,T.keep _ _ _ st5 λb hb o e=>(I8.pin (b,o) (gB _ (gB _ (kG hb e)))).1,λb hb=>?_,w7⟩;obtain⟨o,e,d⟩:=T.obj _ _ st5 b hb;exact(I8.pin (b,o) (gB _ (gB _ (kG hb e)))).2.1
 exact codeAny_compStart_list loop (T.self _ 0 _ _ _ st4 loop)
end
section
variable{X:Cx}
theorem CG{i:Nat}{y:Str}{py spos:Pos}(hN:X.N.Nodup)(hi:X.N[i]? = some y)(hx:Loc X.env.scope y){own:Nat}{idx:List Nat}{N:List Str}{elt target iter:Expr}{scope:Scope}{cl:List (Str×Addr)}{pos:Pos}{wi:TI}{g:TG}{te:TE}(hc:X.calm=true)
  (hk:scope.kind=.function) (hclos:closureFor scope X.env=pure cl) (hcell:∀x∈scope.names,x.2≠.cell) (hnames:∀x∈scope.names,x.2=.local->scope.names.lookup x.1=some .local)
  (hsub:∀x c,cl.lookup x=some c->X.env.cells.lookup x=some c) (hhas:∀x,((relabel scope X.env).names.lookup x=some .cell∨(relabel scope X.env).names.lookup x=some .free)->∃c,cl.lookup x=some c)
  (hlen:N.length=own+idx.length)
  (hidx:∀(k j:Nat) (x:Str),idx[k]? = some j->N[own+k]? = some x->X.N[j]? = some x/\X.env.kindOf x=some .cell/\(relabel scope X.env).names.lookup x=some .cell/\X.env.scope.names.lookup x=some .cell)
  (hit:PI X target iter wi) (hg:∀C fp s2 H2,PG (jO X N scope cl C fp s2 H2) target g) (he:∀C fp s2 H2,PE (jO X N scope cl C fp s2 H2) elt te)
  (hsw:swapsWith (.ListComp elt [⟨target,iter,[],0⟩] scope pos) (some (.Name y py)) spos.line X.env=pure true:=by rfl)
  (hs:∀x,foldedSetIterable iter X.env x=pure x:=by intro _;rfl) (hfn:X.fn y=true∨X.env.scope.names.lookup y=some .local:=by first | exact .inl rfl | exact .inr rfl | assumption):PS X (.Assign [.Name y py] (.ListComp elt [⟨target,iter,[],0⟩] scope pos) spos) (xO (FX own idx wi g te) (jP i)):=by
 intro pins s σ H D I h;rw[exec_Assign_Name_used _ _ _ _ hsw];refine tE (wpAny_standAt (tE ?_));show wpAny _ X.A (do let _<-comprehension (.ListComp elt [⟨target,iter,[],0⟩] scope pos) scope X.env _ (newList []) false (eval iter X.env) (some (assign (.Name y py) X.env))) _ _ s;refine tE (tG (wpAny_comprehension_free (use:=some (assign (.Name y py) X.env)) (Q:=λ_ s'=>∃σ' H',Inv X pins σ' H' s'/\D.nx σ' H') rfl hs hclos hk hnames (thn (hit pins s σ H _ I h) λv s1 h1=>thn h1 λitv s2 h2=>?_)) (λ_ s' hq=>tF (tF hq)) λ_ _ e=>e);obtain⟨it,fp,tn,J,H1,e,I2,T,st2,f2,hR⟩:=h2;subst e;have hlt:∀b∈fp,b<s2.heap.objs.size:=λb hb=>by
  obtain⟨o,ho,_⟩:=T.obj 0 _ st2 b hb;exact nJ ho
 refine wpAny_newObj_type (wpAny_newFunctionEnv hcell (by intro y hy;simp at hy) (λh₁ hns₁ hsb₁=>?_) hk);dsimp only at hns₁ hsb₁ ⊢;generalize hHH:s2.heap.push { cls:=.type "list",dict:=none,data:=.seq ([]:List Value).toArray } = HH at hns₁ hsb₁ ⊢;have hCe:HH.objs.size=s2.heap.objs.size+1:=by rw[<-hHH,mZ]
 have hDC:s2.heap.objs.size≠HH.objs.size:=by rw[hCe];exact nM (mO _)
 have hCle:s2.heap.objs.size<=HH.objs.size:=by rw[hCe];exact Nat.le_succ _
 have old:∀b o,s2.heap.get? b=some o->h₁.get? b=some o:=λb o e=>hsb₁.extBut b o (by rw[hCe];exact nM (Nat.lt_succ_of_lt (nJ e))) (uZ _ (hHH▸uZ _ e));have hD:h₁.get? s2.heap.objs.size=some { cls:=.type "list",dict:=none,data:=.seq ([]:List Value).toArray } :=hsb₁.extBut _ _ hDC (uZ _ (hHH▸gO _ rfl));have nD:H1 s2.heap.objs.size=none:=I2.hok.fresh uO ;obtain⟨W,⟨m0,w0⟩,turn⟩:=hR s2.heap.objs.size _ nD (kD (.lst []) nD) jG;generalize hσ:(List.replicate own none++idx.map λj=>(σ[j]?).getD none:L2.St)=σ0 at turn;have lσ:σ0.length=N.length:=by rw[<-hσ,gS,gC,mP,hlen]
 have ok:=yH (N:=N) (cl:=cl) (C:=HH.objs.size) I2 hk hsub hhas hCle f2 hlt;have oldC:∀c v,s2.heap.IsCell c v->h₁.IsCell c v:=λc v ⟨o,ho,hd⟩=>⟨o,old c o ho,hd⟩;have I4:Inv (jO X N scope cl HH.objs.size fp s2 H1) [] σ0 (upd H1 s2.heap.objs.size (.lst [])) { s2 with heap:=h₁,toks:=s2.toks+([]:List (Str×Value)).length } :=by
  refine⟨ok,rfl,I2.bare,Un.laid old uO nD,⟨_,hns₁,λi x v e1 e2 _=>?_⟩,(λx c z=>?_), ?_,(λx c z=>?_),(λp hp=>nomatch hp),I2.hok.laid old uO ?_,lσ⟩
  ·
   rw[<-hσ]at e2;by_cases hi':i<own
   ·rw[uV (by rw[gC];exact hi'),List.getElem?_replicate]at e2;split at e2<;>cases e2
   ·obtain⟨k,rfl⟩:∃k,i=own+k:=⟨i-own,by omega⟩;rw[uS (by rw[gC];omega),gC,Nat.add_sub_cancel_left,hJ]at e2;cases ej:idx[k]? with
    | none=>rw[ej]at e2;cases e2
    | some j=>
     rw[ej,Option.map_some]at e2;have e2:=Option.some.inj e2;obtain⟨n1,n2,n3,n4⟩:=hidx k j x ej e1;have e3:σ[j]? = some (some v):=by
      cases q:σ[j]? with
      | none=>rw[q]at e2;cases e2
      | some y=>rw[q,Option.getD_some]at e2;rw[e2]
     obtain⟨m,hm,hl⟩:=I2.loc;obtain⟨u,ru,lk⟩:=hl j x v n1 e3 (.inr (.inl n4));refine⟨u,ru, ?_⟩;rcases lk with⟨kl,_⟩ | ⟨_,c,hcl,hic⟩
     ·rw[n2]at kl;cases kl
     ·obtain⟨c',hc'⟩:=hhas x (.inl n3);have:c'=c:=Option.some.inj ((hsub x c' hc').symm.trans hcl);subst this;exact .inr ⟨.inl n3,c',hc',oldC _ _ hic⟩
  ·obtain⟨v,hv⟩:=I2.cell x c (hsub x c z);exact⟨v,oldC _ _ hv⟩
  ·show(upd H1 s2.heap.objs.size (.lst [])) HH.objs.size=none;rw[jM (Ne.symm hDC)];exact I2.hok.fresh hCle
  ·obtain⟨v,hv⟩:=I2.cell x c (hsub x c z);show(upd H1 s2.heap.objs.size (.lst [])) c=none;rw[jM (nM hv.lt)];exact I2.freeC x c (hsub x c z)
  ·exact⟨by show 0<=sizeLine;decide,[],0,.nil,hD⟩
 have stat:∀{H':Hp},(∀b∈fp,H' b=none)->∀b∈fp,FpOk (jO X N scope cl HH.objs.size fp s2 H1) [] H' b:=λhn b hb=>
  ⟨hn b hb,(ok.exf b hb).1,ok.exfs b hb,.inl hb,(ok.exf b hb).2,λp hp=>nomatch hp⟩
 have st4:tn 0 h₁:=T.keep _ _ _ st2 λb _ o e=>old b o e;have fr4:∀b∈fp,(upd H1 s2.heap.objs.size (.lst [])) b=none:=λb hb=>by
  rw[jM (nM (hlt b hb))];exact(f2 b hb).1
 have loop:codeAny (model X.prog X.w) X.A (.compLoop (.ListComp elt [⟨target,iter,[],0⟩] scope pos) 0 (.ref it) (.ref s2.heap.objs.size) (compEnvC scope cl HH.objs.size X.env))
   (compPost (model X.prog X.w) X.A X.xe (some (assign (.Name y py) X.env)) (λ_ s'=>∃σ' H',Inv X pins σ' H' s'/\D.nx σ' H') (.ref s2.heap.objs.size) HH.objs.size) { s2 with heap:=h₁,toks:=s2.toks+([]:List (Str×Value)).length } :=by
  refine yI (λn s'=>∃i ys H',Inv (jO X N scope cl HH.objs.size fp s2 H1) [] σ0 H' s'/\tn i s'.heap/\(∀b∈fp,H' b=none)/\W i n ys H') ?_ m0 ⟨0,[],_,I4,st4,fr4,w0⟩;rintro n s3 ⟨i,ys,H3,I3,st3,fr3,w3⟩;obtain⟨hp3,hz3,hw⟩:=turn i n ys H3 w3;rcases hw with⟨stop,qn⟩ | ⟨go,step⟩
  ·refine thn (T.done (jO X N scope cl HH.objs.size fp s2 H1) rfl rfl rfl hc i [] s3 _ H3 _ I3 (stat fr3) st3 stop) λr s4 ⟨hr,I5⟩=>?_;subst hr;obtain⟨m,hm,_⟩:=id I5.loc;have U:=I5.base;have fC:H3 HH.objs.size=none:=I5.free;have IX:Inv X pins σ H3 s4:=I2.call' (ch:=fp) (s':=s4) I5.os U I5.hok I5.bare (λb hb=>⟨(f2 b hb).2.2.2.1,(f2 b hb).2.1,(f2 b hb).2.2.2.2.1,(f2 b hb).2.2.2.2.2⟩);have ltC:∀b,b<s2.heap.objs.size->b≠HH.objs.size:=λb hb=>nM (gU hb hCle);show wpAny _ X.A (assign (.Name y py) X.env (.ref s2.heap.objs.size)) _ _ s4;refine wpAny_assign_Name (zC IX hN hi hx (v:=.ref s2.heap.objs.size) rfl (λs5 I6 ⟨a,sb,ha⟩=>?_) hfn);have aC:a≠HH.objs.size:=by
    rcases ha with ha | ha
    ·rw[ha];exact ltC _ I2.lt
    ·obtain⟨v,hv⟩:=I2.cell y a ha;exact ltC _ hv.lt
   refine⟨m,hm.sameBut sb (Ne.symm aC),λh' sb'=>⟨_,H3, ?_,qn⟩⟩;refine I6.turned (it:=HH.objs.size) (t':=s5.toks) (λb o hb e=>sb'.extBut b o hb e) fC (Ne.symm (ltC _ I2.lt)) (.inr (nK I2.sz hCle)) (λx c hc=>?_) (λp hp=>?_)
   ·obtain⟨v,hv⟩:=I2.cell x c hc;exact ltC _ hv.lt
   ·exact ltC _ (nJ (I2.pin p hp).1)
  ·refine tG (T.item (jO X N scope cl HH.objs.size fp s2 H1) rfl rfl rfl hc i [] s3 _ H3 (λ_ _=>False) I3 (stat fr3) st3 go) (λr s4 ⟨u,hr,h4⟩=>?_) λ_ _ z=>z.elim;subst hr;refine tG h4 (λ_ s5 ⟨x,H5,I5,r5,y5,st5,fr5⟩=>?_) λ_ _ z=>z.elim;have I5':=I5.pinned (stat fr5) (T.obj _ _ st5);refine tG (hg _ _ _ _ _ s5 _ H5 x u _ I5' r5 (step x H5 y5)) (λ_ s6 ⟨σ6,H6,I6,kp6,q6⟩=>?_) λ_ _ z=>z.elim;refine tG (he _ _ _ _ _ s6 σ6 H6 _ I6 q6) (λy s7 ⟨yv,H7,I7,r7,q7⟩=>?_) λ_ _ z=>z.elim;obtain⟨e7,m',hm',w7⟩:=q7;refine tG (kR (X:=jO X N scope cl HH.objs.size fp s2 H1) _ s7 σ6 H7 (.ref s2.heap.objs.size) [yv] (.ref s2.heap.objs.size) [y] (λ_ H8=>H8=upd H7 s2.heap.objs.size (.lst (ys++[yv]))) I7 rfl (.cons r7 .nil) ⟨_,ys,yv,rfl,rfl,e7,hz3,rfl⟩) (λ_ s8 ⟨_,H8,I8,_,q8⟩=>?_) λ_ _ z=>z.elim;subst q8;refine⟨m',hm',i+1,_,_,(I8.unpinned).weak (by rw[lσ,I8.len];rfl) kp6,T.keep _ _ _ st5 λb hb o e=>(I8.pin (b,o) (gB _ (gB _ (kG hb e)))).1,λb hb=>?_,w7⟩;obtain⟨o,e,d⟩:=T.obj _ _ st5 b hb;exact(I8.pin (b,o) (gB _ (gB _ (kG hb e)))).2.1
 exact codeAny_compStart_list loop (T.self _ 0 _ _ _ st4 loop)
end
section
variable{prog:Program}{w:World}{A:Around}{R:Result->Shared->Prop}{s:Shared}
theorem LF{elt target iter c:Expr}{scope:Scope}{pos:Pos}{it acc:Value}{env:Env}(I:Nat->Shared->Prop)
  (turn:∀n s,I n s->wpAny (model prog w) A (pyNext it) (λr s₁=>match r with
   | none=>R (.ok .next) s₁
   | some v=>wpAny (model prog w) A (letOwnedTupleGo target it v) (λ_ s₁'=>wpAny (model prog w) A (assign target env v) (λ_ s₂=>wpAny (model prog w) A (isTrue c env (eval c env)) (λb s₂'=>if b=true then wpAny (model prog w) A (eval elt env) (λx s₃=>
     wpAny (model prog w) A (call (.builtin "list.append") [acc,x]) (λ_ s₄=>∃m,m<n/\I m s₄) (notedBy (model prog w) A env λe s'=>R (.error e) s') s₃)
     (notedBy (model prog w) A env λe s'=>R (.error e) s') s₂' else ∃m,m<n/\I m s₂') (notedBy (model prog w) A env λe s'=>R (.error e) s') s₂) (notedBy (model prog w) A env λe s'=>R (.error e) s') s₁') (notedBy (model prog w) A env λe s'=>R (.error e) s') s₁) (notedBy (model prog w) A env λe s'=>R (.error e) s') s)
  (n:Nat) (h:I n s) :
  codeAny (model prog w) A (.compLoop (.ListComp elt [⟨target,iter,[c],0⟩] scope pos) 0 it acc env) R s:=by
 refine codeAny_loop rfl I (λn s hI=>?_) n h;show wpAny _ _ ((compTurn (.ListComp elt [⟨target,iter,[c],0⟩] scope pos) 0 it acc env).onRaise (λx=>do noteFrame x env;theTreesLotGoes x)) _ _ s;refine wpAny_noted ?_;rw[compTurn_list];refine tE (wpAny_standAt (tE (tG (turn n s hI) (λr s₁ h₁=>?_) λ_ _ h'=>h')));cases r with
 | none=>exact tF h₁
 | some v=>
  refine tE (tG h₁ (λ_ s₁' h₁'=>?_) λ_ _ h'=>h');refine tE (tG h₁' (λ_ s₂ h₂=>?_) λ_ _ h'=>h');refine tE ?_;rw[List.forIn_cons];dsimp only;rw[tI rfl];refine tE (tE (tG h₂ (λb s₂' hb=>tF ?_) λ_ _ h'=>h'));dsimp only;rw[List.forIn_nil];refine tF ?_;cases b with
  | true=>
   rw[tI rfl]at hb ⊢;refine tE ?_;exact(tE (tG hb (λx s₃ h₃=>tE (tG h₃
    (λ_ s₄ h₄=>tF (tF ⟨rfl,h₄⟩)) λ_ _ h'=>h')) λ_ _ h'=>h'))
  | false=>
   rw[tH gT]at hb ⊢;exact tF ⟨rfl,hb⟩
end
section
variable{X:Cx}
end
end Lw
namespace LwD
open PySem PySem.Spec PyProof.Rows L2 Lw
section
variable{prog:Program}{w:World}{A:Around}{E:Value->Shared->Prop}{s:Shared}
end
section
variable{X:Cx}
end
section
variable{X:Cx}{k v:Expr}{tk tv:TE}{pos:Pos}
end
end LwD
namespace L2
open PySem PySem.Spec PyProof.Rows
def Itel(K:tJ)(a:Addr):It:=
 ⟨λi H=>∃xs x,SqL K H a xs/\xs[i]? = some x,
  λi H v H'=>∃p x,H p=none/\v=.ref p/\H'=upd H p (.tup [.int i,x])/\(∀xs,SqL K H a xs->xs[i]? = some x),
  λi H=>∃xs,SqL K H a xs/\xs.length<=i⟩
theorem LS{P:Program}{w:World}{K:tJ}{es:List Expr}{x1}{pos:Pos}(l:Addr){e it:Addr}(hne:e≠it):Turn P w K (.Tuple es x1 pos) (Itel K l) [e,it] e (λi h=>(∃old,IsEnum h e it i old)/\h.IsListIter it l i) where
 mem:=by simp
 obj:=λi h Z b hb=>by
  simp only[nF,mJ,or_false]at hb;obtain⟨⟨old,he⟩,⟨o1,g1,c1,d1⟩⟩:=Z;rcases hb with rfl | rfl
  ·exact⟨_,he,λv q=>by cases (show Data.fields _=Data.cell v from q)⟩
  ·exact⟨_,g1,λv q=>by rw[d1]at q;cases q⟩
 keep:=λi h h' Z k=>by
  obtain⟨⟨old,he⟩,s1⟩:=Z;exact⟨⟨old,k e (by simp) _ he⟩,Heap.IsListIter.at s1 λo y=>k it (by simp) o y⟩
 item:=by
  intro X hP hw hK hc i pins s σ H E I hf Z hg;subst hP hw hK;obtain⟨xs,x,q1,hx⟩:=hg;obtain⟨its1,r1,p1,_⟩:=I.list q1;obtain⟨u1,hu1,ru1⟩:=r1.get hx;obtain⟨⟨old,he⟩,hit⟩:=id Z;have ae:l≠e:=FpOk.apartL I (hf e (by simp)) q1;have ai:l≠it:=FpOk.apartL I (hf it (by simp)) q1;refine wpAny_pyNext_enum_item he hit p1.isList (x:=u1) (by simpa using hu1) hne λg out n1 nu _ kk=>⟨_,rfl, ?_⟩;refine wpAny_letOwnedTupleGo_enum out λg2 z2 sb=>?_;have fr:H s.heap.objs.size=none:=I.hok.fresh uO ;have el:e<s.heap.objs.size:=nJ he;have il:it<s.heap.objs.size:=by obtain⟨_,y,_⟩:=hit;exact nJ y
  have fp:∀b∈[e,it],FpOk X pins (upd H s.heap.objs.size (.tup [.int i,x])) b:=λb hb=>by
   have lt:b≠s.heap.objs.size:=by
    simp only[nF,mJ,or_false]at hb;rcases hb with rfl | rfl
    ·exact nM el
    ·exact nM il
   exact⟨by rw[jM lt];exact(hf b hb).1,(hf b hb).2⟩
  have I1:Inv X pins σ (upd H s.heap.objs.size (.tup [.int i,x])) { s with heap:=s.heap.push { cls:=.type "tuple",data:=.seq #[.int i s.toks,u1] } } :=I.laid (t':=s.toks) (λb u e=>uZ _ e) uO ⟨by simp [sizeLine],[.int i s.toks,u1],.cons ⟨_,rfl⟩ (.cons ru1 .nil),⟨_,gO _ rfl,rfl,_,rfl⟩,.of (gO _ rfl) rfl⟩;have up:∀c o,c≠e->g.get? c=some o->g2.get? c=some o:=λc o cz y=>sb.extBut _ _ cz y;have I2:Inv X pins σ (upd H s.heap.objs.size (.tup [.int i,x])) { s with heap:=g2,toks:=s.toks+1 } :=by
   refine Inv.turnedL (s:={ s with heap:=s.heap.push { cls:=.type "tuple",data:=.seq #[.int i s.toks,u1] } }) (h':=g2) (t':=s.toks+1) I1 fp λb o hb y=>?_;simp only[nF,mJ,or_false,not_or]at hb;rcases Heap.get?_push_cases y with⟨e1,e2⟩ | e1
   ·rw[e1,e2];exact up _ _ (Nat.ne_of_gt el) nu
   ·exact up _ _ hb.1 (kk b o hb.1 hb.2 e1)
  exact⟨.ref s.heap.objs.size,_,I2,rfl,⟨_,x,fr,rfl,rfl,λxs' h=>by rw[I.list_inj h q1];exact hx⟩,⟨⟨_,by simpa using z2⟩,Heap.IsListIter.at n1 λo y=>up _ o (Ne.symm hne) y⟩,λb hb=>(fp b hb).1⟩
 done:=by
  intro X hP hw hK hc i pins s σ H E I hf Z hg;subst hP hw hK;obtain⟨xs,q1,hl⟩:=hg;obtain⟨its1,r1,p1,_⟩:=I.list q1;obtain⟨⟨old,he⟩,hit⟩:=id Z;have e1:=r1.length;refine wpAny_pyNext_enum_end (I.ok.hd hc) he hit p1.isList (by simp;omega) λg eb=>⟨rfl,Inv.turnedL (t':=s.toks) I hf λb o hb y=>eb b o (λz=>hb (by simp [z])) y⟩
 self:=λ_ _ _ _ _ Z h=>by
  obtain⟨⟨old,he⟩,_⟩:=Z;exact wpAny_pyIter_enum he h
section
variable{X:Cx}
def iEnumL(K:tJ)(ta:TA):TI:=fun σ H R=>ta σ H λvs H1=>∃a,vs=[.ref a]/\(∃xs,SqL K H1 a xs)/\R (Itel K a) H1
theorem CJ{es:List Expr}{x1}{tp:Pos}{a:Expr}{ta:TA}{p pos:Pos}(hg:Gl X "enumerate")(hm:X.mg "enumerate" = none)(ha:PA X [a] ta)(hs:starEach [a] X.env=[(false,eval a X.env)]:=by rfl) :
  PI X (.Tuple es x1 tp) (.Call (.Name "enumerate" p) [a] [] pos) (iEnumL X.K ta):=by
 intro pins s σ H R I h;refine Call_ (xB I hg hm (show bootBuiltins "enumerate" = some (.type "enumerate") by decide +kernel) (PyProof.Rows.callWith_type1 (thn (ha pos pins s σ H _ I h) λus s1 ⟨vs,H1,I1,r1,q1⟩=>?_) hs rfl));obtain⟨l1,e,⟨xs,q1⟩,q⟩:=q1;subst e;obtain⟨u,rfl,ru⟩:=xA r1;cases ru;obtain⟨its1,_,p1,_⟩:=I1.list q1;refine call_enumerate_list p1.isList λg he hit _ k=>wpAny_pyIter_enum he ?_;refine⟨_,[s1.heap.objs.size+1,s1.heap.objs.size],_,_,H1,rfl,I1.kept (t':=s1.toks) k,LS l1 (Nat.ne_of_gt (mO _)),⟨⟨_,he⟩,hit⟩,λb hb=>?_,q⟩;have hb':s1.heap.objs.size<=b:=by
  simp only[nF,mJ,or_false]at hb;rcases hb with rfl | rfl<;>first | exact Nat.le_add_right _ _ | exact nW _
 exact I1.fpOk hb' (I1.hok.fresh hb')
end
theorem SX{K:tJ}{a:Addr}{xs:List V}{g:TG}{tb:TS}{D:Ends}{σ:St}{H:Hp}(Pv:Nat->St->Hp->Prop)(h0:Pv 0 σ H)(hl:∀i σ H,i<=xs.length->Pv i σ H->SqL K H a xs)
  (hs:∀i x p σ H,xs[i]? = some x->H p=none->Pv i σ H->g (.ref p) σ (upd H p (.tup [.int i,x])) fun σ2 H2=>tb { D with nx:=Pv (i+1),ct:=Pv (i+1),bk:=D.nx } σ2 H2) (hd:∀σ H,Pv xs.length σ H->D.nx σ H) :
  ∃W:Nat->Nat->St->Hp->Prop,(∃m,W 0 m σ H)/\∀i m σ H,W i m σ H->
   ((Itel K a).stop i H/\D.nx σ H)∨((Itel K a).go i H/\∃N:St->Hp->Prop,(∀σ' H',N σ' H'->∃m',m'<m/\W (i+1) m' σ' H')/\∀x H',(Itel K a).yld i H x H'->g x σ H' fun σ2 H2=>tb { D with nx:=N,ct:=N,bk:=D.nx } σ2 H2):=by
 refine⟨λi m σ H=>m=xs.length-i/\i<=xs.length/\Pv i σ H,⟨xs.length,by simp,nX _,h0⟩, ?_⟩;rintro i m σ H ⟨rfl,hi,p⟩;have q:=hl i σ H hi p;by_cases hlt:i<xs.length
 ·refine .inr ⟨⟨xs,xs[i],q,by simp [hlt]⟩,Pv (i+1),fun σ' H' p'=>⟨xs.length-(i+1),by omega,rfl,hlt,p'⟩,λv H' y=>?_⟩;obtain⟨r,x,hr,rfl,rfl,hx⟩:=y;exact hs i x r σ H (hx xs q) hr p
 ·have ei:i=xs.length:=by omega
  subst ei;exact .inl ⟨⟨xs,q,nW _⟩,hd σ H p⟩
section
variable{prog:Program}{w:World}{A:Around}{E:Value->Shared->Prop}{s:Shared}
end
section
variable{X:Cx}{tg:Expr}
def rRange:List V->Hp->VK->Prop:=λxs H Q=>∃n:Int,xs=[.int n]/\∀p,H p=none->Q (.ref p) (upd H p (.rng 0 n))
theorem ND:CallR X (.type "range") rRange:=by
 intro pins s σ H xs us Q I r h;obtain⟨n,rfl,q⟩:=h;obtain⟨u,rfl,t,rfl⟩:=xA r;refine call_range_1 ⟨.ref s.heap.objs.size,_,I.laid (a:=s.heap.objs.size) (o:=.rng 0 n) (λb u e=>uZ _ e) uO ⟨_,_,_,gO _ rfl⟩,rfl,q _ (I.hok.fresh uO)⟩
end
open Lw
section
variable{X:Cx}{pos:Pos}
theorem zU:∀{xs:List V} {us:List Value},Vals xs us->Vals xs.reverse us.reverse
 | _,_,.nil=>.nil
 | _,_,.cons h t=>by rw[List.reverse_cons,List.reverse_cons];exact(zU t).append (.cons h .nil)
def tBackL(K:tJ)(te:TE)(ts:TO):TE:=fun σ H Q=>te σ H λx H1=>ts σ H1 λo H2=>o=some (-1)/\∃a xs,x=.ref a/\SqL K H2 a xs/\New H2 (.lst xs.reverse) Q
theorem UZ{e st:Expr}{te:TE}{ts:TO}{p2:Pos}(he:PE X e te)(hs:PO X (some st) ts):PE X (.Subscript e (.Slice none none (some st) p2) pos) (tBackL X.K te ts):=by
 intro pins s σ H Q I h;refine Subscript_ (thn (he pins s σ H _ I h) λv s1 ⟨x,H1,I1,r1,q1⟩=>?_);refine wpAny_Slice ?_;rw[evalPart_none];refine tF (tF (thn (hs pins s1 σ H1 _ I1 q1) λvs s2 ⟨o,H2,I2,po,eo,a,xs,ex,hx,q⟩=>?_));subst eo ex;cases r1;cases po with
 | int i u=>
 have I3:Inv X pins σ H2 { s2 with heap:=s2.heap.push { cls:=.type "slice",data:=.fields #[.none,.none,.int (-1) u] } } :=I2.kept (t':=s2.toks) λb ob q=>uZ _ q;obtain⟨its,r,ht,hz⟩:=I3.list hx;have hl:its.toArray.size=xs.length:=by rw[hU];exact r.length.symm
 show wpAny (model X.prog X.w) X.A (subscriptTail e (.Slice none none (some st) p2) (.ref a) (.ref s2.heap.objs.size)) (EP X pins σ Q) X.xe { s2 with heap:=s2.heap.push { cls:=.type "slice",data:=.fields #[.none,.none,.int (-1) u] } };refine tail_any (ops:=[.ref a,.ref s2.heap.objs.size]) ht.isList.typeIs slot_list_getitem.lookup ?_ (by with_unfolding_all rfl);refine wpAny_getItem_list_slice ht.isList (Heap.IsSliceOf.new ..) .none .none (.int (-1) u) (by decide) ?_ (by rw[hl];exact hz);rw[PySem.W.krv_pick];have n:=I3.hok.fresh (nW (s2.heap.push { cls:=.type "slice",data:=.fields #[.none,.none,.int (-1) u] }).objs.size);refine⟨.ref _,_,I3.laid (t':=s2.toks) (o:=.lst xs.reverse) (λb ob q=>uZ _ q) uO ?_,rfl,q _ _ n (Lw.kD _ n) jG⟩;exact⟨by rw[List.length_reverse];exact hz,_,0,zU r,gO _ rfl⟩
end
section
variable{prog:Program}{w:World}{A:Around}{E:Value->Shared->Prop}{s:Shared}
theorem drawL{it l:Addr}{items:Array Value}(ne:l≠it):∀(n i:Nat) (s:Shared) (Q:List Value->Shared->Prop),s.heap.IsListIter it l i->s.heap.IsList l items->i+n<=items.size->
  (∀g,g.IsListIter it l (i+n)->Heap.SameBut it s.heap g->Q ((items.toList.drop i).take n) { s with heap:=g })->wpAny (model prog w) A (draw (.ref it) n) Q E s
 | 0,i,s,Q,h1,_,_,q=>by
  show wpAny _ _ (pure []) Q E s;exact tF (by simpa using q s.heap h1 (Heap.SameBut.refl ..))
 | n+1,i,s,Q,h1,h2,le,q=>by
  have lt:i<items.size:=by omega
  show wpAny _ _ (pyNext (.ref it) >>= _) Q E s;refine tE (wpAny_pyNext_list_item h1 h2 (x:=items[i]) (by simp [lt]) λg1 k1 b1=>?_);refine tE (wpAny_holding (drawL ne n (i+1) _ _ k1 (h2.extBut b1.extBut ne) (by omega) λg2 k2 b2=>tF ?_));have e:items.toList.drop i=items[i]::items.toList.drop (i+1):=by simp [List.drop_eq_getElem_cons,lt]
  have:=q g2 (by rw[show i+(n+1)=i+1+n by omega];exact k2) (b1.trans b2);rw[e,List.take_succ_cons]at this;exact this
theorem YD{l:Addr}{items:Array Value}{Q:List Value->Shared->Prop}(hh:A.handled=none)(hl:s.heap.IsList l items)
  (q:∀g,Heap.ExtBut s.heap.objs.size s.heap g->Q items.toList { s with heap:=g }):wpAny (model prog w) A (unpackItems (.ref l) items.size none) Q E s:=by
 have lt:l≠s.heap.objs.size:=by obtain⟨o,ho,_⟩:=hl;exact nM (nJ ho)
 unfold unpackItems;refine tE ?_;unfold notIterableAtAll;refine tE (wpAny_specialOf hl.typeIs slot_list_iter.lookup (tF ?_));simp only[Bool.false_eq_true,if_false];refine tE (wpAny_holding (wpAny_pyIter_list hl ?_));refine tE (wpAny_holding (drawL lt items.size 0 _ _ ⟨_,gO _ rfl,rfl,rfl⟩ (Heap.IsList.push hl _) (by omega) λg1 k1 b1=>?_));rw[show List.take items.size (List.drop 0 items.toList)=items.toList by rw[List.drop_zero];exact gA (by simp),tH (by simp)];have h1:g1.IsList l items:=Heap.IsList.extBut (Heap.IsList.push hl _) b1.extBut lt;refine tE (wpAny_holding (wpAny_pyNext_list_end hh k1 h1 (by simp) λg2 b2=>?_));simp only[Option.isSome_none,Bool.false_eq_true,if_false];exact tF (q g2 λb o hb e=>b2 b o hb (b1.extBut b o hb (uZ _ e)))
end
section
variable{X:Cx}{pos:Pos}
def gTupL(K:tJ)(n:Nat)(t:TGs):TG:=λv σ H Q=>∃a xs,v=.ref a/\SqL K H a xs/\xs.length=n/\t xs σ H Q
theorem YX{es:List Expr}{k:Nat}{t:TGs}{n:Nat}(hc:X.calm=true)(h:PGs X es t)
  (hn:(assignEach es X.env).length=n:=by rfl) (hst:(assignEach es X.env).findIdx? (·.1)=none:=by rfl):PG X (.Tuple es k pos) (gTupL X.K n t):=by
 intro pins s σ H v u Q I r hw;obtain⟨a,xs,e1,hq,hl,hw⟩:=hw;subst e1;cases r;obtain⟨its,rv,ht,hz⟩:=I.list hq;rw[PyProof.Rows.assign_Tuple];refine tE (wpAny_standAt ?_);unfold unpack;rw[show(assignEach es X.env).length=its.toArray.size by simp [hn,<-hl,rv.length],hst];refine tE (wpAny_holding (YD (I.ok.hd hc) ht.isList λh' hx=>?_));have I1:Inv X pins σ H { s with heap:=h' } :=I.kept (t':=s.toks) λb o e=>hx b o (nM (nJ e)) e;exact h pins _ σ H xs _ Q I1 (by simpa using rv) hw
end
structure ZL(z TI TO i1 i2 l1 l2:Addr)(k:Nat)(h:Heap):Prop where
 zz:IsZip h z TI TO .none
 ti:IsPair h TI (.ref i1) (.ref i2)
 to:∃a b,IsPair h TO a b
 one:h.IsListIter i1 l1 k
 two:h.IsListIter i2 l2 k
def ItzL(K:tJ)(a b:Addr):It:=
 ⟨λi H=>∃xs ys x y,SqL K H a xs/\SqL K H b ys/\xs[i]? = some x/\ys[i]? = some y,
  λi H v H'=>∃p x y,H p=none/\v=.ref p/\H'=upd H p (.tup [x,y])/\(∀xs,SqL K H a xs->xs[i]? = some x)/\(∀ys,SqL K H b ys->ys[i]? = some y),
  λi H=>∃xs ys,SqL K H a xs/\SqL K H b ys/\(xs.length<=i∨ys.length<=i)⟩
theorem RA{P:Program}{w:World}{K:tJ}{es:List Expr}{x1}{pos:Pos}(l1 l2:Addr){z TI TO i1 i2:Addr}(F:Five z TI TO i1 i2):Turn P w K (.Tuple es x1 pos) (ItzL K l1 l2) [z,TI,TO,i1,i2] z (λi h=>ZL z TI TO i1 i2 l1 l2 i h) where
 mem:=by simp
 obj:=λi h Z b hb=>by
  simp only[nF,mJ,or_false]at hb;obtain⟨hz,hti,⟨a,c,hto⟩,⟨o1,g1,c1,d1⟩,⟨o2,g2,c2,d2⟩⟩:=Z;rcases hb with rfl | rfl | rfl | rfl | rfl
  ·exact⟨_,hz,λv q=>by cases (show Data.fields _=Data.cell v from q)⟩
  ·exact⟨_,hti,λv q=>by cases (show Data.seq _ _=Data.cell v from q)⟩
  ·exact⟨_,hto,λv q=>by cases (show Data.seq _ _=Data.cell v from q)⟩
  ·exact⟨_,g1,λv q=>by rw[d1]at q;cases q⟩
  ·exact⟨_,g2,λv q=>by rw[d2]at q;cases q⟩
 keep:=λi h h' Z k=>by
  obtain⟨hz,hti,⟨a,c,hto⟩,s1,s2⟩:=Z;exact⟨k z (by simp) _ hz,k TI (by simp) _ hti,⟨a,c,k TO (by simp) _ hto⟩,s1.at λo e=>k i1 (by simp) o e,s2.at λo e=>k i2 (by simp) o e⟩
 item:=by
  intro X hP hw hK hc i pins s σ H E I hf Z hg;subst hP hw hK;obtain⟨xs,ys,x,y,q1,q2,hx,hy⟩:=hg;obtain⟨its1,r1,p1,_⟩:=I.list q1;obtain⟨its2,r2,p2,_⟩:=I.list q2;obtain⟨u1,hu1,ru1⟩:=r1.get hx;obtain⟨u2,hu2,ru2⟩:=r2.get hy;have D:=F.of (λb hb=>FpOk.apartL I (hf b hb) q1) (λb hb=>FpOk.apartL I (hf b hb) q2);obtain⟨a0,b0,hto⟩:=Z.to;refine wpAny_pyNext_zip_item D Z.zz Z.ti hto Z.one Z.two p1.isList p2.isList (x:=u1) (y:=u2) (by simpa using hu1) (by simpa using hu2) λg z1 to1 n1 n2 nu _ kk=>⟨_,rfl, ?_⟩;refine wpAny_letOwnedTupleGo_zip z1 λg2 z2 sb=>?_;have fr:H s.heap.objs.size=none:=I.hok.fresh uO ;have fp:∀b∈[z,TI,TO,i1,i2],FpOk X pins (upd H s.heap.objs.size (.tup [x,y])) b:=λb hb=>by
   have lt:b≠s.heap.objs.size:=by
    simp only[nF,mJ,or_false]at hb;obtain⟨hz,hti,⟨a,c,hto⟩,⟨o1,g1,_⟩,⟨o2,g2,_⟩⟩:=Z;rcases hb with rfl | rfl | rfl | rfl | rfl
    ·exact nM (nJ hz)
    ·exact nM (nJ hti)
    ·exact nM (nJ hto)
    ·exact nM (nJ g1)
    ·exact nM (nJ g2)
   exact⟨by rw[jM lt];exact(hf b hb).1,(hf b hb).2⟩
  have I1:Inv X pins σ (upd H s.heap.objs.size (.tup [x,y])) { s with heap:=s.heap.push { cls:=.type "tuple",data:=.seq #[u1,u2] } } :=I.laid (t':=s.toks) (λb u e=>uZ _ e) uO ⟨by simp [sizeLine],[u1,u2],.cons ru1 (.cons ru2 .nil),⟨_,gO _ rfl,rfl,_,rfl⟩,.of (gO _ rfl) rfl⟩;have up:∀c o,c≠z->g.get? c=some o->g2.get? c=some o:=λc o cz e=>sb.extBut _ _ cz e;have zs:z≠s.heap.objs.size:=nM (nJ Z.zz);have I2:Inv X pins σ (upd H s.heap.objs.size (.tup [x,y])) { s with heap:=g2 } :=by
   refine Inv.turnedL (s:={ s with heap:=s.heap.push { cls:=.type "tuple",data:=.seq #[u1,u2] } }) (h':=g2) (t':=s.toks) I1 fp λb o hb e=>?_;simp only[nF,mJ,or_false,not_or]at hb;rcases Heap.get?_push_cases e with⟨e1,e2⟩ | e1
   ·rw[e1,e2];exact up _ _ (Ne.symm zs) nu
   ·exact up _ _ hb.1 (kk b o hb.1 hb.2.2.1 hb.2.2.2.1 hb.2.2.2.2 e1)
  exact⟨.ref s.heap.objs.size,_,I2,rfl,⟨_,x,y,fr,rfl,rfl,λxs' h=>by rw[I.list_inj h q1];exact hx,λys' h=>by rw[I.list_inj h q2];exact hy⟩,⟨z2,up _ _ D.TIz (kk _ _ D.TIz D.TITO D.TIi1 D.TIi2 Z.ti),⟨_,_,up _ _ D.TOz to1⟩,n1.at λo e=>up _ o D.i1z e,n2.at λo e=>up _ o D.i2z e⟩,λb hb=>(fp b hb).1⟩
 done:=by
  intro X hP hw hK hc i pins s σ H E I hf Z hg;subst hP hw hK;obtain⟨xs,ys,q1,q2,he⟩:=hg;obtain⟨its1,r1,p1,_⟩:=I.list q1;obtain⟨its2,r2,p2,_⟩:=I.list q2;have D:=F.of (λb hb=>FpOk.apartL I (hf b hb) q1) (λb hb=>FpOk.apartL I (hf b hb) q2);have e1:=r1.length;have e2:=r2.length;obtain⟨a0,b0,hto⟩:=Z.to;refine wpAny_pyNext_zip_end (I.ok.hd hc) D Z.zz Z.ti hto Z.one Z.two p1.isList p2.isList ?_ λg kk=>⟨rfl,Inv.turnedL (t':=s.toks) I hf λb o hb e=>by
   simp only[nF,mJ,or_false,not_or]at hb;exact kk b o hb.1 hb.2.2.1 hb.2.2.2.1 hb.2.2.2.2 e⟩
  rcases he with h | h
  ·exact .inl (by simp;omega)
  ·exact .inr (by simp;omega)
 self:=λ_ _ _ _ _ Z h=>wpAny_pyIter_zip Z.zz h
section
variable{X:Cx}
def iZipL(K:tJ)(ta:TA):TI:=fun σ H R=>ta σ H λvs H1=>∃a b,vs=[.ref a,.ref b]/\(∃xs,SqL K H1 a xs)/\(∃ys,SqL K H1 b ys)/\R (ItzL K a b) H1
theorem HK{es:List Expr}{x1}{tp:Pos}{a b:Expr}{ta:TA}{p pos:Pos}(hg:Gl X "zip")(hm:X.mg "zip" = none)(ha:PA X [a,b] ta)(hs:starEach [a,b] X.env=[(false,eval a X.env),(false,eval b X.env)]:=by rfl)(hs2:starEach [b] X.env=[(false,eval b X.env)]:=by rfl) :
  PI X (.Tuple es x1 tp) (.Call (.Name "zip" p) [a,b] [] pos) (iZipL X.K ta):=by
 intro pins s σ H R I h;refine Call_ (xB I hg hm boot_zip (PyProof.Rows.callWith_type1 (thn (ha pos pins s σ H _ I h) λus s1 ⟨vs,H1,I1,r1,q1⟩=>?_) (by rw[hs,hs2]) (by rw[hs2];rfl)));obtain⟨l1,l2,e,⟨xs,q1⟩,⟨ys,q2⟩,q⟩:=q1;subst e;cases r1 with
 | cons r rr=>
  cases rr with
  | cons r' rr=>
   cases rr;cases r;cases r';obtain⟨its1,_,p1,_⟩:=I1.list q1;obtain⟨its2,_,p2,_⟩:=I1.list q2;refine call_zip_2 p1.isList p2.isList λg z1 z2 z3 z4 z5 _ k=>wpAny_pyIter_zip z1 ?_;refine⟨_,_,_,_,H1,rfl,I1.kept (t':=s1.toks) k,RA l1 l2 ⟨by simp⟩,⟨z1,z2,⟨_,_,z3⟩,z4,z5⟩,λb hb=>?_,q⟩;have hb':s1.heap.objs.size<=b:=by
    simp only[nF,mJ,or_false]at hb;rcases hb with rfl | rfl | rfl | rfl | rfl<;>first | exact Nat.le_add_right _ _ | exact nW _
   exact I1.fpOk hb' (I1.hok.fresh hb')
end
end L2
namespace L2
open PySem PySem.Spec PyProof.Rows
section
variable{prog:Program}{w:World}{A:Around}{E:Value->Shared->Prop}{s:Shared}
end
section
variable{X:Cx}{tg:Expr}
end
end L2
namespace Lw
open PySem PySem.Spec PyProof.Rows L2
section
variable{X:Cx}
theorem EB:bootBuiltins "min" = some (.builtin "min"):=by decide +kernel
theorem KM(ns:List Int):∀k,k<ns.length->(argBest (λi j=>decide (ns.getD i 0<ns.getD j 0)) k)<=k/\∀j,j<=k->ns.getD (argBest (λi j=>decide (ns.getD i 0<ns.getD j 0)) k) 0<=ns.getD j 0
 | 0,_=>⟨nW _,λj hj=>by
   have:j=0:=by omega
   subst this;exact Int.le_refl _⟩
 | k+1,h=>by
  obtain⟨h1,h2⟩:=KM ns k (by omega);simp only[argBest];split
  ·rename_i hb;have hb:=mB hb;refine⟨nW _,λj hj=>?_⟩;rcases Nat.lt_or_ge j (k+1)with z | z
   ·have:=h2 j (by omega);omega
   ·have:j=k+1:=by omega
    subst this;exact Int.le_refl _
  ·rename_i hb;refine⟨by omega,λj hj=>?_⟩;rcases Nat.lt_or_ge j (k+1)with z | z
   ·exact h2 j (by omega)
   ·have:j=k+1:=by omega
    subst this;have:¬(ns.getD (k+1) 0<ns.getD (argBest (λi j=>decide (ns.getD i 0<ns.getD j 0)) k) 0):=λz=>hb (mU z);omega
def rMin1:List V->Hp->VK->Prop:=λxs H Q=>∃(l:Addr) (ns:List Int),xs=[.ref l]/\H l=some (.lst (ns.map V.int))/\ns≠[]/\∀m,m∈ns->(∀x∈ns,m<=x)->Q (.int m) H
theorem AO(hc:X.calm=true):CallR X (.builtin "min") rMin1:=by
 intro pins s σ H xs us Q I r h;obtain⟨l,ns,rfl,hl,hne,q1⟩:=h;obtain⟨u,rfl,ru⟩:=xA r;cases ru;obtain⟨its,rv,p,_⟩:=I.list (SqL.of hl);have i1:IntsAre its ns:=yF rv;have il:=yV i1;have ha:l<s.heap.objs.size:=by
  obtain⟨o,_,e,_⟩:=p;exact nJ e
 have p':s.heap.IsList l its.toArray:=by
  obtain⟨o,n,e,e2,_,e3⟩:=p;exact⟨o,e,e2,⟨n,e3⟩⟩
 have np:0<ns.length:=List.length_pos_iff.mpr hne;refine call_min_walk (wpAny_pyIter_list p' ?_);refine⟨s.heap.objs.size,_,_,_,_,_,λi j=>decide (ns.getD i 0<ns.getD j 0),rfl,Walks.list (show X.A.in1.handled=none from I.ok.hd hc) s.heap.objs.size l (nM ha) its.toArray,⟨⟨_,gO _ rfl,rfl,rfl⟩,p'.push _⟩, ?_, ?_, ?_, ?_⟩
 ·intro b hb;show b<(s.heap.push _).objs.size;rw[mZ];simp only[nF,mJ,or_false]at hb;rcases hb with rfl | rfl
  ·exact mO _
  ·exact Nat.lt_succ_of_lt ha
 ·rw[hU,il];exact np
 ·refine CmpOf.ints_lt (λi=>ns.getD i 0) λi v hv=>?_;have hv':its[i]? = some v:=by simpa using hv
  obtain⟨hi,e⟩:=uU.mp hv';obtain⟨n,t,e1,e2⟩:=yW i1 hi;exact⟨t,by rw[<-e,e2,uR,e1];rfl⟩
 ·intro v h' tk hv k;have sz:its.toArray.size=ns.length:=by rw[hU,il]
  rw[sz]at hv;obtain⟨b1,b2⟩:=KM ns (ns.length-1) (by omega);generalize argBest (λi j=>decide (ns.getD i 0<ns.getD j 0)) (ns.length-1)=i at hv b1 b2;have hv':its[i]? = some v:=by simpa using hv
  obtain⟨hi,e⟩:=uU.mp hv';obtain⟨n,t,e1,e2⟩:=yW i1 hi;have en:ns.getD i 0=n:=by rw[uR,e1];rfl
  refine⟨.int n,H,I.kept (t':=tk) (λb o e=>k b o ?_ (uZ _ e)),⟨t,by rw[<-e,e2]⟩,q1 n (gH e1) λx hx=>?_⟩
  ·simp;exact nM (nJ e)
  ·obtain⟨j,hj⟩:=gF.mp hx;have hjl:=(uU.mp hj).1;have:=b2 j (by omega);rw[en,uR,hj]at this;exact this
end
section
variable{prog:Program}{w:World}{A:Around}{E:Value->Shared->Prop}{s:Shared}
end
section
variable{X:Cx}
end
section
variable{prog:Program}{w:World}{A:Around}{R:Result->Shared->Prop}{s:Shared}
end
section
variable{X:Cx}
end
section
variable{X:Cx}
end
section
variable{X:Cx}
end
theorem EN(elt t1 i1 t2 i2:Expr)(scope:Scope)(pos:Pos)(it acc:Value)(env:Env) :
  compTurn (.ListComp elt [⟨t1,i1,[],0⟩,⟨t2,i2,[],0⟩] scope pos) 0 it acc env=(standAt i1.pos >>= λ_=>pyNext it >>= λr=>match r with
   | none=>pure (.done .next)
   | some v=>letOwnedTupleGo t1 it v >>= λ_=>assign t1 env v >>= λ_=>
    eval i2 env >>= λx=>standAt i2.pos >>= λ_=>foldedSetIterable i2 env x >>= λx=>holding [x] (pyIter x) >>= λj=>runOwn (.compStart (.ListComp elt [⟨t1,i1,[],0⟩,⟨t2,i2,[],0⟩] scope pos) 1 j acc env) env >>= λ_=>
     again (.compLoop (.ListComp elt [⟨t1,i1,[],0⟩,⟨t2,i2,[],0⟩] scope pos) 0 it acc env)):=by rfl
theorem EM(elt t1 i1 t2 i2:Expr)(scope:Scope)(pos:Pos)(it acc:Value)(env:Env) :
  compTurn (.ListComp elt [⟨t1,i1,[],0⟩,⟨t2,i2,[],0⟩] scope pos) 1 it acc env=(standAt i2.pos >>= λ_=>pyNext it >>= λr=>match r with
   | none=>pure (.done .next)
   | some v=>letOwnedTupleGo t2 it v >>= λ_=>assign t2 env v >>= λ_=>
    (eval elt env >>= λx=>call (.builtin "list.append") [acc,x] >>= λ_=>pure ()) >>= λ_=>
     again (.compLoop (.ListComp elt [⟨t1,i1,[],0⟩,⟨t2,i2,[],0⟩] scope pos) 1 it acc env)):=by rfl
section
variable{prog:Program}{w:World}{A:Around}{R:Result->Shared->Prop}{s:Shared}
theorem EQ{elt t1 i1 t2 i2:Expr}{scope:Scope}{pos:Pos}{it acc:Value}{env:Env}(I:Nat->Shared->Prop)(hs:∀x,foldedSetIterable i2 env x=pure x)
  (turn:∀n s,I n s->wpAny (model prog w) A (pyNext it) (λr s₁=>match r with
   | none=>R (.ok .next) s₁
   | some v=>wpAny (model prog w) A (letOwnedTupleGo t1 it v) (λ_ s₁'=>wpAny (model prog w) A (assign t1 env v) (λ_ s₂=>wpAny (model prog w) A (eval i2 env) (λx s₃=>
     wpAny (model prog w) A (pyIter x) (λj s₄=>codeAny (model prog w) A (.compStart (.ListComp elt [⟨t1,i1,[],0⟩,⟨t2,i2,[],0⟩] scope pos) 1 j acc env) (λr s'=>match r with | .ok _=>∃m,m<n/\I m s' | .error e=>cameBackBy (model prog w) A env (notedBy (model prog w) A env λe s'=>R (.error e) s') e s') s₄) (notedBy (model prog w) A env λe s'=>R (.error e) s') s₃)
     (notedBy (model prog w) A env λe s'=>R (.error e) s') s₂) (notedBy (model prog w) A env λe s'=>R (.error e) s') s₁') (notedBy (model prog w) A env λe s'=>R (.error e) s') s₁) (notedBy (model prog w) A env λe s'=>R (.error e) s') s)
  (n:Nat) (h:I n s) :
  codeAny (model prog w) A (.compLoop (.ListComp elt [⟨t1,i1,[],0⟩,⟨t2,i2,[],0⟩] scope pos) 0 it acc env) R s:=by
 refine codeAny_loop rfl I (λn s hI=>?_) n h;show wpAny _ _ ((compTurn (.ListComp elt [⟨t1,i1,[],0⟩,⟨t2,i2,[],0⟩] scope pos) 0 it acc env).onRaise (λx=>do noteFrame x env;theTreesLotGoes x)) _ _ s;refine wpAny_noted ?_;rw[EN];refine tE (wpAny_standAt (tE (tG (turn n s hI) (λr s₁ h₁=>?_) λ_ _ h'=>h')));cases r with
 | none=>exact tF h₁
 | some v=>
  refine tE (tG h₁ (λ_ s₁' h₁'=>?_) λ_ _ h'=>h');refine tE (tG h₁' (λ_ s₂ h₂=>?_) λ_ _ h'=>h');refine tE (tG h₂ (λx s₃ h₃=>?_) λ_ _ h'=>h');refine tE (wpAny_standAt (tE (wpAny_of_eq (hs x) (tE (wpAny_holding (tG h₃ (λj s₄ h₄=>?_) λ_ _ h'=>h'))))));exact tE (wpAny_runOwn (codeAny_mono h₄ λr s' h'=>by
   cases r with
   | ok f=>exact tF ⟨rfl,h'⟩
   | error e=>exact h'))
theorem EO{elt t1 i1 t2 i2:Expr}{scope:Scope}{pos:Pos}{it acc:Value}{env:Env}(I:Nat->Shared->Prop)
  (turn:∀n s,I n s->wpAny (model prog w) A (pyNext it) (λr s₁=>match r with
   | none=>R (.ok .next) s₁
   | some v=>wpAny (model prog w) A (letOwnedTupleGo t2 it v) (λ_ s₁'=>wpAny (model prog w) A (assign t2 env v) (λ_ s₂=>wpAny (model prog w) A (eval elt env) (λx s₃=>
     wpAny (model prog w) A (call (.builtin "list.append") [acc,x]) (λ_ s₄=>∃m,m<n/\I m s₄) (notedBy (model prog w) A env λe s'=>R (.error e) s') s₃)
     (notedBy (model prog w) A env λe s'=>R (.error e) s') s₂) (notedBy (model prog w) A env λe s'=>R (.error e) s') s₁') (notedBy (model prog w) A env λe s'=>R (.error e) s') s₁) (notedBy (model prog w) A env λe s'=>R (.error e) s') s)
  (n:Nat) (h:I n s) :
  codeAny (model prog w) A (.compLoop (.ListComp elt [⟨t1,i1,[],0⟩,⟨t2,i2,[],0⟩] scope pos) 1 it acc env) R s:=by
 refine codeAny_loop rfl I (λn s hI=>?_) n h;show wpAny _ _ ((compTurn (.ListComp elt [⟨t1,i1,[],0⟩,⟨t2,i2,[],0⟩] scope pos) 1 it acc env).onRaise (λx=>do noteFrame x env;theTreesLotGoes x)) _ _ s;refine wpAny_noted ?_;rw[EM];refine tE (wpAny_standAt (tE (tG (turn n s hI) (λr s₁ h₁=>?_) λ_ _ h'=>h')));cases r with
 | none=>exact tF h₁
 | some v=>
  refine tE (tG h₁ (λ_ s₁' h₁'=>?_) λ_ _ h'=>h');exact tE (tG h₁' (λ_ s₂ h₂=>tE (tE (tG h₂ (λx s₃ h₃=>tE (tG h₃
   (λ_ s₄ h₄=>tF (tF ⟨rfl,h₄⟩)) λ_ _ h'=>h')) λ_ _ h'=>h'))) λ_ _ h'=>h')
theorem DV{elt t1 i1 t2 i2:Expr}{scope:Scope}{pos:Pos}{it acc:Value}{env:Env}
  (h0:codeAny (model prog w) A (.compLoop (.ListComp elt [⟨t1,i1,[],0⟩,⟨t2,i2,[],0⟩] scope pos) 1 it acc env) R s)
  (h:wpAny (model prog w) A (pyIter it) (λit' s'=>codeAny (model prog w) A (.compLoop (.ListComp elt [⟨t1,i1,[],0⟩,⟨t2,i2,[],0⟩] scope pos) 1 it' acc env) R s')
   (notedBy (model prog w) A env λx s'=>R (.error x) s') s) :
  codeAny (model prog w) A (.compStart (.ListComp elt [⟨t1,i1,[],0⟩,⟨t2,i2,[],0⟩] scope pos) 1 it acc env) R s:=by
 refine codeAny_of_tree ?_;show wpAny _ _ ((compStart (.ListComp elt [⟨t1,i1,[],0⟩,⟨t2,i2,[],0⟩] scope pos) 1 it acc env).onRaise (λx=>do noteFrame x env;standAt theWindowsPlace)) _ _ s;refine wpAny_notedAt ?_;unfold compStart;show wpAny _ _ (ask >>= _) _ _ s;refine tE (wpAny_askSetting (wpAny_ite ?_));split
 ·first
   | exact tE (tF (tF (And.intro rfl h0)))
   | exact tF (And.intro rfl h0)
 ·first
   | exact tE (wpAny_rule (tE (wpAny_standAt (tE (tG h (λit' s' h'=>tF (And.intro rfl h')) λ_ _ x=>x)))))
   | (refine tE (wpAny_rule ?_);show wpAny _ _ (standAt i2.pos >>= _) _ _ s;exact tE (wpAny_standAt (tE (tG h (λit' s' h'=>tF (And.intro rfl h')) λ_ _ x=>x))))
end
def CompGoFI(σ0:L2.St)(J:It)(g:TG)(tt:TT)(te:TE)(Q:VK)(p:Addr)(H':Hp):Prop:=
 ∃W:Nat->Nat->List V->Hp->Prop,(∃m,W 0 m [] H')/\∀i m ys H2,W i m ys H2->H2 p=some (.lst ys)/\ys.length<sizeLine/\
  ((J.stop i H2/\Q (.ref p) H2)∨(J.go i H2/\∀x H3,J.yld i H2 x H3->g x σ0 H3 fun σ4 H4=>Keep σ0 σ4/\tt σ4 H4 λb H5=>if b=true then te σ4 H5 λy H6=>H6 p=some (.lst ys)/\∃m',m'<m/\W (i+1) m' (ys++[y]) (upd H6 p (.lst (ys++[y])))else ∃m',m'<m/\W (i+1) m' ys H5))
def YE(own:Nat)(idx:List Nat)(wi:TI)(g:TG)(tt:TT)(te:TE):TE:=fun σ H Q=>wi σ H λJ H1=>∀p H',H1 p=none->Same H1 H'->H' p=some (.lst [])->
 CompGoFI (List.replicate own none++idx.map λj=>(σ[j]?).getD none) J g tt te Q p H'
def CompGo2(σ0:L2.St)(J:It)(g:TG)(wi2:TI)(g2:TG)(te:TE)(Q:VK)(p:Addr)(H':Hp):Prop:=
 ∃W:Nat->Nat->Hp->Prop,(∃m,W 0 m H')/\∀i m H2,W i m H2->(J.stop i H2/\Q (.ref p) H2)∨(J.go i H2/\∀x H3,J.yld i H2 x H3->g x σ0 H3 fun σ4 H4=>wi2 σ4 H4 λJ2 H5=>
  ∃W2:Nat->Nat->List V->L2.St->Hp->Prop,(∃m2 ys,W2 0 m2 ys σ4 H5)/\∀j m2 ys σ5 H6,W2 j m2 ys σ5 H6->H6 p=some (.lst ys)/\ys.length<sizeLine/\
   ((J2.stop j H6/\Keep σ0 σ5/\∃m',m'<m/\W (i+1) m' H6)∨(J2.go j H6/\∀y H7,J2.yld j H6 y H7->g2 y σ5 H7 fun σ8 H8=>te σ8 H8 λz H9=>H9 p=some (.lst ys)/\∃m2',m2'<m2/\W2 (j+1) m2' (ys++[z]) σ8 (upd H9 p (.lst (ys++[z]))))))
def YF(own:Nat)(idx:List Nat)(wi:TI)(g:TG)(wi2:TI)(g2:TG)(te:TE):TE:=fun σ H Q=>wi σ H λJ H1=>∀p H',H1 p=none->Same H1 H'->H' p=some (.lst [])->
 CompGo2 (List.replicate own none++idx.map λj=>(σ[j]?).getD none) J g wi2 g2 te Q p H'
section
variable{X:Cx}
end
end Lw
namespace LwD
open PySem PySem.Spec PyProof.Rows L2
section
variable{prog:Program}{w:World}{A:Around}{E:Value->Shared->Prop}{s:Shared}{d it vw:Addr}{es:Array DictEntry}{ep i:Nat}
end
section
variable{X:Cx}
end
end LwD
namespace Lw
open PySem PySem.Spec PyProof.Rows L2
section
variable{X:Cx}
theorem JJ{i:Nat}{y:Str}{py spos:Pos}(hN:X.N.Nodup)(hi:X.N[i]? = some y)(hx:Loc X.env.scope y){own:Nat}{idx:List Nat}{N:List Str}{elt target iter c:Expr}{scope:Scope}{cl:List (Str×Addr)}{pos:Pos}{wi:TI}{g:TG}{tt:TT}{te:TE}(hc:X.calm=true)
  (hk:scope.kind=.function) (hclos:closureFor scope X.env=pure cl) (hcell:∀x∈scope.names,x.2≠.cell) (hnames:∀x∈scope.names,x.2=.local->scope.names.lookup x.1=some .local)
  (hsub:∀x c,cl.lookup x=some c->X.env.cells.lookup x=some c) (hhas:∀x,((relabel scope X.env).names.lookup x=some .cell∨(relabel scope X.env).names.lookup x=some .free)->∃c,cl.lookup x=some c)
  (hlen:N.length=own+idx.length)
  (hidx:∀(k j:Nat) (x:Str),idx[k]? = some j->N[own+k]? = some x->X.N[j]? = some x/\X.env.kindOf x=some .cell/\(relabel scope X.env).names.lookup x=some .cell/\X.env.scope.names.lookup x=some .cell)
  (hit:PI X target iter wi) (hg:∀C fp s2 H2,PG (jO X N scope cl C fp s2 H2) target g) (ht:∀C fp s2 H2,PT (jO X N scope cl C fp s2 H2) c tt) (he:∀C fp s2 H2,PE (jO X N scope cl C fp s2 H2) elt te)
  (hsw:swapsWith (.ListComp elt [⟨target,iter,[c],0⟩] scope pos) (some (.Name y py)) spos.line X.env=pure true:=by rfl)
  (hs:∀x,foldedSetIterable iter X.env x=pure x:=by intro _;rfl) (hfn:X.fn y=true∨X.env.scope.names.lookup y=some .local:=by first | exact .inl rfl | exact .inr rfl | assumption):PS X (.Assign [.Name y py] (.ListComp elt [⟨target,iter,[c],0⟩] scope pos) spos) (xO (YE own idx wi g tt te) (jP i)):=by
 intro pins s σ H D I h;rw[exec_Assign_Name_used _ _ _ _ hsw];refine tE (wpAny_standAt (tE ?_));show wpAny _ X.A (do let _<-comprehension (.ListComp elt [⟨target,iter,[c],0⟩] scope pos) scope X.env _ (newList []) false (eval iter X.env) (some (assign (.Name y py) X.env))) _ _ s;refine tE (tG (wpAny_comprehension_free (use:=some (assign (.Name y py) X.env)) (Q:=λ_ s'=>∃σ' H',Inv X pins σ' H' s'/\D.nx σ' H') rfl hs hclos hk hnames (thn (hit pins s σ H _ I h) λv s1 h1=>thn h1 λitv s2 h2=>?_)) (λ_ s' hq=>tF (tF hq)) λ_ _ e=>e);obtain⟨it,fp,tn,J,H1,e,I2,T,st2,f2,hR⟩:=h2;subst e;have hlt:∀b∈fp,b<s2.heap.objs.size:=λb hb=>by
  obtain⟨o,ho,_⟩:=T.obj 0 _ st2 b hb;exact nJ ho
 refine wpAny_newObj_type (wpAny_newFunctionEnv hcell (by intro y hy;simp at hy) (λh₁ hns₁ hsb₁=>?_) hk);dsimp only at hns₁ hsb₁ ⊢;generalize hHH:s2.heap.push { cls:=.type "list",dict:=none,data:=.seq ([]:List Value).toArray } = HH at hns₁ hsb₁ ⊢;have hCe:HH.objs.size=s2.heap.objs.size+1:=by rw[<-hHH,mZ]
 have hDC:s2.heap.objs.size≠HH.objs.size:=by rw[hCe];exact nM (mO _)
 have hCle:s2.heap.objs.size<=HH.objs.size:=by rw[hCe];exact Nat.le_succ _
 have old:∀b o,s2.heap.get? b=some o->h₁.get? b=some o:=λb o e=>hsb₁.extBut b o (by rw[hCe];exact nM (Nat.lt_succ_of_lt (nJ e))) (uZ _ (hHH▸uZ _ e));have hD:h₁.get? s2.heap.objs.size=some { cls:=.type "list",dict:=none,data:=.seq ([]:List Value).toArray } :=hsb₁.extBut _ _ hDC (uZ _ (hHH▸gO _ rfl));have nD:H1 s2.heap.objs.size=none:=I2.hok.fresh uO ;obtain⟨W,⟨m0,w0⟩,turn⟩:=hR s2.heap.objs.size _ nD (kD (.lst []) nD) jG;generalize hσ:(List.replicate own none++idx.map λj=>(σ[j]?).getD none:L2.St)=σ0 at turn;have lσ:σ0.length=N.length:=by rw[<-hσ,gS,gC,mP,hlen]
 have ok:=yH (N:=N) (cl:=cl) (C:=HH.objs.size) I2 hk hsub hhas hCle f2 hlt;have oldC:∀c v,s2.heap.IsCell c v->h₁.IsCell c v:=λc v ⟨o,ho,hd⟩=>⟨o,old c o ho,hd⟩;have I4:Inv (jO X N scope cl HH.objs.size fp s2 H1) [] σ0 (upd H1 s2.heap.objs.size (.lst [])) { s2 with heap:=h₁,toks:=s2.toks+([]:List (Str×Value)).length } :=by
  refine⟨ok,rfl,I2.bare,Un.laid old uO nD,⟨_,hns₁,λi x v e1 e2 _=>?_⟩,(λx c z=>?_), ?_,(λx c z=>?_),(λp hp=>nomatch hp),I2.hok.laid old uO ?_,lσ⟩
  ·
   rw[<-hσ]at e2;by_cases hi':i<own
   ·rw[uV (by rw[gC];exact hi'),List.getElem?_replicate]at e2;split at e2<;>cases e2
   ·obtain⟨k,rfl⟩:∃k,i=own+k:=⟨i-own,by omega⟩;rw[uS (by rw[gC];omega),gC,Nat.add_sub_cancel_left,hJ]at e2;cases ej:idx[k]? with
    | none=>rw[ej]at e2;cases e2
    | some j=>
     rw[ej,Option.map_some]at e2;have e2:=Option.some.inj e2;obtain⟨n1,n2,n3,n4⟩:=hidx k j x ej e1;have e3:σ[j]? = some (some v):=by
      cases q:σ[j]? with
      | none=>rw[q]at e2;cases e2
      | some y=>rw[q,Option.getD_some]at e2;rw[e2]
     obtain⟨m,hm,hl⟩:=I2.loc;obtain⟨u,ru,lk⟩:=hl j x v n1 e3 (.inr (.inl n4));refine⟨u,ru, ?_⟩;rcases lk with⟨kl,_⟩ | ⟨_,c,hcl,hic⟩
     ·rw[n2]at kl;cases kl
     ·obtain⟨c',hc'⟩:=hhas x (.inl n3);have:c'=c:=Option.some.inj ((hsub x c' hc').symm.trans hcl);subst this;exact .inr ⟨.inl n3,c',hc',oldC _ _ hic⟩
  ·obtain⟨v,hv⟩:=I2.cell x c (hsub x c z);exact⟨v,oldC _ _ hv⟩
  ·show(upd H1 s2.heap.objs.size (.lst [])) HH.objs.size=none;rw[jM (Ne.symm hDC)];exact I2.hok.fresh hCle
  ·obtain⟨v,hv⟩:=I2.cell x c (hsub x c z);show(upd H1 s2.heap.objs.size (.lst [])) c=none;rw[jM (nM hv.lt)];exact I2.freeC x c (hsub x c z)
  ·exact⟨by show 0<=sizeLine;decide,[],0,.nil,hD⟩
 have stat:∀{H':Hp},(∀b∈fp,H' b=none)->∀b∈fp,FpOk (jO X N scope cl HH.objs.size fp s2 H1) [] H' b:=λhn b hb=>
  ⟨hn b hb,(ok.exf b hb).1,ok.exfs b hb,.inl hb,(ok.exf b hb).2,λp hp=>nomatch hp⟩
 have st4:tn 0 h₁:=T.keep _ _ _ st2 λb _ o e=>old b o e;have fr4:∀b∈fp,(upd H1 s2.heap.objs.size (.lst [])) b=none:=λb hb=>by
  rw[jM (nM (hlt b hb))];exact(f2 b hb).1
 have loop:codeAny (model X.prog X.w) X.A (.compLoop (.ListComp elt [⟨target,iter,[c],0⟩] scope pos) 0 (.ref it) (.ref s2.heap.objs.size) (compEnvC scope cl HH.objs.size X.env))
   (compPost (model X.prog X.w) X.A X.xe (some (assign (.Name y py) X.env)) (λ_ s'=>∃σ' H',Inv X pins σ' H' s'/\D.nx σ' H') (.ref s2.heap.objs.size) HH.objs.size) { s2 with heap:=h₁,toks:=s2.toks+([]:List (Str×Value)).length } :=by
  refine LF (λn s'=>∃i ys H',Inv (jO X N scope cl HH.objs.size fp s2 H1) [] σ0 H' s'/\tn i s'.heap/\(∀b∈fp,H' b=none)/\W i n ys H') ?_ m0 ⟨0,[],_,I4,st4,fr4,w0⟩;rintro n s3 ⟨i,ys,H3,I3,st3,fr3,w3⟩;obtain⟨hp3,hz3,hw⟩:=turn i n ys H3 w3;rcases hw with⟨stop,qn⟩ | ⟨go,step⟩
  ·refine thn (T.done (jO X N scope cl HH.objs.size fp s2 H1) rfl rfl rfl hc i [] s3 _ H3 _ I3 (stat fr3) st3 stop) λr s4 ⟨hr,I5⟩=>?_;subst hr;obtain⟨m,hm,_⟩:=id I5.loc;have U:=I5.base;have fC:H3 HH.objs.size=none:=I5.free;have IX:Inv X pins σ H3 s4:=I2.call' (ch:=fp) (s':=s4) I5.os U I5.hok I5.bare (λb hb=>⟨(f2 b hb).2.2.2.1,(f2 b hb).2.1,(f2 b hb).2.2.2.2.1,(f2 b hb).2.2.2.2.2⟩);have ltC:∀b,b<s2.heap.objs.size->b≠HH.objs.size:=λb hb=>nM (gU hb hCle);show wpAny _ X.A (assign (.Name y py) X.env (.ref s2.heap.objs.size)) _ _ s4;refine wpAny_assign_Name (zC IX hN hi hx (v:=.ref s2.heap.objs.size) rfl (λs5 I6 ⟨a,sb,ha⟩=>?_) hfn);have aC:a≠HH.objs.size:=by
    rcases ha with ha | ha
    ·rw[ha];exact ltC _ I2.lt
    ·obtain⟨v,hv⟩:=I2.cell y a ha;exact ltC _ hv.lt
   refine⟨m,hm.sameBut sb (Ne.symm aC),λh' sb'=>⟨_,H3, ?_,qn⟩⟩;refine I6.turned (it:=HH.objs.size) (t':=s5.toks) (λb o hb e=>sb'.extBut b o hb e) fC (Ne.symm (ltC _ I2.lt)) (.inr (nK I2.sz hCle)) (λx c hc=>?_) (λp hp=>?_)
   ·obtain⟨v,hv⟩:=I2.cell x c hc;exact ltC _ hv.lt
   ·exact ltC _ (nJ (I2.pin p hp).1)
  ·refine tG (T.item (jO X N scope cl HH.objs.size fp s2 H1) rfl rfl rfl hc i [] s3 _ H3 (λ_ _=>False) I3 (stat fr3) st3 go) (λr s4 ⟨u,hr,h4⟩=>?_) λ_ _ z=>z.elim;subst hr;refine tG h4 (λ_ s5 ⟨x,H5,I5,r5,y5,st5,fr5⟩=>?_) λ_ _ z=>z.elim;have I5':=I5.pinned (stat fr5) (T.obj _ _ st5);refine tG (hg _ _ _ _ _ s5 _ H5 x u _ I5' r5 (step x H5 y5)) (λ_ s6 ⟨σ6,H6,I6,kp6,q6⟩=>?_) λ_ _ z=>z.elim;refine tG (ht _ _ _ _ _ s6 σ6 H6 _ I6 q6) (λb s6' ⟨H6',I6',q6'⟩=>?_) λ_ _ z=>z.elim;cases b with
   | false=>
    rw[tH gT]at q6' ⊢;obtain⟨m',hm',w7⟩:=q6';refine⟨m',hm',i+1,_,_,(I6'.unpinned).weak (by rw[lσ,I6'.len];rfl) kp6,T.keep _ _ _ st5 λb hb o e=>(I6'.pin (b,o) (gB _ (gB _ (kG hb e)))).1,λb hb=>?_,w7⟩;obtain⟨o,e,d⟩:=T.obj _ _ st5 b hb;exact(I6'.pin (b,o) (gB _ (gB _ (kG hb e)))).2.1
   | true=>
    rw[tI rfl]at q6' ⊢;refine tG (he _ _ _ _ _ s6' σ6 H6' _ I6' q6') (λy s7 ⟨yv,H7,I7,r7,q7⟩=>?_) λ_ _ z=>z.elim;obtain⟨e7,m',hm',w7⟩:=q7;refine tG (kR (X:=jO X N scope cl HH.objs.size fp s2 H1) _ s7 σ6 H7 (.ref s2.heap.objs.size) [yv] (.ref s2.heap.objs.size) [y] (λ_ H8=>H8=upd H7 s2.heap.objs.size (.lst (ys++[yv]))) I7 rfl (.cons r7 .nil) ⟨_,ys,yv,rfl,rfl,e7,hz3,rfl⟩) (λ_ s8 ⟨_,H8,I8,_,q8⟩=>?_) λ_ _ z=>z.elim;subst q8;refine⟨m',hm',i+1,_,_,(I8.unpinned).weak (by rw[lσ,I8.len];rfl) kp6,T.keep _ _ _ st5 λb hb o e=>(I8.pin (b,o) (gB _ (gB _ (kG hb e)))).1,λb hb=>?_,w7⟩;obtain⟨o,e,d⟩:=T.obj _ _ st5 b hb;exact(I8.pin (b,o) (gB _ (gB _ (kG hb e)))).2.1
 exact codeAny_compStart_list loop (T.self _ 0 _ _ _ st4 loop)
end
end Lw
namespace L2
open PySem PySem.Spec PyProof.Rows
section
variable{X:Cx}
end
end L2
namespace LwB
def ev:List Rat->Rat->Rat
 | [],_=>0
 | a::r,x=>a+x*ev r x
theorem ev_zip(b s x:Rat):∀(l m:List Rat),l.length=m.length->ev (List.zipWith (λp q=>b*p+s*q) l m) x=b*ev l x+s*ev m x
 | [],[],_=>by simp [ev];grind
 | p::l,q::m,h=>by
  have ih:=ev_zip b s x l m (by simpa using h);simp only[List.zipWith_cons_cons,ev,ih]
  grind
def ch:Nat->Nat->Int
 | _,0=>1
 | 0,_+1=>0
 | n+1,k+1=>ch n k+ch n (k+1)
theorem NA:∀(n k:Nat),n<k->ch n k=0
 | 0,k+1,_=>rfl
 | n+1,k+1,h=>by
  show ch n k+ch n (k+1)=0;rw[NA n k (by omega),NA n (k+1) (by omega)]
  rfl
theorem BN(n:Nat):ch n 0=1:=by cases n<;>rfl
theorem BO:∀(n k:Nat),ch n (k+1)*((k:Int)+1)=ch n k*((n:Int)-k)
 | 0,0=>by simp [ch]
 | 0,k+1=>by simp [ch]
 | n+1,0=>by
  have:=BO n 0;show(ch n 0+ch n 1)*_=1*_;rw[BN]at this ⊢;simp at this ⊢;omega
 | n+1,k+1=>by
  have h1:=BO n k;have h2:=BO n (k+1);show(ch n (k+1)+ch n (k+1+1))*_=(ch n k+ch n (k+1))*_
  push_cast at h1 h2 ⊢
  grind
def ffv(n:Nat):Nat->Int
 | 0=>1
 | k+1=>ffv n k*((n:Int)-k)
def fct:Nat->Int
 | 0=>1
 | k+1=>fct k*((k:Int)+1)
theorem zP:∀k,0<fct k
 | 0=>by decide
 | k+1=>nY (zP k) (by omega)
theorem XJ(n:Nat):∀k,ffv n k=ch n k*fct k
 | 0=>by rw[BN];rfl
 | k+1=>by
  have:=BO n k;show ffv n k*_=ch n (k+1)*(fct k*_);rw[XJ n k]
  grind
theorem QE(n:Nat):∀k,k<=n->ffv n k*fct (n-k)=fct n
 | 0,_=>by simp [ffv]
 | k+1,h=>by
  have ih:=QE n k (by omega);obtain⟨d,hd⟩:∃d,n-k=d+1:=⟨n-k-1,by omega⟩;have:n-(k+1)=d:=by omega
  rw[hd]at ih;rw[this,<-ih];show ffv n k*((n:Int)-k)*fct d=ffv n k*(fct d*((d:Int)+1));rw[show(n:Int)-k=(d:Int)+1 by omega]
  grind
theorem ch_fct{n k:Nat}(h:k<=n):ch n k*fct k*fct (n-k)=fct n:=by rw[<-XJ];exact QE n k h
def lc(t s:Rat):Nat->(Nat->Rat)->Rat
 | 0,u=>u 0
 | n+1,u=>s*lc t s n u+t*lc t s n λi=>u (i+1)
theorem HY(t s:Rat):∀(n:Nat) (u v:Nat->Rat),lc t s n (λi=>u i+v i)=lc t s n u+lc t s n v
 | 0,u,v=>rfl
 | n+1,u,v=>by
  show s*lc t s n (λi=>u i+v i)+t*lc t s n (λi=>u (i+1)+v (i+1))=_;rw[HY t s n u v,HY t s n (λi=>u (i+1)) λi=>v (i+1)];show _=s*lc t s n u+t*lc t s n (λi=>u (i+1))+(s*lc t s n v+t*lc t s n (λi=>v (i+1)))
  grind
def sm(f:Nat->Rat):Nat->Rat
 | 0=>0
 | k+1=>sm f k+f k
theorem vA{f g:Nat->Rat} :∀(n:Nat),(∀k,k<n->f k=g k)->sm f n=sm g n
 | 0,_=>rfl
 | n+1,h=>by
  show sm f n+f n=sm g n+g n;rw[vA n λk hk=>h k (by omega),h n (by omega)]
theorem BX(a b:Rat)(f g:Nat->Rat):∀n,sm (λk=>a*f k+b*g k) n=a*sm f n+b*sm g n
 | 0=>by simp [sm];grind
 | n+1=>by
  show sm (λk=>a*f k+b*g k) n+(a*f n+b*g n)=a*(sm f n+f n)+b*(sm g n+g n);rw[BX a b f g n]
  grind
theorem BW(f:Nat->Rat):∀n,sm f (n+1)=f 0+sm (λk=>f (k+1)) n
 | 0=>by simp [sm];grind
 | n+1=>by
  show sm f (n+1)+f (n+1)=f 0+(sm (λk=>f (k+1)) n+f (n+1));rw[BW f n]
  grind
def wt(t s:Rat):Nat->Nat->Rat
 | 0,0=>1
 | 0,_+1=>0
 | n+1,0=>s*wt t s n 0
 | n+1,k+1=>s*wt t s n (k+1)+t*wt t s n k
theorem FP(t s:Rat):∀(n k:Nat),n<k->wt t s n k=0
 | 0,k+1,_=>rfl
 | n+1,k+1,h=>by
  show s*wt t s n (k+1)+t*wt t s n k=0;rw[FP t s n k (by omega),FP t s n (k+1) (by omega)]
  grind
theorem NG(t s:Rat):∀(n k:Nat),k<=n->wt t s n k=(ch n k:Rat)*(t^k*s^(n-k))
 | 0,0,_=>by simp [wt,ch]
 | n+1,0,_=>by
  show s*wt t s n 0=_;rw[NG t s n 0 (by omega),BN,BN,Nat.sub_zero,Nat.sub_zero,Rat.pow_succ]
  grind
 | n+1,k+1,h=>by
  show s*wt t s n (k+1)+t*wt t s n k=((ch n k+ch n (k+1):Int):Rat)*_;rw[NG t s n k (by omega),Rat.intCast_add,show n+1-(k+1)=n-k by omega,Rat.pow_succ];by_cases e:k+1<=n
  ·obtain⟨d,hd⟩:∃d,n-k=d+1:=⟨n-k-1,by omega⟩;rw[NG t s n (k+1) e,show n-(k+1)=d by omega,hd,Rat.pow_succ,Rat.pow_succ]
   grind
  ·rw[FP t s n (k+1) (by omega),NA n (k+1) (by omega)];have:((0:Int):Rat)=0:=rfl;rw[this]
   grind
theorem PD(t s:Rat):∀(n:Nat) (u:Nat->Rat),lc t s n u=sm (λk=>u k*wt t s n k) (n+1)
 | 0,u=>by simp [lc,sm,wt];grind
 | n+1,u=>by
  show s*lc t s n u+t*lc t s n (λi=>u (i+1))=_;rw[PD t s n u,PD t s n λi=>u (i+1),BW _ (n+1)];have e:sm (λk=>u (k+1)*wt t s (n+1) (k+1)) (n+1)=s*sm (λk=>u (k+1)*wt t s n (k+1)) (n+1)+t*sm (λk=>u (k+1)*wt t s n k) (n+1):=by
   rw[<-BX];refine vA _ λk _=>?_;show u (k+1)*(s*wt t s n (k+1)+t*wt t s n k)=_
   grind
  rw[e];have e2:=BW (λk=>u k*wt t s n k) (n+1);have e3:sm (λk=>u k*wt t s n k) (n+1+1)=sm (λk=>u k*wt t s n k) (n+1):=by
   show sm _ (n+1)+u (n+1)*wt t s n (n+1)=_;rw[FP t s n (n+1) (by omega)]
   grind
  rw[e3]at e2;rw[e2];show _=u 0*(s*wt t s n 0)+_
  grind
theorem yU(t s:Rat):∀(n:Nat) {u v:Nat->Rat},(∀k,k<=n->u k=v k)->lc t s n u=lc t s n v
 | 0,u,v,h=>h 0 uO 
 | n+1,u,v,h=>by
  show s*lc t s n u+t*lc t s n (λi=>u (i+1))=s*lc t s n v+t*lc t s n (λi=>v (i+1));rw[yU t s n λk hk=>h k (by omega),yU (u:=λi=>u (i+1)) (v:=λi=>v (i+1)) t s n λk hk=>h (k+1) (by omega)]
theorem AK(t s c:Rat):∀(n:Nat) (u:Nat->Rat),lc t s n (λi=>c*u i)=c*lc t s n u
 | 0,_=>rfl
 | n+1,u=>by
  show s*lc t s n (λi=>c*u i)+t*lc t s n (λi=>c*u (i+1))=c*(s*lc t s n u+t*lc t s n λi=>u (i+1));rw[AK t s c n u,AK t s c n λi=>u (i+1)]
  grind
theorem pow_addQ(x:Rat)(a:Nat):∀b:Nat,x^(a+b)=x^a*x^b
 | 0=>by rw[nU,Rat.pow_zero,nZ]
 | b+1=>by rw[<-Nat.add_assoc,Rat.pow_succ,pow_addQ x a b,Rat.pow_succ,nG]
theorem KE(x y:Rat):∀b:Nat,(x*y)^b=x^b*y^b
 | 0=>by rw[Rat.pow_zero,Rat.pow_zero,Rat.pow_zero,nZ]
 | b+1=>by rw[Rat.pow_succ,KE x y b,Rat.pow_succ,Rat.pow_succ];grind
def fo1(u a:Rat)(g:Nat->Rat):Nat->Rat:=λj=>u*g j+a*g (j+1)
def foF(u:Rat)(tops:List Rat)(g:Nat->Rat):Nat->Rat:=tops.foldl (λg a=>fo1 u a g) g
theorem fo1_comm(u a b:Rat)(g:Nat->Rat):fo1 u a (fo1 u b g)=fo1 u b (fo1 u a g):=by
 funext j
 unfold fo1
 grind
theorem QC(u a:Rat):∀(l:List Rat) (g:Nat->Rat),foF u l (fo1 u a g)=fo1 u a (foF u l g)
 | [],_=>rfl
 | b::l,g=>by
  show foF u l (fo1 u b (fo1 u a g))=fo1 u a (foF u l (fo1 u b g));rw[fo1_comm,QC u a l]
def twoT(low high:Rat)(m k:Nat):List Rat:=List.replicate (m-k) low++List.replicate k high
theorem IG{t s u low high:Rat}(h:s+t=1):∀(m:Nat) (g:Nat->Rat),lc t s m (λk=>foF u (twoT low high m k) g 0)=lc (s*low+t*high) u m g
 | 0,_=>rfl
 | m+1,g=>by
  have e1:lc t s m (λk=>foF u (twoT low high (m+1) k) g 0)=lc t s m (λk=>foF u (twoT low high m k) (fo1 u low g) 0):=yU _ _ _ λk hk=>by
   unfold twoT;rw[show m+1-k=(m-k)+1 by omega,List.replicate_succ]
   rfl
  have e2:lc t s m (λk=>foF u (twoT low high (m+1) (k+1)) g 0)=lc t s m (λk=>foF u (twoT low high m k) (fo1 u high g) 0):=yU _ _ _ λk hk=>by
   unfold twoT;rw[show m+1-(k+1)=m-k by omega,List.replicate_succ',<-hZ,QC];unfold foF;rw[mE]
   rfl
  show s*lc t s m (λk=>foF u (twoT low high (m+1) k) g 0)+t*lc t s m (λk=>foF u (twoT low high (m+1) (k+1)) g 0)=u*lc (s*low+t*high) u m g+(s*low+t*high)*lc (s*low+t*high) u m λi=>g (i+1);rw[e1,e2,IG h m,IG h m,<-AK,<-AK,<-HY,<-AK,<-AK,<-HY];refine yU _ _ _ λk _=>?_;unfold fo1;have:s=1-t:=by grind
  subst this
  grind
def lnG(m:Nat)(a:Nat->Rat):Nat->Rat:=λj=>a j*((fct j:Rat)*(fct (m-j):Rat))
def lnN(u low high:Rat)(m:Nat)(a:Nat->Rat)(k:Nat):Rat:=foF u (twoT low high m k) (lnG m a) 0
theorem WN{t s u low high x:Rat}(h:s+t=1)(hx:s*low+t*high=u*x)(m:Nat)(a:Nat->Rat) :
  sm (λk=>lnN u low high m a k*wt t s m k) (m+1)=(fct m:Rat)*u^m*sm (λk=>a k*x^k) (m+1):=by
 have h1:=IG (u:=u) (low:=low) (high:=high) h m (lnG m a);rw[PD,PD,hx]at h1;refine h1.trans ?_;have:=BX ((fct m:Rat)*u^m) 0 (λk=>a k*x^k) (λ_=>0) (m+1);have e:sm (λk=>lnG m a k*wt (u*x) u m k) (m+1)=sm (λk=>(fct m:Rat)*u^m*(a k*x^k)+0*0) (m+1):=vA _ λk hk=>by
  rw[NG _ _ _ _ (by omega)];unfold lnG;rw[<-ch_fct (show k<=m by omega),show u^m=u^k*u^(m-k) by rw[<-pow_addQ];congr 1;omega,KE];simp only[mT]
  grind
 rw[e,this]
 grind
def smP:List Nat->(List Nat->Rat)->Rat
 | [],f=>f []
 | n::ns,f=>sm (λj=>smP ns λp=>f (j::p)) n
def wtP:List (Nat->Rat)->List Nat->Rat
 | φ::φs,j::p=>φ j*wtP φs p
 | _,_=>1
theorem smP_congr:∀(ns:List Nat) {f g:List Nat->Rat},(∀p,p.length=ns.length->(∀i:Nat,i<ns.length->p.getD i 0<ns.getD i 0)->f p=g p)->smP ns f=smP ns g
 | [],f,g,h=>h [] rfl λi hi=>absurd hi (Nat.not_lt_zero _)
 | n::ns,f,g,h=>by
  refine vA _ λj hj=>smP_congr ns λp hp hl=>h (j::p) (by simp [hp]) λi hi=>?_;cases i with
  | zero=>exact hj
  | succ i=>exact hl i (by simpa using hi)
theorem GJ(a b:Rat):∀(ns:List Nat) (f g:List Nat->Rat),smP ns (λp=>a*f p+b*g p)=a*smP ns f+b*smP ns g
 | [],f,g=>rfl
 | n::ns,f,g=>by
  show sm (λj=>smP ns λp=>a*f (j::p)+b*g (j::p)) n=_;rw[vA (g:=λj=>a*smP ns (λp=>f (j::p))+b*smP ns (λp=>g (j::p))) n λj _=>GJ a b ns _ _,BX]
  rfl
theorem JA:∀(ns:List Nat),smP ns (λ_=>0)=0
 | []=>rfl
 | n::ns=>by
  show sm (λj=>smP ns λ_=>0) n=0;rw[JA ns];induction n with
  | zero=>rfl
  | succ n ih=>show sm (λ_=>0) n+0=0;rw[ih,nO]
theorem BY(ns:List Nat)(f:Nat->List Nat->Rat):∀n,sm (λj=>smP ns (f j)) n=smP ns λp=>sm (λj=>f j p) n
 | 0=>(JA ns).symm
 | n+1=>by
  show sm (λj=>smP ns (f j)) n+smP ns (f n)=smP ns λp=>sm (λj=>f j p) n+f n p;rw[BY ns f n];have:=GJ 1 1 ns (λp=>sm (λj=>f j p) n) (f n);rw[Rat.one_mul,Rat.one_mul]at this;rw[<-this];refine smP_congr ns λp _ _=>?_;rw[Rat.one_mul,Rat.one_mul]
theorem MB(c:Rat)(f:Nat->Rat)(n:Nat):sm (λk=>c*f k) n=c*sm f n:=by
 have:=BX c 0 f (λ_=>0) n;rw[vA (f:=λk=>c*f k) (g:=λk=>c*f k+0*0) n λk _=>by grind,this]
 grind
theorem smP_mul(c:Rat)(ns:List Nat)(f:List Nat->Rat):smP ns (λp=>c*f p)=c*smP ns f:=by
 have:=GJ c 0 ns f (λ_=>0);rw[smP_congr (f:=λp=>c*f p) (g:=λp=>c*f p+0*0) ns λk _ _=>by grind,this]
 grind
def bxT(u low high:Rat)(m l:Nat)(T:List Nat->Rat):List Nat->Rat:=λp=>lnN u low high m (λj=>T (p.set l j)) (p.getD l 0)
theorem turn_sum{t s u low high x:Rat}(h:s+t=1)(hx:s*low+t*high=u*x):∀(ns:List Nat) (φs:List (Nat->Rat)) (l m:Nat) (T:List Nat->Rat),ns[l]? = some (m+1)->φs.length=ns.length->
  smP ns (λp=>bxT u low high m l T p*wtP (φs.set l (wt t s m)) p)=(fct m:Rat)*u^m*smP ns (λp=>T p*wtP (φs.set l (λk=>x^k)) p)
 | [],_,l,m,T,e,_=>by simp at e
 | n::ns,[],l,m,T,_,e=>by simp at e
 | n::ns,φ::φs,0,m,T,e,hl=>by
  cases e;show sm (λj=>smP ns λp=>lnN u low high m (λi=>T (i::p)) j*(wt t s m j*wtP φs p)) (m+1)=_*sm (λj=>smP ns λp=>T (j::p)*(x^j*wtP φs p)) (m+1);rw[BY,BY,<-smP_mul];refine smP_congr ns λp _ _=>?_;have:=WN h hx m λi=>T (i::p);rw[vA (g:=λk=>wtP φs p*(lnN u low high m (λi=>T (i::p)) k*wt t s m k)) (m+1) λk _=>by grind,MB,this,vA (f:=λj=>T (j::p)*(x^j*wtP φs p)) (g:=λk=>wtP φs p*(T (k::p)*x^k)) (m+1) λk _=>by grind,MB]
  grind
 | n::ns,φ::φs,l+1,m,T,e,hl=>by
  show sm (λj=>smP ns λp=>bxT u low high m l (λq=>T (j::q)) p*(φ j*wtP (φs.set l (wt t s m)) p)) n=_*sm (λj=>smP ns λp=>T (j::p)*(φ j*wtP (φs.set l λk=>x^k) p)) n;rw[<-MB];refine vA _ λj _=>?_;have:=turn_sum h hx ns φs l m (λq=>T (j::q)) e (by simpa using hl);rw[smP_congr (g:=λp=>φ j*(bxT u low high m l (λq=>T (j::q)) p*wtP (φs.set l (wt t s m)) p)) ns λp _ _=>by grind,smP_mul,this,smP_congr (f:=λp=>T (j::p)*(φ j*wtP (φs.set l λk=>x^k) p)) (g:=λp=>φ j*(T (j::p)*wtP (φs.set l λk=>x^k) p)) ns λp _ _=>by grind,smP_mul]
  grind
def plc:List Nat->List (List Nat)
 | []=>[[]]
 | n::ns=>(List.range n).flatMap λj=>(plc ns).map (j::·)
def szP:List Nat->Nat
 | []=>1
 | n::ns=>n*szP ns
theorem DI{α β:Type}(g:α->List β)(N:Nat)(hg:∀a,(g a).length=N):∀l:List α,(l.flatMap g).length=l.length*N
 | []=>by simp
 | a::l=>by rw[List.flatMap_cons,gS,hg,DI g N hg l,mL,nQ,Nat.add_comm]
theorem plc_len:∀ns,(plc ns).length=szP ns
 | []=>rfl
 | n::ns=>by
  show((List.range n).flatMap λj=>(plc ns).map (j::·)).length=n*szP ns;rw[DI _ (szP ns) λj=>by rw[mP,plc_len ns],mC]
theorem QD{α β:Type}(g:α->List β){N:Nat}(hg:∀a,(g a).length=N):∀(l:List α) {j i:Nat} {a:α},l[j]? = some a->i<N->(l.flatMap g)[j*N+i]? = (g a)[i]?
 | [],j,i,a,e,_=>by simp at e
 | b::l,0,i,a,e,h=>by
  cases e;rw[List.flatMap_cons,Nat.zero_mul,Nat.zero_add,uV (by rw[hg];exact h)]
 | b::l,j+1,i,a,e,h=>by
  rw[List.flatMap_cons,uS (by rw[hg,nQ];omega),hg,nQ,show j*N+N+i-N=j*N+i by omega];exact QD g hg l e h
theorem MI{n:Nat}{ns:List Nat}{j i:Nat}{p:List Nat}(hj:j<n)(h:(plc ns)[i]? = some p):(plc (n::ns))[j*szP ns+i]? = some (j::p):=by
 have hi:=(uU.mp h).1;rw[plc_len]at hi;have:=QD (λj=>(plc ns).map (j::·)) (N:=szP ns) (λj=>by rw[mP,plc_len]) (List.range n) (j:=j) (i:=i) (a:=j) (by rw[gP hj]) hi;refine this.trans ?_;rw[hJ,h]
 rfl
theorem HJ{n:Nat}{ns:List Nat}{at':Nat}{q:List Nat}(h:(plc (n::ns))[at']? = some q):∃j i p,j<n/\at'=j*szP ns+i/\(plc ns)[i]? = some p/\q=j::p:=by
 have hl:=(uU.mp h).1;rw[plc_len]at hl;have hl':at'<n*szP ns:=hl;have hp:0<szP ns:=by
  rcases Nat.eq_zero_or_pos (szP ns)with z | z
  ·rw[z,Nat.mul_zero]at hl';omega
  ·exact z
 have hj:at'/szP ns<n:=(Nat.div_lt_iff_lt_mul hp).mpr hl';have hi:=Nat.mod_lt at' hp;have e:at'=at'/szP ns*szP ns+at'%szP ns:=by rw[Nat.mul_comm];exact(Nat.div_add_mod ..).symm
 obtain⟨p,hpx⟩:∃p,(plc ns)[at'%szP ns]? = some p:=⟨_,uW (by rw[plc_len];exact hi)⟩;refine⟨at'/szP ns,at'%szP ns,p,hj,e,hpx, ?_⟩;have:=MI hj hpx;rw[<-e,h]at this;exact Option.some.inj this
def strd(ns:List Nat)(l:Nat):Nat:=szP (ns.drop (l+1))
theorem plc_line:∀(ns:List Nat) (l:Nat) {at' k n:Nat} {q:List Nat},(plc ns)[at']? = some q->ns[l]? = some n->q.getD l 0=0->k<n->(plc ns)[at'+k*strd ns l]? = some (q.set l k)
 | [],l,at',k,n,q,_,e,_,_=>by simp at e
 | n::ns,0,at',k,n',q,h,e,z,hk=>by
  cases e;obtain⟨j,i,p,hj,rfl,hp,rfl⟩:=HJ h;have z:j=0:=z;subst z;show(plc (n::ns))[0*szP ns+i+k*szP ns]? = some (k::p);rw[Nat.zero_mul,Nat.zero_add,Nat.add_comm];exact MI hk hp
 | n::ns,l+1,at',k,n',q,h,e,z,hk=>by
  obtain⟨j,i,p,hj,rfl,hp,rfl⟩:=HJ h;have:=plc_line ns l hp e z hk;show(plc (n::ns))[j*szP ns+i+k*strd ns l]? = some (j::p.set l k);rw[Nat.add_assoc];exact MI hj this
theorem plc_in:∀(ns:List Nat) {q:List Nat},q∈plc ns↔q.length=ns.length/\∀i:Nat,i<ns.length->q.getD i 0<ns.getD i 0
 | [],q=>by
  constructor
  ·intro h;cases gW.mp h;exact⟨rfl,λi hi=>absurd hi (Nat.not_lt_zero _)⟩
  ·rintro⟨h,_⟩;exact gW.mpr (List.length_eq_zero_iff.mp h)
 | n::ns,q=>by
  show q∈(List.range n).flatMap (λj=>(plc ns).map (j::·))↔_;rw[List.mem_flatMap];constructor
  ·rintro⟨j,hj,h⟩;obtain⟨p,hp,rfl⟩:=nN.mp h;obtain⟨h1,h2⟩:=(plc_in ns).mp hp;refine⟨by simp [h1],λi hi=>?_⟩;cases i with
   | zero=>exact mW.mp hj
   | succ i=>exact h2 i (by simpa using hi)
  ·rintro⟨h1,h2⟩;cases q with
   | nil=>simp at h1
   | cons j p=>exact⟨j,mW.mpr (h2 0 (by simp)),nN.mpr ⟨p,(plc_in ns).mpr ⟨by simpa using h1,λi hi=>h2 (i+1) (by simpa using hi)⟩,rfl⟩⟩
theorem plc_inj:∀(ns:List Nat) {a b:Nat} {q:List Nat},(plc ns)[a]? = some q->(plc ns)[b]? = some q->a=b
 | [],a,b,q,h,k=>by
  have h1:=(uU.mp h).1;have h2:=(uU.mp k).1;have e:(plc []).length=1:=rfl;omega
 | n::ns,a,b,q,h,k=>by
  obtain⟨j,i,p,hj,rfl,hp,rfl⟩:=HJ h;obtain⟨j',i',p',hj',rfl,hp',e⟩:=HJ k;cases e;rw[plc_inj ns hp hp']
def smL:List Rat->Rat
 | []=>0
 | x::l=>x+smL l
theorem NS:∀(a b:List Rat),smL (a++b)=smL a+smL b
 | [],b=>by show smL b=0+smL b;rw[Rat.zero_add]
 | x::a,b=>by show x+smL (a++b)=x+smL a+smL b;rw[NS a b,Rat.add_assoc]
theorem smP_list:∀(ns:List Nat) (f:List Nat->Rat),smP ns f=smL ((plc ns).map f)
 | [],f=>by show f []=f []+0;rw[nO]
 | n::ns,f=>by
  show sm (λj=>smP ns λp=>f (j::p)) n=smL (((List.range n).flatMap λj=>(plc ns).map (j::·)).map f);induction n with
  | zero=>rfl
  | succ n ih=>
   show sm _ n+smP ns (λp=>f (n::p))=_;rw[ih,List.range_succ,List.flatMap_append,mQ,NS,smP_list ns]
   congr 1
   simp only[List.flatMap_cons,List.flatMap_nil,List.append_nil,nP]
   rfl
def plS(P:List (List Nat))(n:Nat):List (List Nat):=P.flatMap λp=>(List.range n).map λj=>p++[j]
theorem yZ{α β γ:Type}(f:α->List β)(g:β->List γ):∀l:List α,(l.flatMap f).flatMap g=l.flatMap λa=>(f a).flatMap g
 | []=>rfl
 | a::l=>by rw[List.flatMap_cons,List.flatMap_append,List.flatMap_cons,yZ f g l]
theorem JL:∀(ns:List Nat) (P:List (List Nat)),ns.foldl plS P=P.flatMap λp=>(plc ns).map (p++·)
 | [],P=>by
  show P=P.flatMap λp=>[p++[]];induction P with
  | nil=>rfl
  | cons p P ih=>rw[List.flatMap_cons,<-ih];simp
 | n::ns,P=>by
  show ns.foldl plS (plS P n)=_;rw[JL ns];unfold plS;rw[yZ]
  congr 1
  funext p
  show((List.range n).map λj=>p++[j]).flatMap (λq=>(plc ns).map (q++·))=((List.range n).flatMap λj=>(plc ns).map (j::·)).map (p++·);rw[List.map_flatMap,List.flatMap_map]
  congr 1
  funext j
  rw[nP];refine List.map_congr_left λq _=>?_;simp
theorem plS_all(ns:List Nat):ns.foldl plS [[]]=plc ns:=by
 rw[JL];simp
theorem plS_len(P:List (List Nat))(n:Nat):(plS P n).length=P.length*n:=DI _ n (λp=>by rw[mP,mC]) P
theorem szP_take:∀(ns:List Nat) (i:Nat),(∀n∈ns,1<=n)->szP (ns.take i)<=szP ns
 | [],i,_=>by simp
 | n::ns,0,h=>by
  show 1<=n*szP ns;have h1:=h n (gY ..);have h2:1<=szP ns:=by
   have:=szP_take ns 0 λk hk=>h k (gI _ hk);simpa [szP]using this
  exact mX h1 h2
 | n::ns,i+1,h=>gQ n (szP_take ns i λk hk=>h k (gI _ hk))
def startsL(ns:List Nat)(l:Nat):List Nat:=(List.range (szP ns)).filter λa=>((plc ns).getD a []).getD l 0==0
theorem start_of{ns:List Nat}{l a n:Nat}{p:List Nat}(hn:ns[l]? = some n)(h:(plc ns)[a]? = some p):∃s,s∈startsL ns l/\(plc ns)[s]? = some (p.set l 0)/\a=s+p.getD l 0*strd ns l:=by
 have pm:=(plc_in ns).mp (gH h);have ll:l<ns.length:=(uU.mp hn).1;have nD:ns.getD l 0=n:=by rw[uR,hn];rfl
 have pl:=pm.2 l ll;rw[nD]at pl;have qm:p.set l 0∈plc ns:=(plc_in ns).mpr ⟨by rw[List.length_set];exact pm.1,λi hi=>by
  rw[uR,List.getElem?_set];by_cases c:l=i
  ·subst c;rw[tI rfl,tI (by rw[pm.1];exact ll),nD];show 0<n;omega
  ·rw[tH c,<-uR];exact pm.2 i hi⟩
 obtain⟨s,hs⟩:=gF.mp qm;have z:(p.set l 0).getD l 0=0:=by
  rw[uR,List.getElem?_set_self (by rw[pm.1];exact ll)]
  rfl
 refine⟨s,List.mem_filter.mpr ⟨mW.mpr ?_, ?_⟩,hs, ?_⟩
 ·rw[<-plc_len];exact(uU.mp hs).1
 ·have e:(plc ns).getD s []=p.set l 0:=by rw[uR,hs];rfl
  rw[e,z]
  rfl
 ·have:=plc_line ns l hs hn z pl;rw[List.set_set,show p.set l (p.getD l 0)=p by
   refine mH λi=>?_;rw[List.getElem?_set];by_cases c:l=i
   ·subst c;have:l<p.length:=by rw[pm.1];exact ll
    rw[tI rfl,tI this,uR,uW this]
    rfl
   ·rw[tH c]]at this
  exact plc_inj ns h this
end LwB
namespace Lw
open PySem PySem.Spec PyProof.Rows L2
section
variable{X:Cx}
theorem JK{i:Nat}{y:Str}{py spos:Pos}(hN:X.N.Nodup)(hi:X.N[i]? = some y)(hx:Loc X.env.scope y){own:Nat}{idx:List Nat}{N:List Str}{elt target iter t2 i2:Expr}{scope:Scope}{cl:List (Str×Addr)}{pos:Pos}{wi wi2:TI}{g g2:TG}{te:TE}(hc:X.calm=true)
  (hk:scope.kind=.function) (hclos:closureFor scope X.env=pure cl) (hcell:∀x∈scope.names,x.2≠.cell) (hnames:∀x∈scope.names,x.2=.local->scope.names.lookup x.1=some .local)
  (hsub:∀x c,cl.lookup x=some c->X.env.cells.lookup x=some c) (hhas:∀x,((relabel scope X.env).names.lookup x=some .cell∨(relabel scope X.env).names.lookup x=some .free)->∃c,cl.lookup x=some c)
  (hlen:N.length=own+idx.length)
  (hidx:∀(k j:Nat) (x:Str),idx[k]? = some j->N[own+k]? = some x->X.N[j]? = some x/\X.env.kindOf x=some .cell/\(relabel scope X.env).names.lookup x=some .cell/\X.env.scope.names.lookup x=some .cell)
  (hit:PI X target iter wi) (hg:∀C fp s2 H2,PG (jO X N scope cl C fp s2 H2) target g) (hi2:∀C fp s2 H2,PI (jO X N scope cl C fp s2 H2) t2 i2 wi2) (hg2:∀C fp s2 H2,PG (jO X N scope cl C fp s2 H2) t2 g2) (he:∀C fp s2 H2,PE (jO X N scope cl C fp s2 H2) elt te)
  (hsw:swapsWith (.ListComp elt [⟨target,iter,[],0⟩,⟨t2,i2,[],0⟩] scope pos) (some (.Name y py)) spos.line X.env=pure true:=by rfl)
  (hs:∀x,foldedSetIterable iter X.env x=pure x:=by intro _;rfl) (hs2:∀(env:Env) x,foldedSetIterable i2 env x=pure x:=by intro _ _;rfl) (hfn:X.fn y=true∨X.env.scope.names.lookup y=some .local:=by first | exact .inl rfl | exact .inr rfl | assumption):PS X (.Assign [.Name y py] (.ListComp elt [⟨target,iter,[],0⟩,⟨t2,i2,[],0⟩] scope pos) spos) (xO (YF own idx wi g wi2 g2 te) (jP i)):=by
 intro pins s σ H D I h;rw[exec_Assign_Name_used _ _ _ _ hsw];refine tE (wpAny_standAt (tE ?_));show wpAny _ X.A (do let _<-comprehension (.ListComp elt [⟨target,iter,[],0⟩,⟨t2,i2,[],0⟩] scope pos) scope X.env _ (newList []) false (eval iter X.env) (some (assign (.Name y py) X.env))) _ _ s;refine tE (tG (wpAny_comprehension_free (use:=some (assign (.Name y py) X.env)) (Q:=λ_ s'=>∃σ' H',Inv X pins σ' H' s'/\D.nx σ' H') rfl hs hclos hk hnames (thn (hit pins s σ H _ I h) λv s1 h1=>thn h1 λitv s2 h2=>?_)) (λ_ s' hq=>tF (tF hq)) λ_ _ e=>e);obtain⟨it,fp,tn,J,H1,e,I2,T,st2,f2,hR⟩:=h2;subst e;have hlt:∀b∈fp,b<s2.heap.objs.size:=λb hb=>by
  obtain⟨o,ho,_⟩:=T.obj 0 _ st2 b hb;exact nJ ho
 refine wpAny_newObj_type (wpAny_newFunctionEnv hcell (by intro y hy;simp at hy) (λh₁ hns₁ hsb₁=>?_) hk);dsimp only at hns₁ hsb₁ ⊢;generalize hHH:s2.heap.push { cls:=.type "list",dict:=none,data:=.seq ([]:List Value).toArray } = HH at hns₁ hsb₁ ⊢;have hCe:HH.objs.size=s2.heap.objs.size+1:=by rw[<-hHH,mZ]
 have hDC:s2.heap.objs.size≠HH.objs.size:=by rw[hCe];exact nM (mO _)
 have hCle:s2.heap.objs.size<=HH.objs.size:=by rw[hCe];exact Nat.le_succ _
 have old:∀b o,s2.heap.get? b=some o->h₁.get? b=some o:=λb o e=>hsb₁.extBut b o (by rw[hCe];exact nM (Nat.lt_succ_of_lt (nJ e))) (uZ _ (hHH▸uZ _ e));have hD:h₁.get? s2.heap.objs.size=some { cls:=.type "list",dict:=none,data:=.seq ([]:List Value).toArray } :=hsb₁.extBut _ _ hDC (uZ _ (hHH▸gO _ rfl));have nD:H1 s2.heap.objs.size=none:=I2.hok.fresh uO ;obtain⟨W,⟨m0,w0⟩,turn⟩:=hR s2.heap.objs.size _ nD (kD (.lst []) nD) jG;generalize hσ:(List.replicate own none++idx.map λj=>(σ[j]?).getD none:L2.St)=σ0 at turn;have lσ:σ0.length=N.length:=by rw[<-hσ,gS,gC,mP,hlen]
 have ok:=yH (N:=N) (cl:=cl) (C:=HH.objs.size) I2 hk hsub hhas hCle f2 hlt;have oldC:∀c v,s2.heap.IsCell c v->h₁.IsCell c v:=λc v ⟨o,ho,hd⟩=>⟨o,old c o ho,hd⟩;have I4:Inv (jO X N scope cl HH.objs.size fp s2 H1) [] σ0 (upd H1 s2.heap.objs.size (.lst [])) { s2 with heap:=h₁,toks:=s2.toks+([]:List (Str×Value)).length } :=by
  refine⟨ok,rfl,I2.bare,Un.laid old uO nD,⟨_,hns₁,λi x v e1 e2 _=>?_⟩,(λx c z=>?_), ?_,(λx c z=>?_),(λp hp=>nomatch hp),I2.hok.laid old uO ?_,lσ⟩
  ·
   rw[<-hσ]at e2;by_cases hi':i<own
   ·rw[uV (by rw[gC];exact hi'),List.getElem?_replicate]at e2;split at e2<;>cases e2
   ·obtain⟨k,rfl⟩:∃k,i=own+k:=⟨i-own,by omega⟩;rw[uS (by rw[gC];omega),gC,Nat.add_sub_cancel_left,hJ]at e2;cases ej:idx[k]? with
    | none=>rw[ej]at e2;cases e2
    | some j=>
     rw[ej,Option.map_some]at e2;have e2:=Option.some.inj e2;obtain⟨n1,n2,n3,n4⟩:=hidx k j x ej e1;have e3:σ[j]? = some (some v):=by
      cases q:σ[j]? with
      | none=>rw[q]at e2;cases e2
      | some y=>rw[q,Option.getD_some]at e2;rw[e2]
     obtain⟨m,hm,hl⟩:=I2.loc;obtain⟨u,ru,lk⟩:=hl j x v n1 e3 (.inr (.inl n4));refine⟨u,ru, ?_⟩;rcases lk with⟨kl,_⟩ | ⟨_,c,hcl,hic⟩
     ·rw[n2]at kl;cases kl
     ·obtain⟨c',hc'⟩:=hhas x (.inl n3);have:c'=c:=Option.some.inj ((hsub x c' hc').symm.trans hcl);subst this;exact .inr ⟨.inl n3,c',hc',oldC _ _ hic⟩
  ·obtain⟨v,hv⟩:=I2.cell x c (hsub x c z);exact⟨v,oldC _ _ hv⟩
  ·show(upd H1 s2.heap.objs.size (.lst [])) HH.objs.size=none;rw[jM (Ne.symm hDC)];exact I2.hok.fresh hCle
  ·obtain⟨v,hv⟩:=I2.cell x c (hsub x c z);show(upd H1 s2.heap.objs.size (.lst [])) c=none;rw[jM (nM hv.lt)];exact I2.freeC x c (hsub x c z)
  ·exact⟨by show 0<=sizeLine;decide,[],0,.nil,hD⟩
 have stat:∀{H':Hp},(∀b∈fp,H' b=none)->∀b∈fp,FpOk (jO X N scope cl HH.objs.size fp s2 H1) [] H' b:=λhn b hb=>
  ⟨hn b hb,(ok.exf b hb).1,ok.exfs b hb,.inl hb,(ok.exf b hb).2,λp hp=>nomatch hp⟩
 have st4:tn 0 h₁:=T.keep _ _ _ st2 λb _ o e=>old b o e;have fr4:∀b∈fp,(upd H1 s2.heap.objs.size (.lst [])) b=none:=λb hb=>by
  rw[jM (nM (hlt b hb))];exact(f2 b hb).1
 have loop:codeAny (model X.prog X.w) X.A (.compLoop (.ListComp elt [⟨target,iter,[],0⟩,⟨t2,i2,[],0⟩] scope pos) 0 (.ref it) (.ref s2.heap.objs.size) (compEnvC scope cl HH.objs.size X.env))
   (compPost (model X.prog X.w) X.A X.xe (some (assign (.Name y py) X.env)) (λ_ s'=>∃σ' H',Inv X pins σ' H' s'/\D.nx σ' H') (.ref s2.heap.objs.size) HH.objs.size) { s2 with heap:=h₁,toks:=s2.toks+([]:List (Str×Value)).length } :=by
  refine EQ (λn s'=>∃i H',Inv (jO X N scope cl HH.objs.size fp s2 H1) [] σ0 H' s'/\tn i s'.heap/\(∀b∈fp,H' b=none)/\W i n H') (hs2 _) ?_ m0 ⟨0,_,I4,st4,fr4,w0⟩;rintro n s3 ⟨i,H3,I3,st3,fr3,w3⟩;have hw:=turn i n H3 w3;rcases hw with⟨stop,qn⟩ | ⟨go,step⟩
  ·refine thn (T.done (jO X N scope cl HH.objs.size fp s2 H1) rfl rfl rfl hc i [] s3 _ H3 _ I3 (stat fr3) st3 stop) λr s4 ⟨hr,I5⟩=>?_;subst hr;obtain⟨m,hm,_⟩:=id I5.loc;have U:=I5.base;have fC:H3 HH.objs.size=none:=I5.free;have IX:Inv X pins σ H3 s4:=I2.call' (ch:=fp) (s':=s4) I5.os U I5.hok I5.bare (λb hb=>⟨(f2 b hb).2.2.2.1,(f2 b hb).2.1,(f2 b hb).2.2.2.2.1,(f2 b hb).2.2.2.2.2⟩);have ltC:∀b,b<s2.heap.objs.size->b≠HH.objs.size:=λb hb=>nM (gU hb hCle);show wpAny _ X.A (assign (.Name y py) X.env (.ref s2.heap.objs.size)) _ _ s4;refine wpAny_assign_Name (zC IX hN hi hx (v:=.ref s2.heap.objs.size) rfl (λs5 I6 ⟨a,sb,ha⟩=>?_) hfn);have aC:a≠HH.objs.size:=by
    rcases ha with ha | ha
    ·rw[ha];exact ltC _ I2.lt
    ·obtain⟨v,hv⟩:=I2.cell y a ha;exact ltC _ hv.lt
   refine⟨m,hm.sameBut sb (Ne.symm aC),λh' sb'=>⟨_,H3, ?_,qn⟩⟩;refine I6.turned (it:=HH.objs.size) (t':=s5.toks) (λb o hb e=>sb'.extBut b o hb e) fC (Ne.symm (ltC _ I2.lt)) (.inr (nK I2.sz hCle)) (λx c hc=>?_) (λp hp=>?_)
   ·obtain⟨v,hv⟩:=I2.cell x c hc;exact ltC _ hv.lt
   ·exact ltC _ (nJ (I2.pin p hp).1)
  ·refine tG (T.item (jO X N scope cl HH.objs.size fp s2 H1) rfl rfl rfl hc i [] s3 _ H3 (λ_ _=>False) I3 (stat fr3) st3 go) (λr s4 ⟨u,hr,h4⟩=>?_) λ_ _ z=>z.elim;subst hr;refine tG h4 (λ_ s5 ⟨x,H5,I5,r5,y5,st5,fr5⟩=>?_) λ_ _ z=>z.elim;have I5':=I5.pinned (stat fr5) (T.obj _ _ st5);refine tG (hg _ _ _ _ _ s5 _ H5 x u _ I5' r5 (step x H5 y5)) (λ_ s6 ⟨σ6,H6,I6,q6⟩=>?_) λ_ _ z=>z.elim;generalize hpins:([]:List (Addr×Obj))++CI fp s5.heap=pins' at I6;have keepT:∀{σ7:L2.St} {H7:Hp} {s7:Shared},Inv (jO X N scope cl HH.objs.size fp s2 H1) pins' σ7 H7 s7->Keep σ0 σ7->∀{m':Nat},m'<n->W (i+1) m' H7->∃m,m<n/\∃i H',Inv (jO X N scope cl HH.objs.size fp s2 H1) [] σ0 H' s7/\tn i s7.heap/\(∀b∈fp,H' b=none)/\W i m H':=fun {σ7 H7 s7} I7 kp {m'} hm' w7=>by
    subst hpins;refine⟨m',hm',i+1,_,(I7.unpinned).weak (by rw[lσ,I7.len];rfl) kp,T.keep _ _ _ st5 λb hb o e=>(I7.pin (b,o) (gB _ (gB _ (kG hb e)))).1,λb hb=>?_,w7⟩;obtain⟨o,e,d⟩:=T.obj _ _ st5 b hb;exact(I7.pin (b,o) (gB _ (gB _ (kG hb e)))).2.1
   refine tG (hi2 _ _ _ _ _ s6 σ6 H6 _ I6 q6) (λx2 s7 h7=>tG h7 (λj2 s8 h8=>?_) λ_ _ z=>z.elim) λ_ _ z=>z.elim;obtain⟨it2,fp2,tn2,J2,H8,e8,I8,T2,st8,f8,W2,⟨m20,ys0,w20⟩,turn2⟩:=h8;subst e8;have stat2:∀{H':Hp},(∀b∈fp2,H' b=none)->∀b∈fp2,FpOk (jO X N scope cl HH.objs.size fp s2 H1) pins' H' b:=λhn b hb=>⟨hn b hb,(f8 b hb).2⟩;have loop2:codeAny (model X.prog X.w) X.A (.compLoop (.ListComp elt [⟨target,iter,[],0⟩,⟨t2,i2,[],0⟩] scope pos) 1 (.ref it2) (.ref s2.heap.objs.size) (compEnvC scope cl HH.objs.size X.env)) (λr s'=>match r with | .ok _=>∃m,m<n/\∃i H',Inv (jO X N scope cl HH.objs.size fp s2 H1) [] σ0 H' s'/\tn i s'.heap/\(∀b∈fp,H' b=none)/\W i m H' | .error e=>cameBackBy (model X.prog X.w) X.A (compEnvC scope cl HH.objs.size X.env) (notedBy (model X.prog X.w) X.A (compEnvC scope cl HH.objs.size X.env) λe s'=>compPost (model X.prog X.w) X.A X.xe (some (assign (.Name y py) X.env)) (λ_ s'=>∃σ' H',Inv X pins σ' H' s'/\D.nx σ' H') (.ref s2.heap.objs.size) HH.objs.size (.error e) s') e s') s8:=by
    refine EO (λn2 s'=>∃j ys σ' H',Inv (jO X N scope cl HH.objs.size fp s2 H1) pins' σ' H' s'/\tn2 j s'.heap/\(∀b∈fp2,H' b=none)/\W2 j n2 ys σ' H') ?_ m20 ⟨0,ys0,σ6,H8,I8,st8,λb hb=>(f8 b hb).1,w20⟩;rintro n2 s9 ⟨j,ys,σ9,H9,I9,st9,fr9,w9⟩;obtain⟨hp9,hz9,hw9⟩:=turn2 j n2 ys σ9 H9 w9;rcases hw9 with⟨stop2,kp9,m',hm',w'⟩ | ⟨go2,step2⟩
    ·refine thn (T2.done (jO X N scope cl HH.objs.size fp s2 H1) rfl rfl rfl hc j pins' s9 σ9 H9 _ I9 (stat2 fr9) st9 stop2) λr s10 ⟨hr,I10⟩=>?_;subst hr;exact keepT I10 kp9 hm' w'
    ·refine tG (T2.item (jO X N scope cl HH.objs.size fp s2 H1) rfl rfl rfl hc j pins' s9 σ9 H9 (λ_ _=>False) I9 (stat2 fr9) st9 go2) (λr s10 ⟨u2,hr,h10⟩=>?_) λ_ _ z=>z.elim;subst hr;refine tG h10 (λ_ s11 ⟨x11,H11,I11,r11,y11,st11,fr11⟩=>?_) λ_ _ z=>z.elim;have I11':=I11.pinned (stat2 fr11) (T2.obj _ _ st11);refine tG (hg2 _ _ _ _ _ s11 _ H11 x11 u2 _ I11' r11 (step2 x11 H11 y11)) (λ_ s12 ⟨σ12,H12,I12,q12⟩=>?_) λ_ _ z=>z.elim;refine tG (he _ _ _ _ _ s12 σ12 H12 _ I12 q12) (λy s13 ⟨yv,H13,I13,r13,q13⟩=>?_) λ_ _ z=>z.elim;obtain⟨e13,m',hm',w13⟩:=q13;refine tG (kR (X:=jO X N scope cl HH.objs.size fp s2 H1) _ s13 σ12 H13 (.ref s2.heap.objs.size) [yv] (.ref s2.heap.objs.size) [y] (λ_ H14=>H14=upd H13 s2.heap.objs.size (.lst (ys++[yv]))) I13 rfl (.cons r13 .nil) ⟨_,ys,yv,rfl,rfl,e13,hz9,rfl⟩) (λ_ s14 ⟨_,H14,I14,_,q14⟩=>?_) λ_ _ z=>z.elim;subst q14;refine⟨m',hm',j+1,_,_,_,I14.unpinned,T2.keep _ _ _ st11 λb hb o e=>(I14.pin (b,o) (gB _ (gB _ (kG hb e)))).1,λb hb=>?_,w13⟩;obtain⟨o,e,d⟩:=T2.obj _ _ st11 b hb;exact(I14.pin (b,o) (gB _ (gB _ (kG hb e)))).2.1
   exact DV loop2 (T2.self _ 0 _ _ _ st8 loop2)
 exact codeAny_compStart_list loop (T.self _ 0 _ _ _ st4 loop)
end
end Lw
namespace L2
open PySem PySem.Spec PyProof.Rows
theorem EL(r:Addr)(n i:Int)(t u v a:Tok) :
  Meets (Builtin.«range.__contains__» ⟨[.ref r,.int i a],[]⟩) (λ_ R s=>IsRange s.heap r 0 n 1 t u v/\R (.ok (.ret (.bool (decide (0<=i)&&decide (i<n))))) s):=
 .of_wp λprog w A R s h=>by
  obtain⟨hr,h⟩:=h;have rf:∀{Q':Int×Int×Int->Shared->Prop} {E':Value->Shared->Prop},Q' (0,n,1) s->wpAny (model prog w) A.in1 (Builtin.Range.rangeFields (.ref r)) Q' E' s:=fun {Q' E'} hq=>by
   unfold Builtin.Range.rangeFields;refine tE (wpAny_field hr rfl (x:=.int 0 t) rfl (tE (tF ?_)));refine tE (wpAny_field hr rfl (x:=.int n u) rfl (tE (tF ?_)));refine tE (wpAny_field hr rfl (x:=.int 1 v) rfl (tE (tF ?_)));exact tF hq
  unfold Builtin.«range.__contains__»;refine tE (wpAny_of_eq (a:=(Value.ref r,[Value.int i a])) rfl ?_);show wpAny _ _ (rule "range.contains.reckoned" >>= _) _ _ _;refine tE (wpAny_rule (tE (rf ?_)));refine tF ?_;have e:(Builtin.Range.rangePlace? 0 n 1 i).isSome=(decide (0<=i)&&decide (i<n)):=by
   unfold Builtin.Range.rangePlace?;have m:(i-0)%1=0:=by omega
   show(if ((if (1:Int)>0 then decide (0<=i)&&decide (i<n)else decide (n<i)&&decide (i<=0))&&(i-0)%1==0)=true then some ((i-0)/1)else none).isSome=_;rw[m,tI (show(1:Int)>0 by decide)];cases decide (0<=i)<;>cases decide (i<n)<;>rfl
  refine⟨_,rfl, ?_⟩;rw[e];exact h
section
variable{X:Cx}
def rNotInR:R2:=λx y H Q=>∃(i n:Int) (p:Addr),x=.int i/\y=.ref p/\H p=some (.rng 0 n)/\Q (.bl (!(decide (0<=i)&&decide (i<n)))) H
theorem RX:OpR X (compareOp .NotIn) rNotInR:=by
 intro pins s σ H x y v u Q I rx ry h;obtain⟨i,n,p,rfl,rfl,hp,q⟩:=h;obtain⟨t,rfl⟩:=rx;cases ry;obtain⟨a,b,c,ho⟩:=(show ObjOk X.prog X.w H s.heap p (.rng 0 n)from I.hok p _ hp);exact PySem.SeqRoads2.notIn_meets ⟨_,ho,rfl⟩ F.slot_range_contains F.entry_range_contains (F.args_range_contains_2 _ _) (EL p n i a b c t) ⟨ho,_,rfl,.bl _,H,I,rfl,q⟩
end
end L2
namespace Lw
open PySem PySem.Spec PyProof.Rows L2
section
variable{X:Cx}
def CShL(i j:Int):Prop:=0<=j/\j<=1000/\i.natAbs<2^100000
theorem OI:OpR X (binaryOp .LShift) (rI CShL λi j=>.int (i*2^j.toNat)):=opI λi j _ _ _ _ _ hc q=>lshift_int hc.1 (by
 have h:=PySem.intBits_le_iff.mpr hc.2.2;have h2:=hc.2.1;have e:(2:Int)^27=134217728:=by decide
 rw[e];omega) q
end
end Lw
namespace L2
open PySem PySem.Spec PyProof.Rows
section
variable{prog:Program}{w:World}{A:Around}{E:Value->Shared->Prop}{s:Shared}
theorem BS(a b c:Value):checkTypeCall "zip" ⟨[a,b,c],[]⟩=pure ():=by kernel_rfl
theorem EJ(a b c:Value):checkBuiltinCall "zip.__new__" ⟨[.type "zip",a,b,c],[]⟩=pure ():=by kernel_rfl
theorem LP(a b c d:Value):argsOk "object.__init__" ⟨[a,b,c,d],[]⟩:=by
 unfold argsOk;rw[signature?_of (id:="object.__init__") (n:=['_','_','t','i','n','i','_','_']) (o:=['t','c','e','j','b','o']) (by kernel_rfl) F.owner_object];kernel_rfl
def IsTri(h:Heap)(T:Addr)(a b c:Value):Prop:=h.get? T=some { cls:=.type "tuple",dict:=none,data:=.seq #[a,b,c],slots:=#[] }
theorem FS{T:Addr}{a b c x:Value}{k:Nat}{Q:Unit->Shared->Prop}(hT:IsTri s.heap T a b c)
  (h:∀h',h'.get? T=some { cls:=.type "tuple",data:=.seq ((#[a,b,c]:Array Value).setIfInBounds k x) }->Heap.SameBut T s.heap h'->Q () { s with heap:=h' }) :
  wpAny (model prog w) A (updateSeq T (·.setIfInBounds k x)) Q E s:=by
 refine wpAny_updateSeq hT rfl (h _ ?_ (Heap.SameBut.update ..));rw[Heap.get?_update_self _ hT rfl];simp [Obj.mapSeq]
structure ZA(z TI TO i1 i2 i3 l1 l2 l3:Addr):Prop where
 nd:[z,TI,TO,i1,i2,i3].Nodup
 n1:l1∉[z,TI,TO,i1,i2,i3]
 n2:l2∉[z,TI,TO,i1,i2,i3]
 n3:l3∉[z,TI,TO,i1,i2,i3]
structure ZW(z TI TO i1 i2 i3 l1 l2 l3:Addr)(k:Nat)(h:Heap):Prop where
 zz:IsZip h z TI TO .none
 ti:IsTri h TI (.ref i1) (.ref i2) (.ref i3)
 to:∃a b c,IsTri h TO a b c
 one:h.IsListIter i1 l1 k
 two:h.IsListIter i2 l2 k
 tre:h.IsListIter i3 l3 k
variable{z TI TO i1 i2 i3 l1 l2 l3:Addr}{k:Nat}{xs ys vs:Array Value}
theorem QU{x y v:Value}{Q:Option Value->Shared->Prop}(D:ZA z TI TO i1 i2 i3 l1 l2 l3)(Z:ZW z TI TO i1 i2 i3 l1 l2 l3 k s.heap)(t1:s.heap.IsList l1 xs)(t2:s.heap.IsList l2 ys)(t3:s.heap.IsList l3 vs)(hx:xs[k]? = some x)(hy:ys[k]? = some y)(hv:vs[k]? = some v)
  (q:∀g,IsZip g z TI TO (rawInt s.heap.objs.size)->IsTri g TO x y v->g.IsListIter i1 l1 (k+1)->g.IsListIter i2 l2 (k+1)->g.IsListIter i3 l3 (k+1)->IsTri g s.heap.objs.size x y v->
   (∀c o,c∉[z,TO,i1,i2,i3]->s.heap.get? c=some o->g.get? c=some o)->Q (some (.ref s.heap.objs.size)) { s with heap:=g }):wpAny (model prog w) A (pyNext (.ref z)) Q E s:=by
 obtain⟨nd,m1,m2,m3⟩:=D;simp only[List.nodup_cons,nF,not_or,mJ]at nd m1 m2 m3;obtain⟨⟨zTI,zTO,zi1,zi2,zi3,_⟩,⟨TITO,TIi1,TIi2,TIi3,_⟩,⟨TOi1,TOi2,TOi3,_⟩,⟨i12,i13,_⟩,⟨i23,_⟩,_⟩:=nd;obtain⟨hz,hti,⟨a,b,c,hto⟩,s1,s2,s3⟩:=Z;have T:s.TypeIs (.ref z) "zip":=⟨_,hz,rfl⟩;unfold pyNext;refine tE (wpAny_attempt (wpAny_callSpecial?_slot (name:=Str.ofString "__next__") T F.slot_zip_next (wpAny_call_entry F.slot_zip_next T F.entry_zip_next ?_ (F.args_zip_next_1 _))));show wpAny _ _ (field (.ref z) 2 >>= _) _ _ _;refine tE (wpAny_field hz rfl (x:=.bool false) rfl ?_);show wpAny _ _ (field (.ref z) 3 >>= _) _ _ _;refine tE (wpAny_field hz rfl (x:=.ref TI) rfl (tE (wpAny_seqItems hti rfl ?_)));show wpAny _ _ (Builtin.SmallTypes.ownedTupleIsFree (.ref z) >>= _) _ _ _;refine tE ?_;unfold Builtin.SmallTypes.ownedTupleIsFree;refine tE (wpAny_field hz rfl (x:=.none) rfl (tF ?_));simp only[if_true];refine tE (wpAny_rule (tE (wpAny_field hz rfl (x:=.ref TO) rfl (tE (wpAny_setField_rec hz (by simp) λg1 z1 b1=>?_)))))
 replace z1:IsZip g1 z TI TO .ellipsis:=z1
 refine tE ?_;simp only[List.zipIdx_cons,List.zipIdx_nil,List.forIn_cons,List.forIn_nil];refine tE (tE (wpAny_onRaise ?_));show wpAny _ _ (Builtin.SmallTypes.nextOf (.ref i1) >>= _) _ _ _;refine tE (wpAny_nextOf_list_item (s1.extBut b1.extBut (Ne.symm zi1)) (t1.extBut b1.extBut m1.1) hx λg2 n2 b2=>tF ?_);have o2:IsTri g2 TO a b c:=b2.extBut _ _ TOi1 (b1.extBut _ _ (Ne.symm zTO) hto);refine tE (wpAny_seqItems o2 rfl (tE (FS o2 λg3 o3 b3=>?_)))
 replace o3:IsTri g3 TO x b c:=o3
 refine tE (wpAny_letGo (tF (tE (tE (wpAny_onRaise ?_)))));show wpAny _ _ (Builtin.SmallTypes.nextOf (.ref i2) >>= _) _ _ _;refine tE (wpAny_nextOf_list_item (((s2.extBut b1.extBut (Ne.symm zi2)).extBut b2.extBut (Ne.symm i12)).extBut b3.extBut (Ne.symm TOi2)) (((t2.extBut b1.extBut m2.1).extBut b2.extBut m2.2.2.2.1).extBut b3.extBut m2.2.2.1) hy λg4 n4 b4=>tF ?_);have o4:IsTri g4 TO x b c:=b4.extBut _ _ TOi2 o3;refine tE (wpAny_seqItems o4 rfl (tE (FS o4 λg5 o5 b5=>?_)))
 replace o5:IsTri g5 TO x y c:=o5
 refine tE (wpAny_letGo (tF (tE (tE (wpAny_onRaise ?_)))));show wpAny _ _ (Builtin.SmallTypes.nextOf (.ref i3) >>= _) _ _ _;refine tE (wpAny_nextOf_list_item (((((s3.extBut b1.extBut (Ne.symm zi3)).extBut b2.extBut (Ne.symm i13)).extBut b3.extBut (Ne.symm TOi3)).extBut b4.extBut (Ne.symm i23)).extBut b5.extBut (Ne.symm TOi3)) (((((t3.extBut b1.extBut m3.1).extBut b2.extBut m3.2.2.2.1).extBut b3.extBut m3.2.2.1).extBut b4.extBut m3.2.2.2.2.1).extBut b5.extBut m3.2.2.1) hv λg6 n6 b6=>tF ?_);have o6:IsTri g6 TO x y c:=b6.extBut _ _ TOi3 o5;refine tE (wpAny_seqItems o6 rfl (tE (FS o6 λg7 o7 b7=>?_)))
 replace o7:IsTri g7 TO x y v:=o7
 refine tE (wpAny_letGo (tF (tF (tE (wpAny_seqItems o7 rfl (tE (wpAny_newTuple ?_)))))));have sz:g7.objs.size=s.heap.objs.size:=by rw[b7.1,b6.1,b5.1,b4.1,b3.1,b2.1,b1.1]
 have z7:IsZip g7 z TI TO .ellipsis:=b7.extBut _ _ zTO (b6.extBut _ _ zi3 (b5.extBut _ _ zTO (b4.extBut _ _ zi2 (b3.extBut _ _ zTO (b2.extBut _ _ zi1 z1)))));have k7:∀c o,c∉[z,TO,i1,i2,i3]->s.heap.get? c=some o->g7.get? c=some o:=λc o hc e=>by
  simp only[nF,not_or]at hc;exact b7.extBut _ _ hc.2.1 (b6.extBut _ _ hc.2.2.2.2.1 (b5.extBut _ _ hc.2.1 (b4.extBut _ _ hc.2.2.2.1 (b3.extBut _ _ hc.2.1 (b2.extBut _ _ hc.2.2.1 (b1.extBut _ _ hc.1 e))))))
 have p1:g7.IsListIter i1 l1 (k+1):=((((n2.extBut b3.extBut (Ne.symm TOi1)).extBut b4.extBut i12).extBut b5.extBut (Ne.symm TOi1)).extBut b6.extBut i13).extBut b7.extBut (Ne.symm TOi1);have p2:g7.IsListIter i2 l2 (k+1):=((n4.extBut b5.extBut (Ne.symm TOi2)).extBut b6.extBut i23).extBut b7.extBut (Ne.symm TOi2);have p3:g7.IsListIter i3 l3 (k+1):=n6.extBut b7.extBut (Ne.symm TOi3);have zl:z<g7.objs.size:=nJ z7;show wpAny _ _ (Builtin.SmallTypes.ownedTupleHandOut (.ref z) (.ref g7.objs.size) >>= _) _ _ _;refine tE ?_;unfold Builtin.SmallTypes.ownedTupleHandOut;have z8:IsZip (g7.push { cls:=.type "tuple",data:=.seq #[x,y,v] }) z TI TO .ellipsis:=uZ _ z7;refine tE (wpAny_setField_rec z8 (by simp) λg9 z9 b9=>?_)
 replace z9:IsZip g9 z TI TO (rawInt g7.objs.size):=z9
 refine wpAny_setField_rec z9 (by simp) λg10 z10 b10=>?_
 replace z10:IsZip g10 z TI TO (rawInt g7.objs.size):=z10
 have up:∀c o,c≠z->g7.get? c=some o->g10.get? c=some o:=λc o cz e=>b10.extBut _ _ cz (b9.extBut _ _ cz (uZ _ e));have nu:IsTri g10 g7.objs.size x y v:=b10.extBut _ _ (Nat.ne_of_gt zl) (b9.extBut _ _ (Nat.ne_of_gt zl) (gO _ rfl));rw[sz]at z10 nu;refine tF ⟨_,rfl,tF ?_⟩;show Q (some (.ref g7.objs.size)) _;rw[sz];exact q g10 z10 (up _ _ (Ne.symm zTO) o7) (p1.at λo e=>up _ o (Ne.symm zi1) e) (p2.at λo e=>up _ o (Ne.symm zi2) e) (p3.at λo e=>up _ o (Ne.symm zi3) e) nu λc o hc e=>up c o (λh=>hc (by simp [h])) (k7 c o hc e)
theorem TN{Q:Option Value->Shared->Prop}(hh:A.handled=none)(D:ZA z TI TO i1 i2 i3 l1 l2 l3)(Z:ZW z TI TO i1 i2 i3 l1 l2 l3 k s.heap)(t1:s.heap.IsList l1 xs)(hx:xs[k]? = none)
  (q:∀g,(∀c o,c∉[z,TO,i1,i2,i3]->s.heap.get? c=some o->g.get? c=some o)->Q none { s with heap:=g }):wpAny (model prog w) A (pyNext (.ref z)) Q E s:=by
 obtain⟨nd,m1,m2,m3⟩:=D;simp only[List.nodup_cons,nF,not_or,mJ]at nd m1 m2 m3;obtain⟨⟨zTI,zTO,zi1,zi2,zi3,_⟩,_⟩:=nd;obtain⟨hz,hti,⟨a,b,c,hto⟩,s1,s2,s3⟩:=Z;have T:s.TypeIs (.ref z) "zip":=⟨_,hz,rfl⟩;unfold pyNext;refine tE (wpAny_attempt (wpAny_callSpecial?_slot (name:=Str.ofString "__next__") T F.slot_zip_next (wpAny_call_entry F.slot_zip_next T F.entry_zip_next ?_ (F.args_zip_next_1 _))));have fin:∀g (e:Addr),(∀c o,c∉[z,TO,i1,i2,i3]->s.heap.get? c=some o->g.get? c=some o)->(∃o,g.get? e=some o/\o.cls=.type "StopIteration")->
   wpAny (model prog w) A (do if (<-isInstance (.ref e) (.type "StopIteration"))then pure none else throw (.ref e)) Q E { s with heap:=g } :=λg e hk ⟨o,ho,hc⟩=>
  tE (wpAny_isInstance (T:="StopIteration") (b:=true) ⟨o,ho,hc⟩ isSubtype_stop (tF (q _ hk)))
 show wpAny _ _ (field (.ref z) 2 >>= _) _ _ _;refine tE (wpAny_field hz rfl (x:=.bool false) rfl ?_);show wpAny _ _ (field (.ref z) 3 >>= _) _ _ _;refine tE (wpAny_field hz rfl (x:=.ref TI) rfl (tE (wpAny_seqItems hti rfl ?_)));show wpAny _ _ (Builtin.SmallTypes.ownedTupleIsFree (.ref z) >>= _) _ _ _;refine tE ?_;unfold Builtin.SmallTypes.ownedTupleIsFree;refine tE (wpAny_field hz rfl (x:=.none) rfl (tF ?_));simp only[if_true];refine tE (wpAny_rule (tE (wpAny_field hz rfl (x:=.ref TO) rfl (tE (wpAny_setField_rec hz (by simp) λg1 z1 b1=>?_)))))
 replace z1:IsZip g1 z TI TO .ellipsis:=z1
 refine tE ?_;simp only[List.zipIdx_cons,List.zipIdx_nil,List.forIn_cons,List.forIn_nil];refine tE (tE (wpAny_onRaise ?_));show wpAny _ _ (Builtin.SmallTypes.nextOf (.ref i1) >>= _) _ _ _;refine tE (wpAny_nextOf_list_end hh (s1.extBut b1.extBut (Ne.symm zi1)) (t1.extBut b1.extBut m1.1) hx λg2 e b2 ⟨oe,he,ce⟩=>?_);have z2:IsZip g2 z TI TO .ellipsis:=b2 _ _ zi1 z1;have ez:e≠z:=λh=>by subst h;rw[z2]at he;cases he;simp at ce
 refine wpAny_setField_rec z2 (by simp) λg3 _ b3=>fin g3 e (λc o hc h=>?_) ⟨oe,b3.extBut _ _ ez he,ce⟩;simp only[nF,not_or]at hc;exact b3.extBut _ _ hc.1 (b2 _ _ hc.2.2.1 (b1.extBut _ _ hc.1 h))
theorem MM(a b c:Addr)(xs ys vs:Array Value) :
  Meets (Builtin.«zip.__new__» ⟨[.type "zip",.ref a,.ref b,.ref c],[]⟩) (λ_ R s=>s.heap.IsList a xs/\s.heap.IsList b ys/\s.heap.IsList c vs/\
   ∀g,(∀c o,s.heap.get? c=some o->g.get? c=some o)->ZW (s.heap.objs.size+5) (s.heap.objs.size+3) (s.heap.objs.size+4) s.heap.objs.size (s.heap.objs.size+1) (s.heap.objs.size+2) a b c 0 g->R (.ok (.ret (.ref (s.heap.objs.size+5)))) { s with heap:=g }):=
 .of_wp λprog w A R s h=>by
  obtain⟨hp,gs,d,tk,os⟩:=s;obtain⟨t1,t2,t3,h⟩:=h;have hsub:=sub_zip;have T1:Heap.IsList (Shared.heap ⟨hp,gs,d,tk,os⟩) a xs:=t1;have T2:Heap.IsList (Shared.heap ⟨hp.push { cls:=.type "list_iterator",data:=.fields #[.ref a,.int 0 0] },gs,d,tk,os⟩) b ys:=Heap.IsList.push t2 _;have T3:Heap.IsList (Shared.heap ⟨(hp.push { cls:=.type "list_iterator",data:=.fields #[.ref a,.int 0 0] }).push { cls:=.type "list_iterator",data:=.fields #[.ref b,.int 0 0] },gs,d,tk,os⟩) c vs:=Heap.IsList.push (Heap.IsList.push t3 _) _
  wp_walk using wpAny_pyIter_list T1,wpAny_pyIter_list T2,wpAny_pyIter_list T3
  refine⟨_,rfl, ?_⟩;simp only[mZ]at h ⊢;refine h _ (λc o e=>uZ _ (uZ _ (uZ _ (uZ _ (uZ _ (uZ _ e)))))) ⟨?_, ?_, ?_, ?_, ?_, ?_⟩
  ·have e:=gO ((((((hp.push { cls:=.type "list_iterator",data:=.fields #[.ref a,.int 0 0] }).push { cls:=.type "list_iterator",data:=.fields #[.ref b,.int 0 0] }).push { cls:=.type "list_iterator",data:=.fields #[.ref c,.int 0 0] }).push { cls:=.type "tuple",data:=.seq #[.ref hp.objs.size,.ref (hp.objs.size+1),.ref (hp.objs.size+2)] })).push { cls:=.type "tuple",data:=.seq #[.none,.none,.none] }) (o:={ cls:=.type "zip",data:=.fields #[.none,.bool false,.bool false,.ref (hp.objs.size+3),.ref (hp.objs.size+4)] }) rfl;simp only[mZ]at e;exact e
  ·have e:=gO (((hp.push { cls:=.type "list_iterator",data:=.fields #[.ref a,.int 0 0] }).push { cls:=.type "list_iterator",data:=.fields #[.ref b,.int 0 0] }).push { cls:=.type "list_iterator",data:=.fields #[.ref c,.int 0 0] }) (o:={ cls:=.type "tuple",data:=.seq #[.ref hp.objs.size,.ref (hp.objs.size+1),.ref (hp.objs.size+2)] }) rfl;simp only[mZ]at e;exact uZ _ (uZ _ e)
  ·have e:=gO (((((hp.push { cls:=.type "list_iterator",data:=.fields #[.ref a,.int 0 0] }).push { cls:=.type "list_iterator",data:=.fields #[.ref b,.int 0 0] }).push { cls:=.type "list_iterator",data:=.fields #[.ref c,.int 0 0] }).push { cls:=.type "tuple",data:=.seq #[.ref hp.objs.size,.ref (hp.objs.size+1),.ref (hp.objs.size+2)] })) (o:={ cls:=.type "tuple",data:=.seq #[.none,.none,.none] }) rfl;simp only[mZ]at e;exact⟨_,_,_,uZ _ e⟩
  ·have e:=gO hp (o:={ cls:=.type "list_iterator",data:=.fields #[.ref a,.int 0 0] }) rfl;exact⟨_,uZ _ (uZ _ (uZ _ (uZ _ (uZ _ e)))),rfl,rfl⟩
  ·have e:=gO (hp.push { cls:=.type "list_iterator",data:=.fields #[.ref a,.int 0 0] }) (o:={ cls:=.type "list_iterator",data:=.fields #[.ref b,.int 0 0] }) rfl;simp only[mZ]at e;exact⟨_,uZ _ (uZ _ (uZ _ (uZ _ e))),rfl,rfl⟩
  ·have e:=gO ((hp.push { cls:=.type "list_iterator",data:=.fields #[.ref a,.int 0 0] }).push { cls:=.type "list_iterator",data:=.fields #[.ref b,.int 0 0] }) (o:={ cls:=.type "list_iterator",data:=.fields #[.ref c,.int 0 0] }) rfl;simp only[mZ]at e;exact⟨_,uZ _ (uZ _ (uZ _ e)),rfl,rfl⟩
theorem TH{a b c:Addr}{xs ys vs:Array Value}{Q:Value->Shared->Prop}(t1:s.heap.IsList a xs)(t2:s.heap.IsList b ys)(t3:s.heap.IsList c vs)
  (q:∀g,(∀c o,s.heap.get? c=some o->g.get? c=some o)->ZW (s.heap.objs.size+5) (s.heap.objs.size+3) (s.heap.objs.size+4) s.heap.objs.size (s.heap.objs.size+1) (s.heap.objs.size+2) a b c 0 g->Q (.ref (s.heap.objs.size+5)) { s with heap:=g }) :
  wpAny (model prog w) A (call (.type "zip") [.ref a,.ref b,.ref c]) Q E s:=
 callType_new F.called_zip (by decide) (BS _ _ _) (EJ _ _ _) (λobj=>LP obj _ _ _) F.entry_zip_new (MM a b c xs ys vs) ⟨t1,t2,t3,λg k Z=>⟨⟨_,Z.zz,rfl⟩,q g k Z⟩⟩
end
def Itw(K:tJ)(a b c:Addr):It:=
 ⟨λi H=>∃xs ys vs x y v,SqL K H a xs/\SqL K H b ys/\SqL K H c vs/\xs[i]? = some x/\ys[i]? = some y/\vs[i]? = some v,
  λi H r H'=>∃p x y v,H p=none/\r=.ref p/\H'=upd H p (.tup [x,y,v])/\(∀xs,SqL K H a xs->xs[i]? = some x)/\(∀ys,SqL K H b ys->ys[i]? = some y)/\(∀vs,SqL K H c vs->vs[i]? = some v),
  λi H=>∃xs ys vs,SqL K H a xs/\SqL K H b ys/\SqL K H c vs/\xs.length<=i⟩
theorem QX{P:Program}{w:World}{K:tJ}{es:List Expr}{x1}{pos:Pos}(l1 l2 l3:Addr){z TI TO i1 i2 i3:Addr}(nd:[z,TI,TO,i1,i2,i3].Nodup):Turn P w K (.Tuple es x1 pos) (Itw K l1 l2 l3) [z,TI,TO,i1,i2,i3] z (λi h=>ZW z TI TO i1 i2 i3 l1 l2 l3 i h) where
 mem:=by simp
 obj:=λi h Z b hb=>by
  simp only[nF,mJ,or_false]at hb;obtain⟨hz,hti,⟨a,c,e,hto⟩,⟨o1,g1,c1,d1⟩,⟨o2,g2,c2,d2⟩,⟨o3,g3,c3,d3⟩⟩:=Z;rcases hb with rfl | rfl | rfl | rfl | rfl | rfl
  ·exact⟨_,hz,λv q=>by cases (show Data.fields _=Data.cell v from q)⟩
  ·exact⟨_,hti,λv q=>by cases (show Data.seq _ _=Data.cell v from q)⟩
  ·exact⟨_,hto,λv q=>by cases (show Data.seq _ _=Data.cell v from q)⟩
  ·exact⟨_,g1,λv q=>by rw[d1]at q;cases q⟩
  ·exact⟨_,g2,λv q=>by rw[d2]at q;cases q⟩
  ·exact⟨_,g3,λv q=>by rw[d3]at q;cases q⟩
 keep:=λi h h' Z k=>by
  obtain⟨hz,hti,⟨a,c,e,hto⟩,s1,s2,s3⟩:=Z;exact⟨k z (by simp) _ hz,k TI (by simp) _ hti,⟨a,c,e,k TO (by simp) _ hto⟩,s1.at λo e=>k i1 (by simp) o e,s2.at λo e=>k i2 (by simp) o e,s3.at λo e=>k i3 (by simp) o e⟩
 item:=by
  intro X hP hw hK hc i pins s σ H E I hf Z hg;subst hP hw hK;obtain⟨xs,ys,vs,x,y,v,q1,q2,q3,hx,hy,hv⟩:=hg;obtain⟨its1,r1,p1,_⟩:=I.list q1;obtain⟨its2,r2,p2,_⟩:=I.list q2;obtain⟨its3,r3,p3,_⟩:=I.list q3;obtain⟨u1,hu1,ru1⟩:=r1.get hx;obtain⟨u2,hu2,ru2⟩:=r2.get hy;obtain⟨u3,hu3,ru3⟩:=r3.get hv;have D:ZA z TI TO i1 i2 i3 l1 l2 l3:=⟨nd,λh=>FpOk.apartL I (hf _ h) q1 rfl,λh=>FpOk.apartL I (hf _ h) q2 rfl,λh=>FpOk.apartL I (hf _ h) q3 rfl⟩;refine QU D Z p1.isList p2.isList p3.isList (x:=u1) (y:=u2) (v:=u3) (by simpa using hu1) (by simpa using hu2) (by simpa using hu3) λg z1 to1 n1 n2 n3 nu kk=>⟨_,rfl, ?_⟩;refine wpAny_letOwnedTupleGo_zip z1 λg2 z2 sb=>?_;have fr:H s.heap.objs.size=none:=I.hok.fresh uO ;have fp:∀b∈[z,TI,TO,i1,i2,i3],FpOk X pins (upd H s.heap.objs.size (.tup [x,y,v])) b:=λb hb=>by
   have lt:b≠s.heap.objs.size:=by
    simp only[nF,mJ,or_false]at hb;obtain⟨hz,hti,⟨a,c,e,hto⟩,⟨o1,g1,_⟩,⟨o2,g2,_⟩,⟨o3,g3,_⟩⟩:=Z;rcases hb with rfl | rfl | rfl | rfl | rfl | rfl
    ·exact nM (nJ hz)
    ·exact nM (nJ hti)
    ·exact nM (nJ hto)
    ·exact nM (nJ g1)
    ·exact nM (nJ g2)
    ·exact nM (nJ g3)
   exact⟨by rw[jM lt];exact(hf b hb).1,(hf b hb).2⟩
  have I1:Inv X pins σ (upd H s.heap.objs.size (.tup [x,y,v])) { s with heap:=s.heap.push { cls:=.type "tuple",data:=.seq #[u1,u2,u3] } } :=I.laid (t':=s.toks) (λb u e=>uZ _ e) uO ⟨by simp [sizeLine],[u1,u2,u3],.cons ru1 (.cons ru2 (.cons ru3 .nil)),⟨_,gO _ rfl,rfl,_,rfl⟩,.of (gO _ rfl) rfl⟩;have up:∀c o,c≠z->g.get? c=some o->g2.get? c=some o:=λc o cz e=>sb.extBut _ _ cz e;have zs:z≠s.heap.objs.size:=nM (nJ Z.zz);have I2:Inv X pins σ (upd H s.heap.objs.size (.tup [x,y,v])) { s with heap:=g2 } :=by
   refine Inv.turnedL (s:={ s with heap:=s.heap.push { cls:=.type "tuple",data:=.seq #[u1,u2,u3] } }) (h':=g2) (t':=s.toks) I1 fp λb o hb e=>?_;have bz:b≠z:=λh=>hb (by simp [h]);rcases Heap.get?_push_cases e with⟨e1,e2⟩ | e1
   ·rw[e1,e2];exact up _ _ (Ne.symm zs) nu
   ·exact up _ _ bz (kk b o (λh=>hb (by simp only[nF,mJ,or_false]at h ⊢;rcases h with h | h | h | h | h<;>simp [h])) e1)
  have nd':=nd;simp only[List.nodup_cons,nF,not_or,mJ]at nd';obtain⟨⟨zTI,zTO,zi1,zi2,zi3,_⟩,⟨TITO,TIi1,TIi2,TIi3,_⟩,_⟩:=nd';exact⟨.ref s.heap.objs.size,_,I2,rfl,⟨_,x,y,v,fr,rfl,rfl,λxs' h=>by rw[I.list_inj h q1];exact hx,λys' h=>by rw[I.list_inj h q2];exact hy,λvs' h=>by rw[I.list_inj h q3];exact hv⟩,⟨z2,up _ _ (Ne.symm zTI) (kk _ _ (by simp [Ne.symm zTI,TITO,TIi1,TIi2,TIi3]) Z.ti),⟨_,_,_,up _ _ (Ne.symm zTO) to1⟩,n1.at λo e=>up _ o (Ne.symm zi1) e,n2.at λo e=>up _ o (Ne.symm zi2) e,n3.at λo e=>up _ o (Ne.symm zi3) e⟩,λb hb=>(fp b hb).1⟩
 done:=by
  intro X hP hw hK hc i pins s σ H E I hf Z hg;subst hP hw hK;obtain⟨xs,ys,vs,q1,q2,q3,he⟩:=hg;obtain⟨its1,r1,p1,_⟩:=I.list q1;have D:ZA z TI TO i1 i2 i3 l1 l2 l3:=⟨nd,λh=>FpOk.apartL I (hf _ h) q1 rfl,λh=>FpOk.apartL I (hf _ h) q2 rfl,λh=>FpOk.apartL I (hf _ h) q3 rfl⟩;have e1:=r1.length;refine TN (I.ok.hd hc) D Z p1.isList (by simp;omega) λg kk=>⟨rfl,Inv.turnedL (t':=s.toks) I hf λb o hb e=>kk b o (λh=>hb (by simp only[nF,mJ,or_false]at h ⊢;rcases h with h | h | h | h | h<;>simp [h])) e⟩
 self:=λ_ _ _ _ _ Z h=>wpAny_pyIter_zip Z.zz h
section
variable{X:Cx}
def iZipW(K:tJ)(ta:TA):TI:=fun σ H R=>ta σ H λvs H1=>∃a b c,vs=[.ref a,.ref b,.ref c]/\(∃xs,SqL K H1 a xs)/\(∃ys,SqL K H1 b ys)/\(∃ys,SqL K H1 c ys)/\R (Itw K a b c) H1
theorem YV{es:List Expr}{x1}{tp:Pos}{a b c:Expr}{ta:TA}{p pos:Pos}(hg:Gl X "zip")(hm:X.mg "zip" = none)(ha:PA X [a,b,c] ta)(hs:starEach [a,b,c] X.env=(false,eval a X.env)::starEach [b,c] X.env:=by rfl)(hpl:(backTo pos (starEach [b,c] X.env)).any (·.1)=false:=by rfl) :
  PI X (.Tuple es x1 tp) (.Call (.Name "zip" p) [a,b,c] [] pos) (iZipW X.K ta):=by
 intro pins s σ H R I h;refine Call_ (xB I hg hm boot_zip (PyProof.Rows.callWith_type1 (thn (ha pos pins s σ H _ I h) λus s1 ⟨vs,H1,I1,r1,q1⟩=>?_) hs hpl));obtain⟨l1,l2,l3,e,⟨xs,q1⟩,⟨ys,q2⟩,⟨zs,q3⟩,q⟩:=q1;subst e;cases r1 with
 | cons r rr=>
  cases rr with
  | cons r' rr=>
   cases rr with
   | cons r'' rr=>
    cases rr;cases r;cases r';cases r'';obtain⟨its1,_,p1,_⟩:=I1.list q1;obtain⟨its2,_,p2,_⟩:=I1.list q2;obtain⟨its3,_,p3,_⟩:=I1.list q3;refine TH p1.isList p2.isList p3.isList λg k Z=>wpAny_pyIter_zip Z.zz ?_;refine⟨_,_,_,_,H1,rfl,I1.kept (t':=s1.toks) k,QX l1 l2 l3 (by simp),Z,λb hb=>?_,q⟩;have hb':s1.heap.objs.size<=b:=by
     simp only[nF,mJ,or_false]at hb;rcases hb with rfl | rfl | rfl | rfl | rfl | rfl<;>first | exact Nat.le_add_right _ _ | exact nW _
    exact I1.fpOk hb' (I1.hok.fresh hb')
theorem XC{K:tJ}{a b c:Addr}{xs ys vs:List V}{g:TG}{tb:TS}{D:Ends}{σ:St}{H:Hp}(Pv:Nat->St->Hp->Prop)(le:xs.length=ys.length)(le2:xs.length=vs.length)(h0:Pv 0 σ H)(hl:∀i σ H,i<=xs.length->Pv i σ H->SqL K H a xs/\SqL K H b ys/\SqL K H c vs)
  (hs:∀i x y v p σ H,xs[i]? = some x->ys[i]? = some y->vs[i]? = some v->H p=none->Pv i σ H->g (.ref p) σ (upd H p (.tup [x,y,v])) fun σ2 H2=>tb { D with nx:=Pv (i+1),ct:=Pv (i+1),bk:=D.nx } σ2 H2) (hd:∀σ H,Pv xs.length σ H->D.nx σ H) :
  ∃W:Nat->Nat->St->Hp->Prop,(∃m,W 0 m σ H)/\∀i m σ H,W i m σ H->
   ((Itw K a b c).stop i H/\D.nx σ H)∨((Itw K a b c).go i H/\∃N:St->Hp->Prop,(∀σ' H',N σ' H'->∃m',m'<m/\W (i+1) m' σ' H')/\∀x H',(Itw K a b c).yld i H x H'->g x σ H' fun σ2 H2=>tb { D with nx:=N,ct:=N,bk:=D.nx } σ2 H2):=by
 refine⟨λi m σ H=>m=xs.length-i/\i<=xs.length/\Pv i σ H,⟨xs.length,by simp,nX _,h0⟩, ?_⟩;rintro i m σ H ⟨rfl,hi,p⟩;obtain⟨q1,q2,q3⟩:=hl i σ H hi p;by_cases hlt:i<xs.length
 ·refine .inr ⟨⟨xs,ys,vs,xs[i],ys[i]'(by omega),vs[i]'(by omega),q1,q2,q3,by simp [hlt],by simp [le▸hlt],by simp [le2▸hlt]⟩,Pv (i+1),fun σ' H' p'=>⟨xs.length-(i+1),by omega,rfl,hlt,p'⟩,λv H' y=>?_⟩;obtain⟨r,x,y,v,hr,rfl,rfl,hx,hy,hv⟩:=y;exact hs i x y v r σ H (hx xs q1) (hy ys q2) (hv vs q3) hr p
 ·have ei:i=xs.length:=by omega
  subst ei;exact .inl ⟨⟨xs,ys,vs,q1,q2,q3,nW _⟩,hd σ H p⟩
end
end L2
namespace Lw
open PySem PySem.Spec PyProof.Rows L2
theorem rvT{K:tJ}{H:Hp}{p:Addr}{xs:List V}{i:Int}{v:V}{Q:VK}{σ:L2.St}{a:Nat}(e1:σ[a]? = some (some (.ref p)))(h:SqT K H p xs)(e:atI xs i=some v)(q:Q v H):tOp (UP K) (kI a) (tC (.int i)) σ H Q:=⟨_,e1,p,xs,i,v,rfl,rfl,h,e,q⟩
theorem rvL{K:tJ}{H:Hp}{p:Addr}{xs:List V}{i:Int}{v:V}{Q:VK}{σ:L2.St}{a:Nat}(e1:σ[a]? = some (some (.ref p)))(h:SqL K H p xs)(e:atI xs i=some v)(q:Q v H):tOp (EI K) (kI a) (tC (.int i)) σ H Q:=⟨_,e1,p,xs,i,v,rfl,rfl,h,e,q⟩
theorem gT2{K:tJ}{H:Hp}{a:Addr}{x y:V}{i j n:Nat}{σ:L2.St}{Q:L2.St->Hp->Prop}(h:SqT K H a [x,y])(hn:2=n)(q:Q ((σ.set i (some x)).set j (some y)) H):AM K n (qI (jP i) (qI (jP j) gNil)) (.ref a) σ H Q:=⟨a,_,rfl,h,hn,_,_,rfl,_,_,rfl,rfl,q⟩
theorem oVV{C:Int->Int->Prop}{g:Int->Int->V}{σ:L2.St}{a b:Nat}{x y:Int}{H:Hp}{Q:VK}(e1:σ[a]? = some (some (.int x)))(e2:σ[b]? = some (some (.int y)))(c:C x y)(q:Q (g x y) H):tOp (rI C g) (kI a) (kI b) σ H Q:=⟨_,e1,_,e2,_,_,rfl,rfl,c,q⟩
theorem WY{p:Addr}{xs:List V}{i:Int}{j a:Nat}{v:V}{σ:L2.St}{H:Hp}{Q:L2.St->Hp->Prop}(e:σ[a]? = some (some (.ref p)))(h:H p=some (.lst xs))(hj:ixN xs.length i=some j)(q:Q σ (upd H p (.lst (xs.set j v)))):KU (kI a) (tC (.int i)) rSetL v σ H Q:=⟨_,e,p,xs,i,j,rfl,rfl,h,hj,q⟩
def Tape(cl:Addr)(H:Hp)(tp:Addr)(B:Int):Prop:=∃(ns:List Int) (spot rest left:Int),H tp=some (.lst [.ref cl,.int spot,.int rest,.int left])/\H cl=some (.lst (ns.map V.int))/\ns.length<=63/\0<=spot/\spot<=B
theorem Tape.mono{cl:Addr}{H H':Hp}{tp:Addr}{B B':Int}(e:Same H H')(hB:B<=B')(h:Tape cl H tp B):Tape cl H' tp B':=by
 obtain⟨ns,spot,rest,left,h1,h2,h3,h4,h5⟩:=h;exact⟨ns,spot,rest,left,e _ _ h1,e _ _ h2,h3,h4,by omega⟩
def spGcd:Sp:=λvs H Q _=>∃a b:Int,vs=[.int a,.int b]/\0<b/\b.natAbs<2^8000/\Q (.int (Int.gcd a b)) H
def spDraw:Sp:=λvs H Q _=>∃(tp:Addr) (many B:Int),vs=[.ref tp,.int many]/\∃cl,Tape cl H tp B/\B<2^40/\0<many/\many<2^100/\
 ∀(r:Int) (H':Hp),0<=r->r<many->Tape cl H' tp (B+1)->But tp H H'->Q (.int r) H'
theorem zW{tp:Addr}{many B:Int}{cl:Addr}{H:Hp}{Q:VK}{σ:L2.St}{a:Nat}(e:σ[a]? = some (some (.ref tp)))(hT:Tape cl H tp B)(h1:B<2^40)(h2:0<many)(h3:many<2^100)(k:∀(r:Int) (H':Hp),0<=r->r<many->Tape cl H' tp (B+1)->But tp H H'->Q (.int r) H'):NN spDraw [] E0 (vJ (kI a) (vJ (tC (.int many)) tNil)) σ H Q:=⟨_,e,tp,many,B,rfl,cl,hT,h1,h2,h3,k⟩
def xT(t b:Int):Int:=(if b<0 then 0-t else t)/(Int.gcd t b:Int)
def xU(t b:Int):Int:=(if b<0 then 0-b else b)/(Int.gcd t b:Int)
def LowFit(t b:Int):Prop:=b.natAbs<2^8000∨(t.natAbs<2^13400/\b.natAbs<2^13400)
def spLow:Sp:=λvs H Q _=>∃t b:Int,vs=[.int t,.int b]/\b≠0/\LowFit t b/\
 ∀(p:Addr) (H':Hp),H p=none->Same H H'->H' p=some (.tup [.int (xT t b),.int (xU t b)])->Q (.ref p) H'
def NQ(K:tJ):Sp:=λvs H Q _=>∃(a:Addr) (ns:List Int),vs=[.ref a]/\SqL K H a (ns.map V.int)/\ns.length<=63/\∀H',Q (.bl true) H'
structure Txt(mg:Str->Option Value):Prop where
 isi:mg "isinstance" = none
 len:mg "len" = none
 int:mg "int" = none
 bool:mg "bool" = none
 tup:mg "tuple" = none
 lst:mg "list" = none
 abs:mg "abs" = none
 rng:mg "range" = none
 lbits:∃t,mg "LONG_BITS" = some (.int 8000 t)
 zip:mg "zip" = none
 sorted:mg "sorted" = none
 enum:mg "enumerate" = none
 dct:mg "dict" = none
 max:mg "max" = none
 min:mg "min" = none
structure Df(K:tJ)(mg:Str->Option Value)(x:Str)(st:Stmt)(ps:List Str)(f:Addr)(fd:FuncData):Prop where
 F:Fun K x x st f fd
 b:Binds K fd ps []
 m:mg x=some (.ref f)
variable{P:Program}{w:World}{K:tJ}{mg:Str->Option Value}{base:Heap}{f fd:_}
theorem scGcd:FnScope ["one","other"] ["one","other"] (jQ MD):=⟨rfl,rfl,rfl,by decide +kernel,rfl,by decide +kernel,by decide +kernel⟩
theorem mt_bits{X:Cx} :MtR X "int.bit_length" (λx xs H Q=>∃i:Int,x=.int i/\xs=[]/\Q (.int (Builtin.Int.intBits i:Nat)) H):=by
 intro pins s σ H x xs v us Q I rx rs q;obtain⟨i,rfl,rfl,q⟩:=q;obtain⟨t,rfl⟩:=rx;cases rs;exact call_int_bit_length ⟨.int (Builtin.Int.intBits i:Nat),H,I.tok _,⟨_,rfl⟩,q⟩
theorem VO(F:Fun K "greatest_divisor" "greatest_divisor" MD f fd)(T:Txt mg):FnOk P w K mg base CX0 1 f fd ["one","other"] spGcd:=by
 obtain⟨tl,hl⟩:=T.lbits;refine F.ok scGcd (λvs H Q E h=>?_) (λcdv A outer s H vs Q E hr h=>?_)
 ·obtain⟨a,b,rfl,_⟩:=h
  rfl
 ·obtain⟨a,b,rfl,hb,hs,k⟩:=h;refine⟨_,jB (yR PassesOwn.never (jU JR (pv 1) jD (jX _))
    (jE (kN (jU OK (UY PySem.F.plainAttrs_int slot_int_bit_length type_int_bit_length mt_bits (pv 1)) (OG (v:=.int 8000) (by rfl) hl ⟨_,rfl⟩) (jX _)) vZ
     (jE (CH (i:=0) (j:=1) rfl scGcd.nd rfl rfl (by decide) rfl rfl (jA (pv 1) (jA (jK vD (pv 0) (pv 1)) jC)) rfl)))))
   (jE (jS (pv 0))), ?_⟩
  try dsimp only[cxK]
  refine IR (fun σ H1=>H1=H/\∃p q:Int,σ=[some (.int p),some (.int q)]/\0<=q/\(0<q∨0<=p)/\q.natAbs<2^8000/\Int.gcd p q=Int.gcd a b)
   (fun σ _=>match σ with | [_,some (.int q)]=>q.toNat | _=>0) ⟨rfl,a,b,rfl,by omega,.inl hb,hs,rfl⟩ ?_ ?_
  ·rintro σ H1 ⟨rfl,p,q,rfl,h0,h1,hq8,h2⟩;refine⟨_,rfl,rfl,_,rfl, ?_⟩;refine AV (λe=>?_) (λe=>?_)
   ·have hq:0<q:=by
     have:q≠0:=λz=>by simp [z]at e
     omega
    have hbits:(Builtin.Int.intBits q)<=8000:=PySem.intBits_le_iff.mpr hq8;refine⟨_,rfl,rfl,_,rfl,rfl,_,_,rfl,rfl,_,rfl,CT (mR (by omega)) ?_⟩;refine⟨_,rfl,_,rfl,_,rfl,_,_,rfl,rfl,hq,_,_,rfl, ?_⟩;have m1:=Int.emod_nonneg p (b:=q) (by omega);have m2:=Int.emod_lt_of_pos p hq;have m3:(p%q).natAbs<=q.natAbs:=by omega
    refine⟨⟨rfl,q,p%q,rfl,m1,.inr h0,gR m3 hq8,(LwM.KS p q).trans h2⟩, ?_⟩;show(p%q).toNat<q.toNat;omega
   ·have hq:q=0:=by
     by_cases z:q=0
     ·exact z
     ·exact absurd (by simp [z]) e
    subst hq;refine⟨_,rfl, ?_⟩;have:p=((Int.gcd a b:Nat):Int):=by
     rw[<-h2,Int.gcd_zero_right];omega
    rw[this];exact k
  ·rintro σ H1 Q1 Q2 hQ ⟨v,e,hs,k',ek,q⟩;exact⟨v,e,hs,k',ek,hQ _ _ q⟩
theorem scLow:FnScope ["top","bottom","one","other"] ["top","bottom"] (jQ EH):=⟨rfl,rfl,rfl,by decide +kernel,rfl,by decide +kernel,by decide +kernel⟩
theorem ok_low(F:Fun K "_law_low" "_law_low" EH f fd)(T:Txt mg):FnOk P w K mg base CX0 1 f fd ["top","bottom"] spLow:=by
 refine F.ok scLow (λvs H Q E h=>?_) (λcdv A outer s H vs Q E hr h=>?_)
 ·obtain⟨t,b,rfl,_⟩:=h
  rfl
 ·obtain⟨t,b,rfl,hb,hs,k⟩:=h;refine⟨_,jB (kN (jU zV (pv 1) jD (jX _)) (jE (CH (i:=0) (j:=1) rfl scLow.nd rfl rfl (by decide) rfl rfl (jA (jK qL jD (pv 0)) (jA (jK qL jD (pv 1)) jC)) rfl)) kA)
   (jB (jN (i:=2) scLow.nd rfl (Or.inl rfl) (qD XX (by rfl) T.abs boot_abs (jA (pv 0) jC)))
   (jB (jN (i:=3) scLow.nd rfl (Or.inl rfl) (pv 1))
   (jB (yR PassesOwn.never (jU OK (pv 2) jD (jX _)) (jE (CH (i:=2) (j:=3) rfl scLow.nd rfl rfl (by decide) rfl rfl (jA (jK vD (pv 3) (pv 2)) (jA (pv 2) jC)) rfl)))
   (jE (jS (pe_tup (jA (jK LwD.JT (pv 0) (pv 3)) (jA (jK LwD.JT (pv 1) (pv 3)) jC)))))))), ?_⟩
  try dsimp only[cxK]
  refine⟨_,rfl,_,_,rfl,rfl,_,rfl, ?_⟩;have fin:∀t' b':Int,0<b'->(∀q:Int,0<q->q<=b'->LwD.CDivP t' q/\LwD.CDivP b' q)->t'=(if b<0 then 0-t else t)->b'=(if b<0 then 0-b else b)->Int.gcd t' b'=Int.gcd t b->
    (qM (xO (tCB (λxs H Q=>∃i,xs=[V.int i]/\Q (.int (if i<0 then -i else i)) H) (vJ (kI 0) tNil)) (jP 2)) (qM (xO (kI 1) (jP 3)) (qM (LV (NM (tOp (rI0 λi j=>V.bl (decide (j<i))) (kI 2) (tC (.int 0)))) (tPar 2 3 (vJ (tOp (rI (λ_ j=>0<j) λi j=>.int (i%j)) (kI 3) (kI 2)) (vJ (kI 2) tNil)))) (RE (tTup (vJ (tOp (rI LwD.CDivP λi j=>.int (i/j)) (kI 0) (kI 3)) (vJ (tOp (rI LwD.CDivP λi j=>.int (i/j)) (kI 1) (kI 3)) tNil))))))) { nx:=λ_ H'=>Q .non H',rt:=Q } [some (.int t'),some (.int b'),none,none] H:=by
   intro t' b' hb' hs' et eb hg;refine⟨_,rfl,_,rfl,_,rfl, ?_⟩;refine IR (fun σ H1=>H1=H/\∃p q:Int,σ=[some (.int t'),some (.int b'),some (.int p),some (.int q)]/\0<=p/\0<q/\Int.gcd q p=Int.gcd t b)
    (fun σ _=>match σ with | [_,_,some (.int p),_]=>p.toNat | _=>0) ⟨rfl,_,b',rfl,by split<;>omega,hb', ?_⟩ ?_ ?_
   ·rw[<-hg,Int.gcd_comm t'];split
    ·exact Int.gcd_neg
    ·rfl
   ·rintro σ H1 ⟨rfl,p,q,rfl,h0,h1,h2⟩;refine⟨_,rfl,_,_,rfl,rfl,_,rfl, ?_⟩;refine AV (λe=>?_) (λe=>?_)
    ·have hp:0<p:=mB e;refine⟨_,rfl,_,rfl,_,_,rfl,rfl,hp,_,rfl,_,_,rfl, ?_⟩;have m1:=Int.emod_nonneg q (b:=p) (by omega);have m2:=Int.emod_lt_of_pos q hp;refine⟨⟨rfl,q%p,p,rfl,m1,hp,(LwM.KS q p).trans h2⟩, ?_⟩;show(q%p).toNat<p.toNat;omega
    ·have hp:p=0:=by
      have:¬0<p:=λz=>e (mU z);omega
     subst hp;have hq:q=((Int.gcd t b:Nat):Int):=by
      rw[<-h2,Int.gcd_zero_right];omega
     have gb:q<=b':=by
      rw[hq,<-hg];exact LwM.WX t' b' hb'
     obtain⟨c1,c2⟩:=hs' q h1 gb;refine⟨_,rfl,_,rfl,_,_,rfl,rfl,c1,_,rfl,_,rfl,_,_,rfl,rfl,c2,uQ, ?_⟩;refine fresh λp H' n s1 e1=>k p H' n s1 ?_;rw[e1,hq,et,eb]
     rfl
   ·rintro σ H1 Q1 Q2 hQ ⟨v,e,i,j,e1,e2,k',ek,q⟩;exact⟨v,e,i,j,e1,e2,k',ek,hQ _ _ q⟩
  have hs2:∀t' b':Int,t'.natAbs=t.natAbs->b'.natAbs=b.natAbs->0<b'->∀q:Int,0<q->q<=b'->LwD.CDivP t' q/\LwD.CDivP b' q:=λt' b' e1 e2 h0 q h1 h2=>by
   rcases hs with hs | ⟨ha,hb2⟩
   ·have hq:q.natAbs<2^8000:=gR (by omega) hs;exact⟨LwD.LJ ⟨h1,hq⟩,LwD.LJ ⟨h1,hq⟩⟩
   ·exact⟨LwD.EA h1 uO (by rw[e1];exact ha),LwD.EA h1 uO (by rw[e2];exact hb2)⟩
  by_cases n:b<0
  ·refine IA (mU n) ?_;refine⟨_,rfl,_,_,rfl,rfl,_,rfl,_,_,rfl,rfl,_,_,rfl, ?_⟩;refine fin (0-t) (0-b) (by omega) (hs2 _ _ (by omega) (by omega) (by omega)) (by rw[tI n]) (by rw[tI n]) ?_;rw[Int.zero_sub,Int.zero_sub,Int.neg_gcd,Int.gcd_neg]
  ·refine CT (mR n) ?_;exact fin t b (by omega) (hs2 _ _ rfl rfl (by omega)) (by rw[tH n]) (by rw[tH n]) rfl
theorem OT{t b:Int}(h:0<b):xT t b=t/(Int.gcd t b:Int)/\xU t b=b/(Int.gcd t b:Int):=by
 unfold xT xU;rw[tH (by omega),tH (by omega)];exact⟨rfl,rfl⟩
theorem at_ints{ns:List Int}{i:Int}(h0:0<=i)(h1:i<ns.length):∃c:Int,atI (ns.map V.int) i=some (.int c):=by
 obtain⟨j,rfl⟩:=uX h0;have hj:j<ns.length:=by omega
 exact⟨ns[j],qS (by simp [hj])⟩
theorem scDraw:FnScope ["tape","many","spot","cell","some","rest"] ["tape","many"] (jQ wQ):=⟨rfl,rfl,rfl,by decide +kernel,rfl,by decide +kernel,by decide +kernel⟩
theorem ZQ(F:Fun K "_law_draw" "_law_draw" wQ f fd)(T:Txt mg):FnOk P w K mg base CX0 1 f fd ["tape","many"] spDraw:=by
 refine F.ok scDraw (λvs H Q E h=>?_) (λcdv A outer s H vs Q E hr h=>?_)
 ·obtain⟨tp,many,B,rfl,_⟩:=h
  rfl
 ·obtain⟨tp,many,B,rfl,cl,⟨ns,spot,rest,left,h1,h2,h3,h4,h5⟩,hB,hm,hm2,k⟩:=h;have hne:cl≠tp:=by
   rintro rfl;rw[h1]at h2;injection h2 with h2
   injection h2 with h2
   cases ns with
   | nil=>cases h2
   | cons n r=>injection h2 with z;cases z
  refine⟨_,jB (kN (jU xR (jT kK (pv 0) jD (λ_ _=>rfl)) jD (jX _))
    (jB (jN (i:=2) scDraw.nd rfl (Or.inl rfl) (jT kK (pv 0) jD (λ_ _=>rfl)))
    (jB (kU (jK kW (pv 2) jD) (xY (pv 0) jD vC))
    (jB (jN (i:=3) scDraw.nd rfl (Or.inl rfl) jD)
    (jB (kN (jU OK (qD qG (by rfl) T.len PySem.boot_len (jA (jT kK (pv 0) jD (λ_ _=>rfl)) jC)) jD (jX _))
     (jE (jN (i:=3) scDraw.nd rfl (Or.inl rfl) (jT kK (jT kK (pv 0) jD (λ_ _=>rfl)) (jK vD (pv 2) (qD qG (by rfl) T.len PySem.boot_len (jA (jT kK (pv 0) jD (λ_ _=>rfl)) jC))) (λ_ _=>rfl)))) kA)
    (jB (kN (PW.pt (wT (jU JS (pv 2) (qD qG (by rfl) T.len PySem.boot_len (jA (jT kK (pv 0) jD (λ_ _=>rfl)) jC)) (jX _)) (yQ (jU zV (pv 3) (jK VC jD jD) (jX _)))))
     (jB (jN (i:=4) scDraw.nd rfl (Or.inl rfl) (jK kW (jK kW (jK vD (jK CK (pv 2) (pv 2)) jD) (jK CK jD (pv 2))) jD))
     (jB (jN (i:=4) scDraw.nd rfl (Or.inl rfl) (jK vD (jK CK (jK kW (jK vD (pv 3) jD) jD) (pv 4)) jD))
     (jE (jS (jK vD (jK vD (jK kW (jK ZD (jK vD (jK CK (pv 4) (pv 4)) jD) jD) (jK CK jD (pv 2))) jD) (pv 1)))))) kA)
    (jB (kU (jK qL (pv 3) (jK VC jD jD)) (xY (pv 0) jD vC))
    (jE (kU jD (xY (pv 0) jD vC))))))))) kA)
   (jB (kU (jK qL (jT kK (pv 0) jD (λ_ _=>rfl)) jD) (xY (pv 0) jD vC))
   (jB (jN (i:=5) scDraw.nd rfl (Or.inl rfl) (jT kK (pv 0) jD (λ_ _=>rfl)))
   (jB (kU (jK vE (pv 5) (pv 1)) (xY (pv 0) jD vC))
   (jE (jS (jK vD (pv 5) (pv 1))))))), ?_⟩
  try dsimp only[cxK]
  have hmd:many.natAbs<2^8000:=by
   have:many.natAbs<2^100:=by
    have h:((2^100:Nat):Int)=2^100:=by decide
    omega
   exact gU this (gJ (by decide) (by decide))
  have tail:∀(spot' rest' left':Int) (a b c d:Option V) (H1:Hp),H1 tp=some (.lst [.ref cl,.int spot',.int rest',.int left'])->But tp H H1->0<=spot'->spot'<=B+1->
    (qM (xO (tOp (rI0 λi j=>V.int (i-j)) (tOp (EI K) (kI 0) (tC (.int 3))) (tC (.int 1))) (KU (kI 0) (tC (.int 3)) rSetL))
     (qM (xO (tOp (EI K) (kI 0) (tC (.int 2))) (jP 5))
     (qM (xO (tOp (rI CDivL λi j=>.int (i/j)) (kI 5) (kI 1)) (KU (kI 0) (tC (.int 2)) rSetL))
     (RE (tOp (rI (λ_ j=>0<j) λi j=>.int (i%j)) (kI 5) (kI 1)))))) { nx:=λ_ H'=>Q .non H',rt:=Q } [some (.ref tp),some (.int many),a,b,c,d] H1:=by
   intro spot' rest' left' a b c d H1 g1 g2 g3 g4;refine(rvL rfl (SqL.of g1) rfl ⟨_,_,rfl,rfl, ?_⟩);refine WY rfl g1 rfl ?_;refine(rvL rfl (SqL.of jG) rfl ?_);refine oVV rfl rfl ⟨hm,hmd⟩ (WY rfl jG rfl ?_);refine⟨_,rfl,_,rfl,_,_,rfl,rfl,hm, ?_⟩;refine k _ _ (Int.emod_nonneg _ (by omega)) (Int.emod_lt_of_pos _ hm) ⟨ns,spot',_,_,jG, ?_,h3,g3,g4⟩ ?_
   ·rw[jM hne,jM hne];exact g2 _ _ h2 hne
   ·exact(g2.trans (But.upd _ _ _)).trans (But.upd _ _ _)
  refine(rvL rfl (SqL.of h1) rfl ⟨rfl,_,rfl, ?_⟩);by_cases hl:left=0
  ·subst hl;refine IA (by decide) ?_;refine(rvL rfl (SqL.of h1) rfl ?_);refine⟨_,rfl,_,_,rfl,rfl,WY rfl h1 rfl ?_⟩;have T1:∀o,(upd H tp o) cl=some (.lst (ns.map V.int)):=λo=>by
    rw[jM hne];exact h2
   have mid:∀(cell:Int) (b c:Option V),(qM (RF (tOr (NM (tOp (rI0 λi j=>V.bl (decide (j<=i))) (kI 2) (tCB (λxs H Q=>∃p ys,xs=[V.ref p]/\(SqL K H p ys∨SqT K H p ys)/\Q (.int ys.length) H) (vJ (tOp (EI K) (kI 0) (tC (.int 0))) tNil))))
      (NM (tOp (rI0 λi j=>V.bl (decide (i<j))) (kI 3) (tOp (rI CPow λi j=>.int (i^j.toNat)) (tC (.int 10)) (tC (.int 18))))))
     (qM (xO (tOp (rI0 λi j=>V.int (i+j)) (tOp (rI0 λi j=>V.int (i+j)) (tOp (rI (λ_ j=>0<j) λi j=>.int (i%j)) (tOp (rI CMul λi j=>.int (i*j)) (kI 2) (kI 2)) (tC (.int 10007))) (tOp (rI CMul λi j=>.int (i*j)) (tC (.int 61)) (kI 2))) (tC (.int 7))) (jP 4))
     (qM (xO (tOp (rI (λ_ j=>0<j) λi j=>.int (i%j)) (tOp (rI CMul λi j=>.int (i*j)) (tOp (rI0 λi j=>V.int (i+j)) (tOp (rI (λ_ j=>0<j) λi j=>.int (i%j)) (kI 3) (tC (.int 999983))) (tC (.int 3))) (kI 4)) (tC (.int 1000003))) (jP 4))
     (RE (tOp (rI (λ_ j=>0<j) λi j=>.int (i%j)) (tOp (rI (λ_ j=>0<j) λi j=>.int (i%j)) (tOp (rI0 λi j=>V.int (i+j)) (tOp (rI CDiv λi j=>.int (i/j)) (tOp (rI (λ_ j=>0<j) λi j=>.int (i%j)) (tOp (rI CMul λi j=>.int (i*j)) (kI 4) (kI 4)) (tC (.int 999979))) (tC (.int 3))) (tOp (rI CMul λi j=>.int (i*j)) (tC (.int 131)) (kI 2))) (tC (.int 99991))) (kI 1)))))
     tNext)
     (qM (xO (tOp (rI0 λi j=>V.int (i-j)) (kI 3) (tOp (rI CPow λi j=>.int (i^j.toNat)) (tC (.int 10)) (tC (.int 18)))) (KU (kI 0) (tC (.int 2)) rSetL))
     (xO (tC (.int 40)) (KU (kI 0) (tC (.int 3)) rSetL))))
     { nx:=(qM (xO (tOp (rI0 λi j=>V.int (i-j)) (tOp (EI K) (kI 0) (tC (.int 3))) (tC (.int 1))) (KU (kI 0) (tC (.int 3)) rSetL))
     (qM (xO (tOp (EI K) (kI 0) (tC (.int 2))) (jP 5))
     (qM (xO (tOp (rI CDivL λi j=>.int (i/j)) (kI 5) (kI 1)) (KU (kI 0) (tC (.int 2)) rSetL))
     (RE (tOp (rI (λ_ j=>0<j) λi j=>.int (i%j)) (kI 5) (kI 1)))))) { nx:=λ_ H'=>Q .non H',rt:=Q },rt:=Q } [some (.ref tp),some (.int many),some (.int spot),some (.int cell),b,c] (upd H tp (.lst [.ref cl,.int (spot+1),.int rest,.int 0])):=by
    intro cell b c;have pw:CPow 10 18:=⟨by decide,by decide,by decide⟩;have drawn:(qM (xO (tOp (rI0 λi j=>V.int (i+j)) (tOp (rI0 λi j=>V.int (i+j)) (tOp (rI (λ_ j=>0<j) λi j=>.int (i%j)) (tOp (rI CMul λi j=>.int (i*j)) (kI 2) (kI 2)) (tC (.int 10007))) (tOp (rI CMul λi j=>.int (i*j)) (tC (.int 61)) (kI 2))) (tC (.int 7))) (jP 4))
     (qM (xO (tOp (rI (λ_ j=>0<j) λi j=>.int (i%j)) (tOp (rI CMul λi j=>.int (i*j)) (tOp (rI0 λi j=>V.int (i+j)) (tOp (rI (λ_ j=>0<j) λi j=>.int (i%j)) (kI 3) (tC (.int 999983))) (tC (.int 3))) (kI 4)) (tC (.int 1000003))) (jP 4))
     (RE (tOp (rI (λ_ j=>0<j) λi j=>.int (i%j)) (tOp (rI (λ_ j=>0<j) λi j=>.int (i%j)) (tOp (rI0 λi j=>V.int (i+j)) (tOp (rI CDiv λi j=>.int (i/j)) (tOp (rI (λ_ j=>0<j) λi j=>.int (i%j)) (tOp (rI CMul λi j=>.int (i*j)) (kI 4) (kI 4)) (tC (.int 999979))) (tC (.int 3))) (tOp (rI CMul λi j=>.int (i*j)) (tC (.int 131)) (kI 2))) (tC (.int 99991))) (kI 1))))) { nx:=λ_ _=>False,rt:=Q } [some (.ref tp),some (.int many),some (.int spot),some (.int cell),b,c] (upd H tp (.lst [.ref cl,.int (spot+1),.int rest,.int 0])):=by
     refine⟨_,rfl,_,rfl,_,_,rfl,rfl,.inl ⟨by omega,by omega⟩,_,_,rfl,rfl,(by show(0:Int)<_;decide), ?_⟩;refine⟨_,rfl,_,_,rfl,rfl,.inl ⟨by omega,by omega⟩,_,_,rfl,rfl,_,_,rfl,rfl, ?_⟩;have c1:=Int.emod_nonneg cell (b:=999983) (by decide);have c2:=Int.emod_lt_of_pos cell (b:=999983) (by decide);refine⟨_,rfl,_,_,rfl,rfl,(by show(0:Int)<_;decide),_,_,rfl,rfl,_,rfl,_,_,rfl,rfl,.inl ⟨by omega,by omega⟩,_,_,rfl,rfl,(by show(0:Int)<_;decide), ?_⟩;generalize hx:((cell%999983+3)*(spot*spot%10007+61*spot+7))=x;have d1:=Int.emod_nonneg x (b:=1000003) (by decide);have d2:=Int.emod_lt_of_pos x (b:=1000003) (by decide);refine⟨_,rfl,_,rfl,_,_,rfl,rfl,.inl ⟨by omega,by omega⟩,_,_,rfl,rfl,(by show(0:Int)<_;decide),_,_,rfl,rfl,⟨by decide,by decide⟩, ?_⟩;refine⟨_,rfl,_,_,rfl,rfl,.inl ⟨by decide,by decide⟩,_,_,rfl,rfl,_,_,rfl,rfl,(by show(0:Int)<_;decide),_,rfl,_,_,rfl,rfl,hm, ?_⟩;exact k _ _ (Int.emod_nonneg _ (by omega)) (Int.emod_lt_of_pos _ hm) ⟨ns,spot+1,_,_,jG,T1 _,h3,by omega,by omega⟩ (But.upd _ _ _)
    refine⟨_,rfl,rvL rfl (SqL.of jG) rfl ⟨cl,_,rfl,.inl (SqL.of (T1 _)),_,_,rfl,rfl,_,rfl, ?_⟩⟩;by_cases z1:((ns.map V.int).length:Int)<=spot
    ·refine IA (mU z1) (vG ?_);exact drawn
    ·refine CT (mR z1) ?_;refine⟨_,rfl,_,_,rfl,rfl,pw,_,_,rfl,rfl,_,rfl, ?_⟩;by_cases z2:cell<(10:Int)^(18:Int).toNat
     ·refine IA (mU z2) ?_;exact drawn
     ·refine CT (mR z2) ?_;refine⟨_,rfl,_,_,rfl,rfl,pw,_,_,rfl,rfl,WY rfl jG rfl ?_⟩;refine WY rfl jG rfl ?_;exact tail (spot+1) _ 40 _ _ _ _ _ jG (((But.upd _ _ _).trans (But.upd _ _ _)).trans (But.upd _ _ _)) (by omega) (by omega)
   refine(rvL rfl (SqL.of jG) rfl ⟨cl,_,rfl,.inl (SqL.of (T1 _)),_,_,rfl,rfl,_,rfl, ?_⟩);by_cases hn:(0:Int)<((ns.map V.int).length:Int)
   ·refine IA (mU hn) ?_;obtain⟨c,hc⟩:=at_ints (ns:=ns) (i:=spot%((ns.map V.int).length:Int)) (Int.emod_nonneg _ (by omega)) (by have:=Int.emod_lt_of_pos spot hn;rw[mP]at this ⊢;exact this);refine(rvL rfl (SqL.of jG) rfl ⟨_,rfl,rvL rfl (SqL.of jG) rfl ⟨cl,_,rfl,.inl (SqL.of (T1 _)),_,_,rfl,rfl,hn,cl,_,_,_,rfl,rfl,SqL.of (T1 _),hc, ?_⟩⟩);exact mid c _ _
   ·refine CT (mR hn) ?_;exact mid 0 _ _
  ·refine CT (mR (by intro z;injection z with z;exact hl z)) ?_;exact tail spot rest left _ _ _ _ H h1 (But.refl _ _) h4 (by omega)
end Lw
namespace LwV
abbrev Pl:=List (List Int×Rat)
def cf:Pl->List Int->Rat
 | [],_=>0
 | x::P,m=>(if x.1=m then x.2 else 0)+cf P m
theorem vY(x:List Int×Rat)(P:Pl)(m:List Int):cf (x::P) m=(if x.1=m then x.2 else 0)+cf P m:=rfl
theorem DZ:∀(P Q:Pl) (m:List Int),cf (P++Q) m=cf P m+cf Q m
 | [],Q,m=>by show cf Q m=0+cf Q m;grind
 | x::P,Q,m=>by rw[List.cons_append,vY,vY,DZ P Q m];grind
theorem cf_perm{P Q:Pl}(h:P.Perm Q)(m:List Int):cf P m=cf Q m:=by
 induction h with
 | nil=>rfl
 | cons x _ ih=>rw[vY,vY,ih]
 | swap x y l=>simp only[vY];grind
 | trans _ _ h1 h2=>exact h1.trans h2
theorem IN{P:Pl}{m:List Int}(h:∀x∈P,x.1≠m):cf P m=0:=by
 induction P with
 | nil=>rfl
 | cons x P ih=>
  rw[vY,tH (h x (by simp)),ih λy hy=>h y (by simp [hy])]
  grind
theorem cf_in{P:Pl}{m:List Int}(h:cf P m≠0):m∈P.map (·.1):=by
 refine Classical.byContradiction λn=>h (IN λx hx e=>n ?_);exact nN.mpr ⟨x,hx,e⟩
theorem cf_one{P:Pl}(nd:(P.map (·.1)).Nodup){x:List Int×Rat}(hx:x∈P):cf P x.1=x.2:=by
 induction P with
 | nil=>cases hx
 | cons y P ih=>
  rw[nC,List.nodup_cons]at nd;rw[vY];rcases nF.mp hx with rfl | h
  ·rw[tI rfl,IN λz hz e=>nd.1 (nN.mpr ⟨z,hz,e⟩)]
   grind
  ·rw[tH λe=>nd.1 (nN.mpr ⟨x,h,e.symm⟩),ih nd.2 h]
   grind
def wA(a b:List Int):List Int:=List.zipWith (· + ·) a b
end LwV
namespace LwQ
theorem MF{t b o u t' b':Int}{R1 R2:Nat}(hb:0<b)(hu:0<u)(h:t'*(b*u)=(t*u+o*b)*b')(h1:t.natAbs<=R1*b.natAbs)(h2:o.natAbs<=R2*u.natAbs):t'.natAbs<=(R1+R2)*b'.natAbs:=by
 have e:=congrArg Int.natAbs h;rw[mV,mV,mV]at e;have k:(t*u+o*b).natAbs<=(R1+R2)*(b.natAbs*u.natAbs):=by
  refine nK (Int.natAbs_add_le _ _) ?_;rw[mV,mV,Nat.add_mul];refine Nat.add_le_add ?_ ?_
  ·calc t.natAbs*u.natAbs<=R1*b.natAbs*u.natAbs:=gL _ h1
    _=R1*(b.natAbs*u.natAbs):=Nat.mul_assoc ..
  ·calc o.natAbs*b.natAbs<=R2*u.natAbs*b.natAbs:=gL _ h2
    _=R2*(b.natAbs*u.natAbs):=by rw[Nat.mul_assoc,Nat.mul_comm u.natAbs]
 have p:0<b.natAbs*u.natAbs:=Nat.mul_pos (by omega) (by omega);refine Nat.le_of_mul_le_mul_right ?_ p;rw[e]
 calc (t*u+o*b).natAbs*b'.natAbs<=(R1+R2)*(b.natAbs*u.natAbs)*b'.natAbs:=gL _ k
  _=(R1+R2)*b'.natAbs*(b.natAbs*u.natAbs):=by grind
end LwQ
namespace Lw
open PySem PySem.Spec PyProof.Rows L2
structure FrOk(n:Nat)(t b:Int):Prop where
 pos:0<b
 low:Int.gcd t b=1
 st:t.natAbs<2^n
 sb:b.natAbs<2^n
def At2(H:Hp)(p:Addr)(t b:Int):Prop:=H p=some (.tup [.int t,.int b])
theorem kT{a b:Int}{m n:Nat}(ha:a.natAbs<2^m)(hb:b.natAbs<2^n):(a*b).natAbs<2^(m+n):=by
 rw[mV,tD];exact Nat.mul_lt_mul'' ha hb
theorem QT{a b:Int}{n:Nat}(ha:a.natAbs<2^n)(hb:b.natAbs<2^n):(a+b).natAbs<2^(n+1):=by
 rw[Nat.pow_succ];omega
theorem jJ{a:Int}{m n:Nat}(ha:a.natAbs<2^m)(h:m<=n):a.natAbs<2^n:=gU ha (gJ (by decide) h)
theorem xH{a g:Int}{n:Nat}(ha:a.natAbs<2^n)(hg:1<=g):(a/g).natAbs<2^n:=gR (LwM.uJ a g hg) ha
theorem PY{a b:Int}{n:Nat}(hb:0<b)(hs:b.natAbs<2^n):((Int.gcd a b:Nat):Int).natAbs<2^n:=by
 have:=LwM.WX a b hb;have:=LwM.qV a b hb;omega
theorem vF{t b:Int}(h:0<b):xT t b=t/(Int.gcd t b:Int):=(OT h).1
theorem xS{t b:Int}(h:0<b):xU t b=b/(Int.gcd t b:Int):=(OT h).2
def spTwo(K:tJ)(nt nb:Int->Int->Int->Int->Int):Sp:=λvs H Q _=>∃(p q:Addr) (t b o u:Int),vs=[.ref p,.ref q]/\SqT K H p [.int t,.int b]/\SqT K H q [.int o,.int u]/\FrOk 7900 t b/\FrOk 7900 o u/\
 ∀(r:Addr) (H':Hp),H r=none->Same H H'->At2 H' r (xT (nt t b o u) (nb t b o u)) (xU (nt t b o u) (nb t b o u))->Q (.ref r) H'
abbrev spMul(K:tJ):Sp:=spTwo K (λt _ o _=>t*o) (λ_ b _ u=>b*u)
theorem qZ{K:tJ}{H H':Hp}{a:Addr}{xs:List V}(s:Same H H')(h:SqT K H a xs):SqT K H' a xs:=by
 rcases h with(h | ⟨o,h⟩) | h
 ·exact .inl (.inl (s _ _ h))
 ·exact .inl (.inr ⟨o,s _ _ h⟩)
 ·exact .inr h
variable{P:Program}{w:World}{K:tJ}{mg:Str->Option Value}{base:Heap}{f fd:_}
theorem scMul:FnScope ["one","other","top","bottom","over","under","first","second"] ["one","other"] (jQ RJ):=⟨rfl,rfl,rfl,by decide +kernel,rfl,by decide +kernel,by decide +kernel⟩
theorem VI{fG:Addr}{fdG:FuncData}(F:Fun K "multiplied" "multiplied" RJ f fd)(T:Txt mg)(DG:Df K mg "greatest_divisor" MD ["one","other"] fG fdG):FnOk P w K mg base CX0 2 f fd ["one","other"] (spMul K):=by
 have GG:FnOk P w K mg base CX0 1 fG fdG ["one","other"] spGcd:=VO DG.F T;refine F.ok scMul (λvs H Q E h=>?_) (λcdv A outer s H vs Q E hr h=>?_)
 ·obtain⟨p,q,t,b,o,u,rfl,_⟩:=h
  rfl
 ·obtain⟨p,q,t,b,o,u,rfl,hp,hq,f1,f2,k⟩:=h;refine⟨_,jB (kU (pv 0) (kJ rfl (jI (jF (i:=2) scMul.nd rfl (Or.inl rfl)) (jI (jF (i:=3) scMul.nd rfl (Or.inl rfl)) kC))))
   (jB (kU (pv 1) (kJ rfl (jI (jF (i:=4) scMul.nd rfl (Or.inl rfl)) (jI (jF (i:=5) scMul.nd rfl (Or.inl rfl)) kC))))
   (jB (jN (i:=6) scMul.nd rfl (Or.inl rfl) (jH GG hr rfl DG.m DG.F.kp DG.b .nil jR (jA (pv 2) (jA (pv 5) jC))))
   (jB (jN (i:=7) scMul.nd rfl (Or.inl rfl) (jH GG hr rfl DG.m DG.F.kp DG.b .nil jR (jA (pv 4) (jA (pv 3) jC))))
   (jE (jS (jW (jA (jK kH (jK vE (pv 2) (pv 6)) (jK vE (pv 4) (pv 7))) (jA (jK kH (jK vE (pv 3) (pv 7)) (jK vE (pv 5) (pv 6))) jC)))))))), ?_⟩
  try dsimp only[cxK]
  refine⟨_,rfl,p,_,rfl,hp,rfl,_,_,rfl,_,_,rfl,rfl, ?_⟩;refine⟨_,rfl,q,_,rfl,hq,rfl,_,_,rfl,_,_,rfl,rfl, ?_⟩;refine⟨_,rfl,_,rfl,t,u,rfl,f2.pos,jJ f2.sb (by decide), ?_⟩;refine⟨_,rfl,_,rfl,o,b,rfl,f1.pos,jJ f1.sb (by decide), ?_⟩;have a1:=LwM.qV t u f2.pos;have a2:=LwM.qV o b f1.pos;have d1:CDivL t (Int.gcd t u:Int):=⟨by omega,jJ (PY f2.pos f2.sb) (by decide)⟩;have d2:CDivL t (Int.gcd o b:Int):=⟨by omega,jJ (PY f1.pos f1.sb) (by decide)⟩;have m:=LwM.mul_low f1.pos f2.pos f1.low f2.low;refine⟨_,rfl,_,rfl,_,_,rfl,rfl,d1,_,rfl,_,rfl,_,_,rfl,rfl,d2,_,_,rfl,rfl,⟨jJ (xH f1.st a1) (by decide),jJ (xH f2.st a2) (by decide)⟩, ?_⟩;refine⟨_,rfl,_,rfl,_,_,rfl,rfl,d2,_,rfl,_,rfl,_,_,rfl,rfl,d1,_,_,rfl,rfl,⟨jJ (xH f1.sb a2) (by decide),jJ (xH f2.sb a1) (by decide)⟩,uQ,λr H' n s e=>?_⟩;refine k r H' n s ?_;have bu:=nY f1.pos f2.pos;show H' r=_;rw[e,vF bu,xS bu];dsimp only;rw[m.1,m.2]
def FZ(K:tJ):Sp:=λvs H Q _=>∃(p q:Addr) (t b o u:Int),vs=[.ref p,.ref q]/\SqT K H p [.int t,.int b]/\SqT K H q [.int o,.int u]/\FrOk 7900 t b/\FrOk 7900 o u/\o≠0/\
 ∀(r:Addr) (H':Hp),H r=none->Same H H'->At2 H' r (xT (t*u) (b*o)) (xU (t*u) (b*o))->Q (.ref r) H'
theorem OU{t b:Int}(h:b<0):xT (-t) (-b)=xT t b/\xU (-t) (-b)=xU t b:=by
 unfold xT xU;simp only[tH (show ¬(-b<0) by omega),tI h,Int.neg_gcd,Int.gcd_neg,Int.zero_sub];exact⟨trivial,trivial⟩
theorem scDiv:FnScope ["one","other","over","under"] ["one","other"] (jQ RK):=⟨rfl,rfl,rfl,by decide +kernel,rfl,by decide +kernel,by decide +kernel⟩
theorem HN{fM fG:Addr}{fdM fdG:FuncData}(F:Fun K "divided" "divided" RK f fd)(T:Txt mg)(DM:Df K mg "multiplied" RJ ["one","other"] fM fdM)(DG:Df K mg "greatest_divisor" MD ["one","other"] fG fdG):FnOk P w K mg base CX0 3 f fd ["one","other"] (FZ K):=by
 have GM:FnOk P w K mg base CX0 2 fM fdM ["one","other"] (spMul K):=VI DM.F T DG;refine F.ok scDiv (λvs H Q E h=>?_) (λcdv A outer s H vs Q E hr h=>?_)
 ·obtain⟨p,q,t,b,o,u,rfl,_⟩:=h
  rfl
 ·obtain⟨p,q,t,b,o,u,rfl,hp,hq,f1,f2,ho,k⟩:=h;refine⟨_,jB (kU (pv 1) (kJ rfl (jI (jF (i:=2) scDiv.nd rfl (Or.inl rfl)) (jI (jF (i:=3) scDiv.nd rfl (Or.inl rfl)) kC))))
   (jB (kN (jU xR (pv 2) jD (jX _)) (jE UR) kA)
   (jB (kN (jU zV (pv 2) jD (jX _)) (jE (jS (jH GM hr rfl DM.m DM.F.kp DM.b .nil jR (jA (pv 0) (jA (jW (jA (JM BR (pv 3)) (jA (JM BR (pv 2)) jC))) jC))))) kA)
   (jE (jS (jH GM hr rfl DM.m DM.F.kp DM.b .nil jR (jA (pv 0) (jA (jW (jA (pv 3) (jA (pv 2) jC))) jC))))))), ?_⟩
  try dsimp only[cxK]
  refine⟨_,rfl,q,_,rfl,hq,rfl,_,_,rfl,_,_,rfl,rfl, ?_⟩;refine⟨_,rfl,rfl,_,rfl,CT (mR (by intro z;injection z with z;exact ho z)) ?_⟩;refine⟨_,rfl,_,_,rfl,rfl,_,rfl, ?_⟩;have gc:Int.gcd u o=1:=by rw[Int.gcd_comm];exact f2.low
  by_cases hn:o<0
  ·refine IA (mU hn) ?_;refine⟨_,rfl,_,rfl,_,rfl,_,rfl,_,rfl,uQ,λz H1 n1 s1 e1=>?_⟩;refine⟨p,z,t,b,-u,-o,rfl,qZ s1 hp,SqT.of e1,f1,⟨by omega,by rw[Int.neg_gcd,Int.gcd_neg];exact gc,by rw[Int.natAbs_neg];exact f2.sb,by rw[Int.natAbs_neg];exact f2.st⟩,λr H' n s e=>?_⟩;refine k r H' (s1.free n) (s1.trans s) ?_;dsimp only at e;rw[Int.mul_neg,Int.mul_neg,(OU (Int.mul_neg_of_pos_of_neg f1.pos hn)).1,(OU (Int.mul_neg_of_pos_of_neg f1.pos hn)).2]at e;exact e
  ·refine CT (mR hn) ?_;refine⟨_,rfl,_,rfl,_,rfl,uQ,λz H1 n1 s1 e1=>?_⟩;refine⟨p,z,t,b,u,o,rfl,qZ s1 hp,SqT.of e1,f1,⟨by omega,gc,f2.sb,f2.st⟩,λr H' n s e=>?_⟩;exact k r H' (s1.free n) (s1.trans s) e
open LwQ
def spPlus:Sp:=λvs H Q _=>∃(p q:Addr) (t b o u:Int),vs=[.ref p,.ref q]/\At2 H p t b/\At2 H q o u/\0<b/\0<u/\t.natAbs<2^50000/\b.natAbs<2^50000/\o.natAbs<2^50000/\u.natAbs<2^8000/\
 ∀(r:Addr) (t' b':Int) (H':Hp),H r=none->Same H H'->At2 H' r t' b'->0<b'->b'.natAbs<=b.natAbs*u.natAbs->t'*(b*u)=(t*u+o*b)*b'->Q (.ref r) H'
theorem OO{b u:Int}(h:decide (V.int (b%u)=V.int 0)=true):b=u*(b/u):=by
 have e:b%u=0:=by
  have:=mB h;injection this
 have:=Int.mul_ediv_add_emod b u;omega
theorem scPlus:FnScope ["one","other","top"] ["one","other"] (jQ wN):=⟨rfl,rfl,rfl,by decide +kernel,rfl,by decide +kernel,by decide +kernel⟩
theorem OL(F:Fun K "_law_plus" "_law_plus" wN f fd):FnOk P w K mg base CX0 1 f fd ["one","other"] spPlus:=by
 refine F.ok scPlus (λvs H Q E h=>?_) (λcdv A outer s H vs Q E hr h=>?_)
 ·obtain⟨p,q,t,b,o,u,rfl,_⟩:=h
  rfl
 ·obtain⟨p,q,t,b,o,u,rfl,hp,hq,hb,hu,st,sb,so,su,k⟩:=h;refine⟨_,jB (kN (jU xR (jK vD (jT jV (pv 0) jD (λ_ _=>rfl)) (jT jV (pv 1) jD (λ_ _=>rfl))) jD (jX _))
    (jE (jS (jW (jA (jK kW (jT jV (pv 0) jD (λ_ _=>rfl)) (jK kH (jT jV (pv 1) jD (λ_ _=>rfl)) (jK vE (jT jV (pv 0) jD (λ_ _=>rfl)) (jT jV (pv 1) jD (λ_ _=>rfl))))) (jA (jT jV (pv 0) jD (λ_ _=>rfl)) jC))))) kA)
   (jB (kN (jU xR (jK vD (jT jV (pv 1) jD (λ_ _=>rfl)) (jT jV (pv 0) jD (λ_ _=>rfl))) jD (jX _))
    (jE (jS (jW (jA (jK kW (jT jV (pv 1) jD (λ_ _=>rfl)) (jK kH (jT jV (pv 0) jD (λ_ _=>rfl)) (jK vE (jT jV (pv 1) jD (λ_ _=>rfl)) (jT jV (pv 0) jD (λ_ _=>rfl))))) (jA (jT jV (pv 1) jD (λ_ _=>rfl)) jC))))) kA)
   (jB (jN (i:=2) scPlus.nd rfl (Or.inl rfl) (jK kW (jK kH (jT jV (pv 0) jD (λ_ _=>rfl)) (jT jV (pv 1) jD (λ_ _=>rfl))) (jK kH (jT jV (pv 1) jD (λ_ _=>rfl)) (jT jV (pv 0) jD (λ_ _=>rfl)))))
   (jE (jS (jW (jA (pv 2) (jA (jK kH (jT jV (pv 0) jD (λ_ _=>rfl)) (jT jV (pv 1) jD (λ_ _=>rfl))) jC))))))), ?_⟩
  have P:=SqT.of (K:=K) hp;have R:=SqT.of (K:=K) hq;have d1:(b/u).natAbs<2^100000:=jJ (xH sb hu) (by decide);have d2:(u/b).natAbs<2^100000:=jJ (xH su hb) (by decide);have st':t.natAbs<2^100000:=jJ st (by decide);have sb':b.natAbs<2^100000:=jJ sb (by decide);have so':o.natAbs<2^100000:=jJ so (by decide);have su':u.natAbs<2^100000:=jJ su (by decide);have lb:b.natAbs<=b.natAbs*u.natAbs:=uY _ (by omega);have lu:u.natAbs<=b.natAbs*u.natAbs:=Nat.le_mul_of_pos_left _ (by omega);refine⟨_,rfl,p,_,_,_,rfl,rfl,P,rfl,_,rfl,q,_,_,_,rfl,rfl,R,rfl,_,_,rfl,rfl,hu,rfl,_,rfl, ?_⟩;refine AV (λe=>?_) (λ_=>?_)
  ·refine⟨_,rfl,p,_,_,_,rfl,rfl,P,rfl,_,rfl,q,_,_,_,rfl,rfl,R,rfl,_,rfl,p,_,_,_,rfl,rfl,P,rfl,_,rfl,q,_,_,_,rfl,rfl,R,rfl,_,_,rfl,rfl,⟨hu,su⟩,_,_,rfl,rfl,⟨so',d1⟩,_,_,rfl,rfl,_,rfl,p,_,_,_,rfl,rfl,P,rfl,uQ,λr H1 n1 s1 e1=>?_⟩;refine k r _ _ H1 n1 s1 e1 hb lb ?_;have m:=OO e;generalize b/u=x at m;subst m
   grind
  refine⟨_,rfl,q,_,_,_,rfl,rfl,R,rfl,_,rfl,p,_,_,_,rfl,rfl,P,rfl,_,_,rfl,rfl,hb,rfl,_,rfl, ?_⟩;refine AV (λe=>?_) (λ_=>?_)
  ·have m:=OO e;have bu:b.natAbs<2^8000:=by
    have:b∣u:=⟨_,m⟩;have:=Int.le_of_dvd hu this;exact gR (by omega) su
   refine⟨_,rfl,q,_,_,_,rfl,rfl,R,rfl,_,rfl,p,_,_,_,rfl,rfl,P,rfl,_,rfl,q,_,_,_,rfl,rfl,R,rfl,_,rfl,p,_,_,_,rfl,rfl,P,rfl,_,_,rfl,rfl,⟨hb,bu⟩,_,_,rfl,rfl,⟨st',d2⟩,_,_,rfl,rfl,_,rfl,q,_,_,_,rfl,rfl,R,rfl,uQ,λr H1 n1 s1 e1=>?_⟩;refine k r _ _ H1 n1 s1 e1 hu lu ?_;generalize u/b=x at m;subst m
   grind
  ·refine⟨_,rfl,p,_,_,_,rfl,rfl,P,rfl,_,rfl,q,_,_,_,rfl,rfl,R,rfl,_,_,rfl,rfl,⟨st',su'⟩,_,rfl,q,_,_,_,rfl,rfl,R,rfl,_,rfl,p,_,_,_,rfl,rfl,P,rfl,_,_,rfl,rfl,⟨so',sb'⟩,_,_,rfl,rfl, ?_⟩;refine⟨_,rfl,_,rfl,p,_,_,_,rfl,rfl,P,rfl,_,rfl,q,_,_,_,rfl,rfl,R,rfl,_,_,rfl,rfl,⟨sb',su'⟩,uQ,λr H1 n1 s1 e1=>?_⟩;exact k r _ _ H1 n1 s1 e1 (nY hb hu) (Nat.le_of_eq (mV _ _)) rfl
open LwV
structure Kp(H H':Hp):Prop where
 tup:∀a xs,H a=some (.tup xs)->H' a=some (.tup xs)
 frz:∀a o x,H a=some (.frz o x)->H' a=some (.frz o x)
theorem Kp.of{H H':Hp}(s:Same H H'):Kp H H':=⟨λ_ _ e=>s _ _ e,λ_ _ _ e=>s _ _ e⟩
theorem Kp.trans{A B C:Hp}(h:Kp A B)(k:Kp B C):Kp A C:=⟨λ_ _ e=>k.tup _ _ (h.tup _ _ e),λ_ _ _ e=>k.frz _ _ _ (h.frz _ _ _ e)⟩
def Soft:HO->Prop
 | .tup _=>False
 | .frz _ _=>False
 | _=>True
theorem Kp.but{p:Addr}{H H':Hp}{x:HO}(b:But p H H')(e:H p=some x)(s:Soft x):Kp H H':=
 ⟨λa xs h=>b _ _ h λz=>by rw[z,e]at h;cases h;exact s,λa o y h=>b _ _ h λz=>by rw[z,e]at h;cases h;exact s⟩
theorem Kp.butT{cl tp:Addr}{H H':Hp}{B:Int}(b:But tp H H')(T:Tape cl H tp B):Kp H H':=by
 obtain⟨ns,spot,rest,left,z,_⟩:=T;exact Kp.but b z trivial
theorem Kp.upd{p:Addr}{H:Hp}{x y:HO}(e:H p=some x)(s:Soft x):Kp H (upd H p y):=Kp.but (p:=p) (λc o h n=>by rw[jM n];exact h) e s
structure Ent where
 ns:List Int
 c:Addr
 t:Int
 b:Int
 k:Nat
def Ent.kv(e:Ent):List Key×V:=(LwD.ik e.ns,.ref e.c)
def Ent.pr(e:Ent):List Int×Rat:=(e.ns,(e.t:Rat)/(e.b:Rat))
def pl(E:List Ent):Pl:=E.map Ent.pr
theorem wV(E:List Ent):(pl E).map (·.1)=E.map Ent.ns:=by unfold pl;rw[nP];rfl
structure Sz where
 D:Nat
 v:Nat
 S:Nat
 n:Nat
structure EntOk(H:Hp)(many D v:Nat)(e:Ent):Prop where
 len:e.ns.length=many
 nn:∀n∈e.ns,0<=n
 deg:e.ns.sum<=D
 at':At2 H e.c e.t e.b
 pos:0<e.b
 nz:e.t≠0
 sb:e.b.natAbs<=2^e.k
 st:e.t.natAbs<=2^v*e.b.natAbs
theorem EntOk.kp{H H':Hp}{many D v:Nat}{e:Ent}(h:EntOk H many D v e)(k:Kp H H'):EntOk H' many D v e:=⟨h.len,h.nn,h.deg,k.tup _ _ h.at',h.pos,h.nz,h.sb,h.st⟩
theorem EntOk.up{H:Hp}{many D v v':Nat}{e:Ent}(h:EntOk H many D v e)(k:v<=v'):EntOk H many D v' e:=⟨h.len,h.nn,h.deg,h.at',h.pos,h.nz,h.sb,nK h.st (gL _ (gJ (by decide) k))⟩
structure DB(H:Hp)(many:Nat)(z:Sz)(E:List Ent):Prop where
 nd:(E.map Ent.ns).Nodup
 each:∀e∈E,EntOk H many z.D z.v e
 sum:(E.map Ent.k).sum<=z.S
 few:E.length<=z.n
theorem DB.kp{H H':Hp}{many:Nat}{z:Sz}{E:List Ent}(h:DB H many z E)(k:Kp H H'):DB H' many z E:=⟨h.nd,λe he=>(h.each e he).kp k,h.sum,h.few⟩
theorem DB.up{H:Hp}{many:Nat}{z z':Sz}{E:List Ent}(h:DB H many z E)(hD:z.D<=z'.D)(hv:z.v<=z'.v)(hS:z.S<=z'.S)(hn:z.n<=z'.n):DB H many z' E:=⟨h.nd,λe he=>by
 have k:=(h.each e he).up hv;exact⟨k.len,k.nn,by have:=k.deg;omega,k.at',k.pos,k.nz,k.sb,k.st⟩,nK h.sum hS,nK h.few hn⟩
theorem WG:∀{l:List Nat} {n:Nat},n∈l->n<=l.sum
 | a::r,n,h=>by
  rw[List.sum_cons];rcases nF.mp h with rfl | h
  ·exact Nat.le_add_right ..
  ·exact nK (WG h) (Nat.le_add_left ..)
theorem DB.k{H:Hp}{many:Nat}{z:Sz}{E:List Ent}(h:DB H many z E){e:Ent}(he:e∈E):e.k<=z.S:=nK (WG (List.mem_map_of_mem he)) h.sum
theorem IC{ns ms:List Int}(h:LwD.ik ns=LwD.ik ms):ns=ms:=by
 have:=congrArg (List.map kV) h;rw[LwD.yX,LwD.yX]at this;exact(List.map_inj_right (f:=V.int) (λa b e=>by injection e)).mp this
section
variable{k:List Key}{v v0:V}{L R l:List (List Key×V)}
theorem NH(h:∀p∈l,p.1≠k):xI l k=none:=by
 unfold xI;rw[List.find?_eq_none.mpr λp hp=>by simp [h p hp]]
 rfl
theorem NI(h:∀p∈L,p.1≠k):xI (L++(k,v)::R) k=some v:=by
 unfold xI;rw[List.find?_append,List.find?_eq_none.mpr λp hp=>by simp [h p hp]];simp
theorem YQ(h:∀p∈l,p.1≠k):zZ l k v=l++[(k,v)]:=by
 unfold zZ;rw[tH];intro z;obtain⟨p,hp,e⟩:=List.any_eq_true.mp z;exact h p hp (mB e)
theorem OQ(h:∀p∈l,p.1≠k):l.map (λkv=>if kv.1=k then(kv.1,v)else kv)=l:=by
 conv=>rhs;rw[<-List.map_id l]
 exact List.map_congr_left λp hp=>by rw[tH (h p hp)];rfl
theorem YR(h1:∀p∈L,p.1≠k)(h2:∀p∈R,p.1≠k):zZ (L++(k,v0)::R) k v=L++(k,v)::R:=by
 unfold zZ;rw[tI (by simp),mQ,nC,OQ h1,OQ h2];simp
theorem XO(h1:∀p∈L,p.1≠k)(h2:∀p∈R,p.1≠k):AU (L++(k,v0)::R) k=L++R:=by
 unfold AU;rw[List.filter_append,List.filter_cons,List.filter_eq_self.mpr (λp hp=>mU (h1 p hp)),List.filter_eq_self.mpr (λp hp=>mU (h2 p hp))];simp
end
theorem yE{E:List Ent}{ns:List Int}(h:ns∉E.map Ent.ns):∀p∈E.map Ent.kv,p.1≠LwD.ik ns:=by
 intro p hp z;obtain⟨e,he,rfl⟩:=nN.mp hp;exact h (nN.mpr ⟨e,he,IC z⟩)
theorem SV{t b o u t' b':Int}(hb:0<b)(hu:0<u)(hb':0<b')(h:t'*(b*u)=(t*u+o*b)*b'):(t':Rat)/(b':Rat)=(t:Rat)/(b:Rat)+(o:Rat)/(u:Rat):=by
 have h1:(b:Rat)≠0:=by simpa using (show b≠0 by omega)
 have h2:(u:Rat)≠0:=by simpa using (show u≠0 by omega)
 have h3:(b':Rat)≠0:=by simpa using (show b'≠0 by omega)
 have e:(t':Rat)*(b*u)=(t*u+o*b)*b':=by exact_mod_cast h
 grind
theorem AE{t b o u t' b':Int}{v:Nat}(hb:0<b)(hu:0<u)(h:t'*(b*u)=(t*u+o*b)*b')(h1:t.natAbs<=2^v*b.natAbs)(h2:o.natAbs<=2^v*u.natAbs):t'.natAbs<=2^(v+1)*b'.natAbs:=by
 have:=MF hb hu h h1 h2;rw[Nat.pow_succ,Nat.mul_two];exact this
def KB(B:List Int->Nat)(E:List Ent):Prop:=∀e∈E,e.k<=B e.ns
theorem DB.kb{H:Hp}{many:Nat}{z:Sz}{E:List Ent}(h:DB H many z E):KB (λ_=>z.S) E:=λ_ he=>h.k he
theorem KB.up{B B':List Int->Nat}{E:List Ent}(h:KB B E)(k:∀m,B m<=B' m):KB B' E:=λe he=>nK (h e he) (k _)
def spPut:Sp:=λvs H Q _=>∃(d b q:Addr) (ns:List Int) (o u:Int) (many j:Nat) (z:Sz) (E:List Ent) (B:List Int->Nat),vs=[.ref d,.ref b,.ref q]/\H d=some (.dT (E.map Ent.kv))/\DB H many z E/\KB B E/\B ns<=40000/\j<=7900/\z.v<=4000/\z.n<=1000/\H b=some (.tup (ns.map V.int))/\ns.length=many/\(∀n∈ns,0<=n)/\ns.sum<=z.D/\
 At2 H q o u/\0<u/\u.natAbs<=2^j/\o.natAbs<=2^z.v*u.natAbs/\∀(E':List Ent) (H':Hp),But d H H'->H' d=some (.dT (E'.map Ent.kv))->DB H' many ⟨z.D,z.v+1,z.S+j,z.n+1⟩ E'->KB (λm=>B m+if m=ns then j else 0) E'->
  (∀m,cf (pl E') m=cf (pl E) m+if ns=m then(o:Rat)/(u:Rat)else 0)->Q .non H'
theorem vN{t b:Int}{v S:Nat}(ht:t.natAbs<=2^v*b.natAbs)(hb:b.natAbs<=2^S)(h:v+S<50000):t.natAbs<2^50000:=by
 have h1:=nK ht (gQ _ hb);rw[<-tD]at h1;exact gR h1 (gK (by decide) (by omega))
theorem vI{b:Int}{S n:Nat}(hb:b.natAbs<=2^S)(h:S<n):b.natAbs<2^n:=gR hb (gK (by decide) h)
theorem scPut:FnScope ["found","powers","number","some"] ["found","powers","number"] (jQ RI):=⟨rfl,rfl,rfl,by decide +kernel,rfl,by decide +kernel,by decide +kernel⟩
theorem ok_put{fP:Addr}{fdP:FuncData}(F:Fun K "_law_put" "_law_put" RI f fd)(DP:Df K mg "_law_plus" wN ["one","other"] fP fdP):FnOk P w K mg base CX0 2 f fd ["found","powers","number"] spPut:=by
 have GP:FnOk P w K mg base CX0 1 fP fdP ["one","other"] spPlus:=OL DP.F;refine F.ok scPut (λvs H Q E h=>?_) (λcdv A outer s H vs Q E hr h=>?_)
 ·obtain⟨d,b,q,ns,o,u,many,j,z,E',B,rfl,_⟩:=h
  rfl
 ·obtain⟨d,b,q,ns,o,u,many,j,z,EE,BB,rfl,hd,hD,kB,hS,hj,hv,hn,hb,hl,hns,hsum,hq,pu,su,so,go⟩:=h;have hu:_+1<cLine:=gR (Nat.add_le_add_left (by decide:1<=64) _) hr.units;refine⟨_,jB (jN (i:=3) scPut.nd rfl (Or.inl rfl) (jH GP hr rfl DP.m DP.F.kp DP.b .nil jR (jA (JO hu (pv 0) (pv 1) (jW (jA jD (jA jD jC))) ⟨rfl,rfl,rfl,rfl⟩) (jA (pv 2) jC))))
   (jE (kN (jU JR (jT jV (pv 3) jD (λ_ _=>rfl)) jD (jX _)) (jE (YS hu (pv 0) (pv 1) (pv 3) rfl))
    (jE (kN (MH (pc_din hu (pv 1) (pv 0))) (jE (qQ (LwD.UX hu (pv 0) (pv 1) ⟨rfl,rfl,rfl,rfl⟩))) kA)))), ?_⟩
  have hb':H b=some (.tup ((LwD.ik ns).map kV)):=by rw[LwD.yX];exact hb
  have few:=hD.few;have kz:(EE.map Ent.kv).length<sizeLine:=by rw[mP];exact gR (nK few hn) (by decide)
  refine⟨_,rfl,d,rfl,.inr ⟨_,.inl hd⟩,_,rfl,uQ,λz1 H1 n1 s1 e1=>⟨xI (EE.map Ent.kv) (LwD.ik ns),DGet.t (s1 _ _ hd) (s1 _ _ hb'),_,rfl, ?_⟩⟩;have uf:u.natAbs<2^8000:=vI su (by omega);have of:o.natAbs<2^50000:=vN so su (by omega);have fin:∀(t b0 t' b':Int) (r:Addr) (H2:Hp),Same H H2->At2 H2 r t' b'->H1 r=none->0<b'->0<b0->t'*(b0*u)=(t*u+o*b0)*b'->t.natAbs<=2^z.v*b0.natAbs->
    (t':Rat)/(b':Rat)=(t:Rat)/(b0:Rat)+(o:Rat)/(u:Rat)/\t'.natAbs<=2^(z.v+1)*b'.natAbs/\r≠d:=λt b0 t' b' r H2 s2 e2 n2 pb pb0 eq ht=>
   ⟨SV pb0 pu pb eq,AE pb0 pu eq ht so,λzz=>by rw[zz,s1 _ _ hd]at n2;cases n2⟩
  by_cases hin:ns∈EE.map Ent.ns
  ·obtain⟨e,he,en⟩:=nN.mp hin;obtain⟨L,R,eE⟩:=List.append_of_mem he;have hE:=hD.each e he;have nd:=hD.nd;rw[eE,mQ,nC]at nd;have nL:ns∉L.map Ent.ns:=λy=>by
    rw[<-en]at y;exact(mD.mp nd).2.2 _ y _ (gY ..) rfl
   have nR:ns∉R.map Ent.ns:=λy=>by
    rw[<-en]at y;exact(List.nodup_cons.mp (mD.mp nd).2.1).1 y
   have km:EE.map Ent.kv=L.map Ent.kv++(LwD.ik ns,V.ref e.c)::R.map Ent.kv:=by
    rw[eE,mQ,nC,<-en]
    rfl
   have ev:xI (EE.map Ent.kv) (LwD.ik ns)=some (.ref e.c):=by rw[km];exact NI (yE nL)
   rw[ev];have ke:e.k<=BB ns:=en▸kB e he;have ks:(L.map Ent.k).sum+(e.k+(R.map Ent.k).sum)<=z.S:=by
    have:=hD.sum
    rwa [eE,mQ,nC,List.sum_append,List.sum_cons]at this
   have kf:L.length+(R.length+1)<=z.n:=by
    have:=few
    rwa [eE,gS,mL]at this
   refine⟨e.c,q,e.t,e.b,o,u,rfl,s1 _ _ hE.at',s1 _ _ hq,hE.pos,pu,vN hE.st hE.sb (by omega),vI hE.sb (by omega),of,uf,λr t' b' H2 n2 s2 e2 pb lb eq=>?_⟩;have s12:Same H H2:=s1.trans s2;obtain⟨ex,rt,rd⟩:=fin e.t e.b t' b' r H2 s12 e2 n2 pb hE.pos eq hE.st;have hd2:H2 d=some (.dT (EE.map Ent.kv)):=s12 _ _ hd;have hb2:H2 b=some (.tup ((LwD.ik ns).map kV)):=s12 _ _ hb';have bd:∀o,But d H (upd H2 d o):=λo x y hx hn=>by
    rw[jM hn];exact s12 _ _ hx
   have tu:∀o:HO,Kp H (upd H2 d o):=λo=>(Kp.of s12).trans (Kp.upd hd2 trivial);have cE:∀m,cf (pl EE) m=(if ns=m then(e.t:Rat)/(e.b:Rat)else 0)+(cf (pl L) m+cf (pl R) m):=λm=>by
    rw[eE,pl,mQ,nC,DZ,vY];show cf (pl L) m+((if e.ns=m then(e.t:Rat)/(e.b:Rat)else 0)+cf (pl R) m)=_;rw[en]
    grind
   refine⟨_,rfl,r,_,_,_,rfl,rfl,SqT.of e2,rfl,rfl,_,rfl, ?_⟩;refine AV (λnz=>?_) (λnz=>?_)
   ·refine⟨_,rfl,_,rfl,_,rfl,d,_,rfl,DPut.t (k:=LwD.ik ns) hd2 hb2 kz, ?_⟩;have tz:t'≠0:=λy=>by rw[y]at nz;simp at nz
    refine go (L++⟨ns,r,t',b',e.k+j⟩::R) _ (bd _) ?_ ⟨?_,λx hx=>?_, ?_, ?_⟩ (λx hx=>?_) λm=>?_
    ·rw[jG,km,YR (yE nL) (yE nR),mQ,nC]
     rfl
    ·rw[mQ,nC];rw[en]at nd;exact nd
    ·rcases mS.mp hx with hx | hx
     ·exact((hD.each x (by rw[eE];exact List.mem_append_left _ hx)).kp (tu _)).up (Nat.le_succ _)
     ·rcases nF.mp hx with rfl | hx
      ·refine⟨hl,hns,hsum,by show At2 _ r t' b';rw[At2,jM rd];exact e2,pb,tz, ?_,rt⟩;refine nK lb ?_;rw[tD];exact mX hE.sb su
      ·exact((hD.each x (by rw[eE];exact gB _ (gI _ hx))).kp (tu _)).up (Nat.le_succ _)
    ·rw[mQ,nC,List.sum_append,List.sum_cons];show(L.map Ent.k).sum+(e.k+j+(R.map Ent.k).sum)<=z.S+j;omega
    ·rw[gS,mL];show L.length+(R.length+1)<=z.n+1;omega
    ·rcases mS.mp hx with hx | hx
     ·exact nK (kB x (by rw[eE];exact List.mem_append_left _ hx)) (Nat.le_add_right ..)
     ·rcases nF.mp hx with rfl | hx
      ·show e.k+j<=BB ns+if ns=ns then j else 0
       rw[tI rfl];omega
      ·exact nK (kB x (by rw[eE];exact gB _ (gI _ hx))) (Nat.le_add_right ..)
    ·rw[cE,pl,mQ,nC,DZ,vY];show cf (pl L) m+((if ns=m then(t':Rat)/(b':Rat)else 0)+cf (pl R) m)=_;rw[ex];split<;>grind
   ·refine⟨_,rfl,_,rfl,d,_,rfl,DGet.t (k:=LwD.ik ns) hd2 hb2,_,rfl, ?_⟩;rw[ev];refine vG ⟨_,rfl,d,rfl,.inr ⟨_,.inl hd2⟩,_,rfl,_,LwD.ik ns,_,b,hd2,rfl,hb2,ev, ?_⟩;have tz:t'=0:=by
     by_cases y:t'=0
     ·exact y
     ·exact absurd (by simp [y]) nz
    refine go (L++R) _ (bd _) ?_ ⟨?_,λx hx=>?_, ?_, ?_⟩ (λx hx=>nK (kB x ?_) (Nat.le_add_right ..)) λm=>?_
    ·rw[jG,km,XO (yE nL) (yE nR),mQ]
    ·rw[mQ];rw[mD]at nd ⊢;exact⟨nd.1,(List.nodup_cons.mp nd.2.1).2,λa ha b hb=>nd.2.2 a ha b (gI _ hb)⟩
    ·refine((hD.each x ?_).kp (tu _)).up (Nat.le_succ _);rw[eE];rcases mS.mp hx with hx | hx
     ·exact List.mem_append_left _ hx
     ·exact gB _ (gI _ hx)
    ·rw[mQ,List.sum_append];show _<=z.S+j;omega
    ·rw[gS];show _<=z.n+1;omega
    ·rw[eE];rcases mS.mp hx with hx | hx
     ·exact List.mem_append_left _ hx
     ·exact gB _ (gI _ hx)
    ·rw[cE,pl,mQ,DZ];show cf (pl L) m+cf (pl R) m=_;rw[tz]at ex;have:(e.t:Rat)/(e.b:Rat)+(o:Rat)/(u:Rat)=0:=by rw[<-ex];show((0:Int):Rat)/_=0;grind
     split<;>grind
  ·have ev:xI (EE.map Ent.kv) (LwD.ik ns)=none:=NH (yE hin);rw[ev];refine⟨z1,q,0,1,o,u,rfl,e1,s1 _ _ hq,by decide,pu,by show 0<_;exact Nat.pow_pos (by decide),by show 1<_;exact Nat.one_lt_pow (by decide) (by decide),of,uf,λr t' b' H2 n2 s2 e2 pb lb eq=>?_⟩;have s12:Same H H2:=s1.trans s2;obtain⟨ex,rt,rd⟩:=fin 0 1 t' b' r H2 s12 e2 n2 pb (by decide) eq (nX _);have hd2:H2 d=some (.dT (EE.map Ent.kv)):=s12 _ _ hd;have hb2:H2 b=some (.tup ((LwD.ik ns).map kV)):=s12 _ _ hb';have bd:∀o,But d H (upd H2 d o):=λo x y hx hn=>by
    rw[jM hn];exact s12 _ _ hx
   have tu:∀o:HO,Kp H (upd H2 d o):=λo=>(Kp.of s12).trans (Kp.upd hd2 trivial);have ex':(t':Rat)/(b':Rat)=(o:Rat)/(u:Rat):=by rw[ex];show((0:Int):Rat)/_+_=_;grind
   refine⟨_,rfl,r,_,_,_,rfl,rfl,SqT.of e2,rfl,rfl,_,rfl, ?_⟩;refine AV (λnz=>?_) (λnz=>?_)
   ·refine⟨_,rfl,_,rfl,_,rfl,d,_,rfl,DPut.t (k:=LwD.ik ns) hd2 hb2 kz, ?_⟩;have tz:t'≠0:=λy=>by rw[y]at nz;simp at nz
    refine go (EE++[⟨ns,r,t',b',j⟩]) _ (bd _) ?_ ⟨?_,λx hx=>?_, ?_, ?_⟩ (λx hx=>?_) λm=>?_
    ·rw[jG,YQ (yE hin),mQ]
     rfl
    ·rw[mQ,mD];refine⟨hD.nd,by simp,λa ha b hb=>?_⟩;have:b=ns:=by simpa using hb
     rintro rfl;rw[this]at ha;exact hin ha
    ·rcases mS.mp hx with hx | hx
     ·exact((hD.each x hx).kp (tu _)).up (Nat.le_succ _)
     ·rw[gW]at hx;subst hx;refine⟨hl,hns,hsum,by show At2 _ r t' b';rw[At2,jM rd];exact e2,pb,tz, ?_,rt⟩;refine nK lb ?_;rw[Int.natAbs_one,Nat.one_mul];exact su
    ·rw[mQ,List.sum_append];have:=hD.sum;show(EE.map Ent.k).sum+(j+0)<=z.S+j;omega
    ·rw[gS];show EE.length+1<=z.n+1;omega
    ·rcases mS.mp hx with hx | hx
     ·exact nK (kB x hx) (Nat.le_add_right ..)
     ·rw[gW]at hx;subst hx;show j<=BB ns+if ns=ns then j else 0
      rw[tI rfl];omega
    ·rw[pl,mQ,DZ];show cf (pl EE) m+((if ns=m then(t':Rat)/(b':Rat)else 0)+0)=_;rw[ex'];split<;>grind
   ·refine⟨_,rfl,_,rfl,d,_,rfl,DGet.t (k:=LwD.ik ns) hd2 hb2,_,rfl, ?_⟩;rw[ev];have tz:t'=0:=by
     by_cases y:t'=0
     ·exact y
     ·exact absurd (by simp [y]) nz
    have o0:(o:Rat)/(u:Rat)=0:=by rw[<-ex',tz];show((0:Int):Rat)/_=0;grind
    refine kY ?_;refine go EE H2 (But.of s12) hd2 ((hD.kp (Kp.of s12)).up uO (Nat.le_succ _) (Nat.le_add_right ..) (Nat.le_succ _)) (kB.up λm=>Nat.le_add_right ..) λm=>?_;rw[o0];split<;>grind
structure FQ(H:Hp)(d:Addr)(many:Nat)(z:Sz)(E:List Ent):Prop where
 fr:∃o,H d=some (.frz o (.dT (E.map Ent.kv)))
 db:DB H many z E
theorem FQ.kp{H H':Hp}{d:Addr}{many:Nat}{z:Sz}{E:List Ent}(h:FQ H d many z E)(k:Kp H H'):FQ H' d many z E:=⟨h.fr.elim λo e=>⟨o,k.frz _ _ _ e⟩,h.db.kp k⟩
theorem FQ.rd{H:Hp}{d:Addr}{many:Nat}{z:Sz}{E:List Ent}(h:FQ H d many z E):Rd H d (.dT (E.map Ent.kv)):=.inr h.fr
theorem val_in{E:List Ent}(nd:(E.map Ent.ns).Nodup){e:Ent}(he:e∈E):xI (E.map Ent.kv) (LwD.ik e.ns)=some (.ref e.c):=by
 obtain⟨L,R,rfl⟩:=List.append_of_mem he;rw[mQ,nC]at nd ⊢;refine NI (yE λy=>?_);exact(mD.mp nd).2.2 _ y _ (gY ..) rfl
theorem UO{H:Hp}{d b:Addr}{E:List Ent}(h:Rd H d (.dT (E.map Ent.kv)))(nd:(E.map Ent.ns).Nodup){e:Ent}(he:e∈E)(hb:H b=some (.tup (e.ns.map V.int))):DGet H d (.ref b) (some (.ref e.c)):=
 .inr ⟨_,LwD.ik e.ns,b,h,rfl,by rw[LwD.yX];exact hb,(val_in nd he).symm⟩
theorem FQ.get{H:Hp}{d b:Addr}{many:Nat}{z:Sz}{E:List Ent}(h:FQ H d many z E){e:Ent}(he:e∈E)(hb:H b=some (.tup (e.ns.map V.int))):DGet H d (.ref b) (some (.ref e.c)):=UO h.rd h.db.nd he hb
theorem BH(E:List Ent):∀p∈E.map Ent.kv,∃ns:List Int,p.1=LwD.ik ns:=λp hp=>by
 obtain⟨e,_,rfl⟩:=nN.mp hp;exact⟨e.ns,rfl⟩
theorem uH{d:Addr}{o:Obj}{E:List Ent}{ys:List V}{g:TG}{tb:TS}{D:Ends}{σ:L2.St}{H H0:Hp}(ks:LwD.Keyed H0 ys (E.map Ent.kv))(Pv:Nat->L2.St->Hp->Prop)(h0:Pv 0 σ H)(hl:∀i σ H,Pv i σ H->H d=some (.frz o (.dT (E.map Ent.kv)))/\Kp H0 H)
  (hs:∀i e b σ H,E[i]? = some e->e∈E->H b=some (.tup (e.ns.map V.int))->Pv i σ H->g (.ref b) σ H fun σ2 H2=>tb { D with nx:=Pv (i+1),ct:=Pv (i+1),bk:=D.nx } σ2 H2) (hd:∀σ H,Pv E.length σ H->D.nx σ H) :
  ∃W:Nat->Nat->L2.St->Hp->Prop,(∃m,W 0 m σ H)/\∀i m σ H,W i m σ H->
   ((LwD.Itk d o (E.map Ent.kv) ys).stop i H/\D.nx σ H)∨((LwD.Itk d o (E.map Ent.kv) ys).go i H/\∃N:L2.St->Hp->Prop,(∀σ' H',N σ' H'->∃m',m'<m/\W (i+1) m' σ' H')/\∀x H',(LwD.Itk d o (E.map Ent.kv) ys).yld i H x H'->g x σ H' fun σ2 H2=>tb { D with nx:=N,ct:=N,bk:=D.nx } σ2 H2):=by
 have lk:ys.length=E.length:=by rw[ks.1,mP]
 refine LwD.XF Pv h0 (λi σ H h=>(hl i σ H h).1) (λi x σ H hx h=>?_) (fun σ H h=>hd σ H (by rw[<-lk];exact h));have hi:i<E.length:=by rw[<-lk];exact(uU.mp hx).1
 obtain⟨e,he⟩:∃e,E[i]? = some e:=⟨E[i],by simp [hi]⟩;obtain⟨b,ns',rfl,hb,hns⟩:=ks.2 i x e.kv hx (by rw[hJ,he];rfl);have ens:e.ns=ns':=IC hns;subst ens;exact hs i e b σ H he (gH he) ((hl i σ H h).2.tup _ _ hb) h
theorem YT{E:List Ent}{i:Nat}{e:Ent}(he:E[i]? = some e):pl (E.take (i+1))=pl (E.take i)++[e.pr]:=by
 rw[hW,he];unfold pl;rw[mQ]
 rfl
theorem BI{E:List Ent}{i:Nat}{e:Ent}(he:E[i]? = some e):((E.take (i+1)).map Ent.k).sum=((E.take i).map Ent.k).sum+e.k:=by
 rw[hW,he,mQ,List.sum_append]
 rfl
theorem PH(E:List Ent)(i:Nat):((E.take i).map Ent.k).sum<=(E.map Ent.k).sum:=by
 conv=>rhs;rw[<-List.take_append_drop i E,mQ,List.sum_append]
 exact Nat.le_add_right ..
theorem jZ{H H':Hp}{l:Addr}{o:HO}(s:Same H H')(n:H l=none):Same H (upd H' l o):=λc u h=>by
 rw[jM (kL h n)];exact s c u h
structure CmI(F:Nat->List V)(q:Addr)(H1:Hp)(i:Nat)(ys:List V)(H2:Hp):Prop where
 s:Same H1 H2
 e:H2 q=some (.lst ys)
 y:ys=F i
theorem TF{K:tJ}{a b:Addr}{ts us:List V}{σ0:L2.St}{g:TG}{te:TE}{Q:VK}{p:Addr}{H':Hp}(Pv:Nat->List V->Hp->Prop)(hle:us.length=ts.length)(hz:us.length<sizeLine)(h0:Pv 0 [] H')
  (hl:∀i ys H2,Pv i ys H2->SqT K H2 a ts/\SqT K H2 b us/\H2 p=some (.lst ys))
  (hs:∀i m ys x y c H2,ts[i]? = some x->us[i]? = some y->m=us.length-i->ys.length=i->Pv i ys H2->H2 c=none->g (.ref c) σ0 (upd H2 c (.tup [x,y])) fun σ4 H4=>Keep σ0 σ4/\te σ4 H4 λy H5=>H5 p=some (.lst ys)/\∃m',m'<m/\CompW us Pv (i+1) m' (ys++[y]) (upd H5 p (.lst (ys++[y]))))
  (hd:∀ys H2,ys.length=us.length->Pv us.length ys H2->Q (.ref p) H2):CompGoF σ0 (Itz K a b) g te Q p H':=by
 refine⟨CompW us Pv,⟨_,rfl,nX _,rfl,h0⟩, ?_⟩;rintro i m ys H2 ⟨hm,hi,hy,hp⟩;obtain⟨q1,q2,e⟩:=hl i ys H2 hp;refine⟨e,by omega, ?_⟩;by_cases hlt:i<us.length
 ·have h2:i<ts.length:=by omega
  refine .inr ⟨⟨ts,us,ts[i],us[i],q1,q2,by simp [h2],by simp [hlt]⟩, ?_⟩;rintro _ _ ⟨c,x,y,hc,rfl,rfl,h1,h2⟩;exact hs i m ys x y c H2 (h1 _ q1) (h2 _ q2) hm hy hp hc
 ·obtain rfl:i=us.length:=by omega
  exact .inl ⟨⟨ts,us,q1,q2,.inr uO⟩,hd ys H2 hy hp⟩
abbrev rTupOf(K:tJ):List V->Hp->VK->Prop:=λxs H Q=>∃p ys,xs=[.ref p]/\((SqL K H p ys/\∀l,H l=none->Q (.ref l) (upd H l (.tup ys)))∨(SqT K H p ys/\Q (.ref p) H))
abbrev tBoth(K:tJ)(i j:Nat):TE:=tCB (rTupOf K) (vJ (FX 2 [] (iZipT K (vJ (kI i) (vJ (kI j) tNil))) (AM K 2 (qI (jP 0) (qI (jP 1) gNil))) (tOp (rI0 λi j=>V.int (i+j)) (kI 0) (kI 1))) tNil)
theorem dBoth{K:tJ}{i j:Nat}{σ:L2.St}{H:Hp}{a b:Addr}{as bs:List Int}{Q:VK}(e1:σ[i]? = some (some (.ref a)))(e2:σ[j]? = some (some (.ref b)))(ha:H a=some (.tup (as.map V.int)))(hb:H b=some (.tup (bs.map V.int)))(hl:bs.length=as.length)(h4:bs.length<=4)
  (q:∀p H',H p=none->Same H H'->H' p=some (.tup ((wA as bs).map V.int))->Q (.ref p) H'):tBoth K i j σ H Q:=by
 refine⟨_,e1,_,e2,a,b,rfl,⟨_,SqT.of ha⟩,⟨_,SqT.of hb⟩,λl H1 n1 s1 h1=>?_⟩;refine TF (K:=K) (a:=a) (b:=b) (ts:=as.map V.int) (us:=bs.map V.int) (CmI (λk=>((wA as bs).take k).map V.int) l H) (by simp [hl]) (by rw[mP];exact gR h4 (by decide)) ⟨s1,h1,rfl⟩ (λk ys H2 h=>⟨SqT.of (h.s _ _ ha),SqT.of (h.s _ _ hb),h.e⟩) ?_ ?_
 ·rintro k m ys x y c H2 hx hy hm hyl ⟨s2,h2,ey⟩ hc;rw[hJ]at hx hy;obtain⟨x',hx',rfl⟩:=Option.map_eq_some_iff.mp hx;obtain⟨y',hy',rfl⟩:=Option.map_eq_some_iff.mp hy;have s3:Same H2 (upd H2 c (.tup [.int x',.int y'])):=kD _ hc;refine⟨c,_,rfl,SqT.of jG,rfl,_,_,rfl,_,_,rfl,rfl,uC,_,rfl,_,rfl,_,_,rfl,rfl, ?_⟩;refine kF (by rw[hJ,hy'];rfl) hm hyl (s3 _ _ h2) ⟨jZ (s2.trans s3) n1,jG, ?_⟩;rw[ey,hW,mQ]
  congr 1
  have:(wA as bs)[k]? = some (x'+y'):=by unfold wA;rw[List.getElem?_zipWith,hx',hy']
  rw[this]
  rfl
 ·rintro ys H2 hyl ⟨s2,h2,ey⟩;have el:(wA as bs).length=bs.length:=by unfold wA;rw[List.length_zipWith];omega
  rw[mP,<-el,mK]at ey;refine⟨l,_,rfl,.inl ⟨SqL.of h2,λp np=>?_⟩⟩;rw[ey];exact q p _ (s2.free np) (s2.trans (kD _ np)) jG
theorem JQ:∀{as bs:List Int},as.length=bs.length->(wA as bs).sum=as.sum+bs.sum
 | [],[],_=>rfl
 | a::as,b::bs,h=>by
  show(a+b)+(wA as bs).sum=(a+as.sum)+(b+bs.sum);rw[JQ (by simpa using h)];omega
theorem YZ{as bs:List Int}(ha:∀n∈as,0<=n)(hb:∀n∈bs,0<=n):∀n∈wA as bs,0<=n:=λn hn=>by
 obtain⟨i,hi⟩:=gF.mp hn;unfold wA at hi;rw[List.getElem?_zipWith]at hi;split at hi
 ·rename_i x y h1 h2;cases hi;have:=ha x (gH h1);have:=hb y (gH h2);omega
 ·cases hi
def BV(K:tJ):Sp:=λvs H Q _=>∃(p q:Addr) (t b o u:Int),vs=[.ref p,.ref q]/\SqT K H p [.int t,.int b]/\SqT K H q [.int o,.int u]/\t.natAbs<2^50000/\b.natAbs<2^50000/\o.natAbs<2^50000/\u.natAbs<2^50000/\
 ∀(r:Addr) (H':Hp),H r=none->Same H H'->At2 H' r (t*o) (b*u)->Q (.ref r) H'
theorem vS(a b:Int):decide (V.int a=V.int b)=decide (a=b):=by
 by_cases h:a=b
 ·rw[h];simp
 ·rw[mR h,mR];intro z;injection z with z
  exact h z
theorem scLMul:FnScope ["one","other"] ["one","other"] (jQ CC):=⟨rfl,rfl,rfl,by decide +kernel,rfl,by decide +kernel,by decide +kernel⟩
theorem ZN(F:Fun K "_law_mul" "_law_mul" CC f fd):FnOk P w K mg base CX0 1 f fd ["one","other"] (BV K):=by
 refine F.ok scLMul (λvs H Q E h=>?_) (λcdv A outer s H vs Q E hr h=>?_)
 ·obtain⟨p,q,t,b,o,u,rfl,_⟩:=h
  rfl
 ·obtain⟨p,q,t,b,o,u,rfl,hp,hq,st,sb,so,su,k⟩:=h;refine⟨_,jE (jS (jW (jA (jK kH (jT jV (pv 0) jD (λ_ _=>rfl)) (jT jV (pv 1) jD (λ_ _=>rfl))) (jA (jK kH (jT jV (pv 0) jD (λ_ _=>rfl)) (jT jV (pv 1) jD (λ_ _=>rfl))) jC)))), ?_⟩;try dsimp only[cxK]
  have up:∀{a:Int},a.natAbs<2^50000->a.natAbs<2^100000:=λh=>jJ h (by decide);exact rvT rfl hp rfl (rvT rfl hq rfl ⟨_,_,rfl,rfl,⟨up st,up so⟩,rvT rfl hp rfl (rvT rfl hq rfl ⟨_,_,rfl,rfl,⟨up sb,up su⟩,uQ,k⟩)⟩)
theorem frac_eq{t b o u:Int}(hb:0<b)(hu:0<u):t*u=o*b↔(t:Rat)/(b:Rat)=(o:Rat)/(u:Rat):=by
 have h1:(b:Rat)≠0:=by simpa using (show b≠0 by omega)
 have h2:(u:Rat)≠0:=by simpa using (show u≠0 by omega)
 constructor
 ·intro h;have e:(t:Rat)*u=o*b:=by exact_mod_cast h
  grind
 ·intro h;have e:(t:Rat)*u=o*b:=by grind
  exact_mod_cast e
section
variable{X:Cx}
def rTupZ(K:tJ):List V->Hp->VK->Prop:=λxs H Q=>∃p ys,xs=[.ref p]/\SqL K H p ys/\∀(l:Addr) (o:Obj),H l=none->o.dict=none->Q (.ref l) (upd H l (.frz o (.tup ys)))
theorem LK:CallR X (.type "tuple") (rTupZ X.K):=by
 intro pins s σ H xs us Q I r h;obtain⟨p,ys,rfl,hq,q⟩:=h;obtain⟨u,rfl,rx⟩:=xA r;cases rx;obtain⟨its,r',pl,hz⟩:=I.list hq;have hlen:=r'.length;refine call_tuple_list pl.isList (λh' kp=>?_) (by simp only[hU]<;>omega);have I1:Inv X pins σ H { s with heap:=h' } :=I.kept (t':=s.toks) kp;have I2:Inv X pins σ (upd H h'.objs.size (.frz { cls:=.type "tuple",data:=.seq its.toArray } (.tup ys))) { s with heap:=h'.push { cls:=.type "tuple",data:=.seq its.toArray } } :=
  I1.laid (t':=s.toks) (λb o e=>uZ _ e) uO (show ObjOk X.prog X.w _ _ _ (.frz _ (.tup ys))from⟨gO _ rfl,hz,its,r',IsTup.new _ _,.of (gO _ rfl) rfl⟩)
 exact⟨.ref h'.objs.size,_,I2,rfl,q _ _ (I1.hok.fresh uO) rfl⟩
end
theorem RW{α β:Type}{f:α->β}{zs l:List β}(p:zs.Perm l):∀E:List α,l=E.map f->∃E':List α,E'.Perm E/\zs=E'.map f:=by
 induction p with
 | nil=>
  intro E h;have:E=[]:=by simpa using h.symm
  exact⟨[],by rw[this],rfl⟩
 | @cons x l1 l2 _ ih=>
  intro E h
  match E,h with
  | e::E2,h=>
   rw[nC]at h;injection h with h1 h2
   obtain⟨E',p',rfl⟩:=ih E2 h2;exact⟨e::E',p'.cons e,by rw[nC,h1]⟩
 | @swap x y l=>
  intro E h
  match E,h with
  | e1::e2::E2,h=>
   rw[nC,nC]at h;injection h with h1 h2
   injection h2 with h2 h3
   exact⟨e2::e1::E2,List.Perm.swap ..,by rw[nC,nC,h1,h2,h3]⟩
 | @trans l1 l2 l3 _ _ ih1 ih2=>
  intro E h;obtain⟨E2,p2,e2⟩:=ih2 E h;obtain⟨E1,p1,e1⟩:=ih1 E2 e2;exact⟨E1,p1.trans p2,e1⟩
theorem Rd.same{H H':Hp}{d:Addr}{o:HO}(h:Rd H d o)(s:Same H H'):Rd H' d o:=by
 rcases h with h | ⟨u,h⟩
 ·exact .inl (s _ _ h)
 ·exact .inr ⟨u,s _ _ h⟩
structure Trm where
 ns:List Int
 t:Int
 b:Int
 k:Nat
def Trm.pr(x:Trm):List Int×Rat:=(x.ns,(x.t:Rat)/(x.b:Rat))
def tl(ts:List Trm):Pl:=ts.map Trm.pr
structure TmOk(many D v:Nat)(x:Trm):Prop where
 len:x.ns.length=many
 nn:∀n∈x.ns,0<=n
 deg:x.ns.sum<=D
 pos:0<x.b
 nz:x.t≠0
 low:Int.gcd x.t x.b=1
 sb:x.b.natAbs<=2^x.k
 st:x.t.natAbs<=2^v*x.b.natAbs
structure TrmV(H:Hp)(v:V)(x:Trm):Prop where
 ex:∃r b c:Addr,v=.ref r/\H r=some (.tup [.ref b,.ref c])/\H b=some (.tup (x.ns.map V.int))/\At2 H c x.t x.b
theorem TrmV.kp{H H':Hp}{v:V}{x:Trm}(h:TrmV H v x)(k:Kp H H'):TrmV H' v x:=by
 obtain⟨r,b,c,e1,e2,e3,e4⟩:=h.ex;exact⟨r,b,c,e1,k.tup _ _ e2,k.tup _ _ e3,k.tup _ _ e4⟩
theorem Paired.to{α β:Type}{F G:α->β->Prop}(f:∀a b,F a b->G a b):∀{l₁:List α} {l₂:List β},Paired F l₁ l₂->Paired G l₁ l₂
 | _,_,.nil=>.nil
 | _,_,.cons h t=>.cons (f _ _ h) (Paired.to f t)
theorem Paired.app{α β:Type}{F:α->β->Prop} :∀{a b:List α} {c d:List β},Paired F a c->Paired F b d->Paired F (a++b) (c++d)
 | _,_,_,_,.nil,h=>h
 | _,_,_,_,.cons h t,k=>.cons h (Paired.app t k)
theorem Paired.at{α β:Type}{F:α->β->Prop} :∀{l₁:List α} {l₂:List β} {i:Nat} {x:α},Paired F l₁ l₂->l₁[i]? = some x->∃y,l₂[i]? = some y/\F x y
 | _,_,_,_,.nil,h=>by simp at h
 | _,_,0,_,.cons h t,e=>by
  cases (Option.some.inj e);exact⟨_,rfl,h⟩
 | _,_,i+1,_,.cons h t,e=>Paired.at t (i:=i) e
structure Poly(H:Hp)(p:Addr)(many:Nat)(z:Sz)(ts:List Trm):Prop where
 ex:∃(q:Addr) (o:Obj) (xs:List V),H p=some (.tup [.int many,.ref q])/\H q=some (.frz o (.tup xs))/\o.dict=none/\Paired (TrmV H) xs ts
 nd:(ts.map Trm.ns).Nodup
 each:∀x∈ts,TmOk many z.D z.v x
 sum:(ts.map Trm.k).sum<=z.S
 few:ts.length<=z.n
theorem Poly.kp{H H':Hp}{p:Addr}{many:Nat}{z:Sz}{ts:List Trm}(h:Poly H p many z ts)(k:Kp H H'):Poly H' p many z ts:=by
 obtain⟨q,o,xs,e1,e2,e3,e4⟩:=h.ex;exact⟨⟨q,o,xs,k.tup _ _ e1,k.frz _ _ _ e2,e3,Paired.to (λ_ _ h=>h.kp k) e4⟩,h.nd,h.each,h.sum,h.few⟩
theorem low_all{t b:Int}{v k:Nat}(hb:0<b)(nz:t≠0)(sb:b.natAbs<=2^k)(st:t.natAbs<=2^v*b.natAbs):0<xU t b/\xT t b≠0/\Int.gcd (xT t b) (xU t b)=1/\(xU t b).natAbs<=2^k/\(xT t b).natAbs<=2^v*(xU t b).natAbs:=by
 have g1:=LwM.qV t b hb;have gp:0<Int.gcd t b:=by omega
 rw[vF hb,xS hb];have d1:(Int.gcd t b:Int)∣t:=mN ..;have d2:(Int.gcd t b:Int)∣b:=mF ..;have hp:0<b/(Int.gcd t b:Int):=Int.ediv_pos_of_pos_of_dvd hb (by omega) d2;have e1:t/(Int.gcd t b:Int)*(Int.gcd t b:Int)=t:=Int.ediv_mul_cancel d1;have e2:b/(Int.gcd t b:Int)*(Int.gcd t b:Int)=b:=Int.ediv_mul_cancel d2;refine⟨hp,λz=>nz ?_,Int.gcd_ediv_gcd_ediv_gcd gp,nK (LwM.uJ b _ g1) sb, ?_⟩
 ·rw[<-e1,z,Int.zero_mul]
 ·have st:(t/(Int.gcd t b:Int)*(Int.gcd t b:Int)).natAbs<=2^v*(b/(Int.gcd t b:Int)*(Int.gcd t b:Int)).natAbs:=by rw[e1,e2];exact st
  rw[mV,mV]at st;generalize t/(Int.gcd t b:Int)=t' at st;generalize b/(Int.gcd t b:Int)=b' at st;refine Nat.le_of_mul_le_mul_right (c:=(Int.gcd t b:Int).natAbs) ?_ (by omega);rw[Nat.mul_assoc];exact st
theorem low_val{t b:Int}(hb:0<b):((xT t b:Int):Rat)/((xU t b:Int):Rat)=(t:Rat)/(b:Rat):=by
 have g1:=LwM.qV t b hb;rw[vF hb,xS hb];have d1:(Int.gcd t b:Int)∣t:=mN ..;have d2:(Int.gcd t b:Int)∣b:=mF ..;have hp:0<b/(Int.gcd t b:Int):=Int.ediv_pos_of_pos_of_dvd hb (by omega) d2;have e1:t/(Int.gcd t b:Int)*(Int.gcd t b:Int)=t:=Int.ediv_mul_cancel d1;have e2:b/(Int.gcd t b:Int)*(Int.gcd t b:Int)=b:=Int.ediv_mul_cancel d2;refine(frac_eq hp hb).mp ?_;generalize t/(Int.gcd t b:Int)=t' at *;generalize b/(Int.gcd t b:Int)=b' at *;generalize (Int.gcd t b:Int)=g at *;rw[<-e1,<-e2]
 grind
def Ent.tm(e:Ent):Trm:=⟨e.ns,xT e.t e.b,xU e.t e.b,e.k⟩
def spLSum:Sp:=λvs H Q _=>∃(d:Addr) (many:Nat) (z:Sz) (E:List Ent),vs=[.int many,.ref d]/\Rd H d (.dT (E.map Ent.kv))/\DB H many z E/\1<=many/\z.n<=63/\z.S<=7900/\
 ∀(p:Addr) (ts:List Trm) (H':Hp),H p=none->Same H H'->Poly H' p many z ts->(tl ts).Perm (pl E)->Q (.ref p) H'
inductive LsI(H H2:Hp)(d l sl:Addr)(many:Nat)(ys:List V)(E0:List Ent)(i:Nat):L2.St->Hp->Prop where
 | mk {u v:Option V} {H':Hp} {xs:List V} (s:Same H H') (k:Kp H2 H') (es:H' sl=some (.lst ys)) (e:H' l=some (.lst xs)) (h:Paired (TrmV H') xs ((E0.take i).map Ent.tm)):LsI H H2 d l sl many ys E0 i [some (.int many),some (.ref d),some (.ref l),u,v] H'
theorem scLSum:FnScope ["many","one","terms","powers","number"] ["many","one"] (jQ NY):=⟨rfl,rfl,rfl,by decide +kernel,rfl,by decide +kernel,by decide +kernel⟩
theorem ZK{fL:Addr}{fdL:FuncData}(F:Fun K "_law_sum" "_law_sum" NY f fd)(T:Txt mg)(DL:Df K mg "_law_low" EH ["top","bottom"] fL fdL)(GL:FnOk P w K mg base CX0 1 fL fdL ["top","bottom"] spLow):FnOk P w K mg base CX0 2 f fd ["many","one"] spLSum:=by
 refine F.ok scLSum (λvs H Q E h=>?_) (λcdv A outer s H vs Q E hr h=>?_)
 ·obtain⟨d,many,z,E',rfl,_⟩:=h
  rfl
 ·obtain⟨d,many,z,EE,rfl,hR,hD,m1,n63,S7,go⟩:=h;have hu:_+1<cLine:=gR (Nat.add_le_add_left (by decide:1<=64) _) hr.units;refine⟨_,jB (jN (i:=2) scLSum.nd rfl (Or.inl rfl) (qC jC)) (jB (kO PassesOwn.never rfl (kZ (qD (LwD.NC rfl) (by rfl) T.sorted boot_sorted (jA (pv 1) jC))) (jF (i:=3) scLSum.nd rfl (Or.inl rfl)) (jE (kN (jU JR (jT jV (xZ hu (pv 1) (pv 3) (λ_ _=>rfl)) jD (λ_ _=>rfl)) jD (jX _)) (jB (jN (i:=4) scLSum.nd rfl (Or.inl rfl) (jH GL hr rfl DL.m DL.F.kp DL.b .nil jR (jA (jT jV (xZ hu (pv 1) (pv 3) (λ_ _=>rfl)) jD (λ_ _=>rfl)) (jA (jT jV (xZ hu (pv 1) (pv 3) (λ_ _=>rfl)) jD (λ_ _=>rfl)) jC)))) (jE (qQ (wW PySem.F.plainAttrs_list PySem.F.slot_list_append PySem.F.type_list_append kR (pv 2) (jA (jW (jA (pv 3) (jA (pv 4) jC))) jC))))) kA))) (jE (jS (jW (jA (pv 0) (jA (qB LK (by rfl) T.tup boot_tuple (jA (pv 2) jC)) jC)))))), ?_⟩;try dsimp only[cxK]
  refine⟨(by show 0<=sizeLine;decide),λl H1 n1 s1 e1=>?_⟩;refine⟨_,rfl,d,_,rfl,Rd.same hR s1,by rw[mP];exact gR (nK hD.few n63) (by decide),λp hp=>?_,λys zs pz ky pw sl H2 n2 s2 e2=>⟨sl,rfl,⟨ys,SqL.of e2⟩, ?_⟩⟩
  ·obtain⟨e,he,rfl⟩:=nN.mp hp;exact⟨e.ns,rfl,λz=>by have:=(hD.each e he).len;rw[z]at this;simp at this;omega⟩
  obtain⟨E0,pE,rfl⟩:=RW pz EE rfl;have s12:Same H H2:=s1.trans s2;have ls:sl≠l:=λz=>by rw[z,e1]at n2;cases n2
  have yl:ys.length=E0.length:=by rw[ky.1,mP]
  have l63:E0.length<=63:=by rw[pE.length_eq];exact nK hD.few n63
  refine qT (K:=K) (a:=sl) (xs:=ys) (LsI H H2 d l sl many ys E0) (.mk s12 (Kp.of (Same.refl _)) e2 (s2 _ _ e1) .nil) (λi σ H3 _ h=>?_) (λi y σ H3 hyi h=>?_) (fun σ H3 h=>?_)
  ·obtain⟨_,_,es,_,_⟩:=h;exact SqL.of es
  ·obtain⟨s3,k3,es,el,hx⟩:=h;have hiy:i<ys.length:=(uU.mp hyi).1;have hie:i<E0.length:=by omega
   obtain⟨e,he⟩:∃e,E0[i]? = some e:=⟨E0[i],by simp [hie]⟩;obtain⟨b,ns,rfl,hb1,hk⟩:=ky.2 i y e.kv hyi (by rw[hJ,he];rfl);have ens:e.ns=ns:=IC hk;subst ens;have eE:e∈EE:=pE.mem_iff.mp (gH he);have hE:=(hD.kp (Kp.of s3)).each e eE;have hb3:H3 b=some (.tup (e.ns.map V.int)):=k3.tup _ _ (s2 _ _ hb1);have g3:=UO (Rd.same hR s3) hD.nd eE hb3;have c3:=SqT.of (K:=K) hE.at';have ke:=hD.k eE;refine⟨_,rfl,_,rfl,d,_,rfl,g3,e.c,_,_,_,rfl,rfl,c3,rfl,rfl,_,rfl, ?_⟩;rw[vS];refine IA (by rw[mR hE.nz];rfl) ?_;refine⟨_,rfl,_,rfl,d,_,rfl,g3,e.c,_,_,_,rfl,rfl,c3,rfl,_,rfl,_,rfl,d,_,rfl,g3,e.c,_,_,_,rfl,rfl,c3,rfl,e.t,e.b,rfl, ?_,.inl (vI hE.sb (by omega)),λr H4 n4 s4 e4=>?_⟩
   ·have:=hE.pos;omega
   refine⟨_,rfl,.inl ⟨rfl,_,SqL.of (s4 _ _ el)⟩,_,rfl,_,rfl,uQ,λq H5 n5 s5 e5=>?_⟩;have s45:=s4.trans s5;have el5:=s45 _ _ el;have lx:=Paired.length hx;rw[mP,mI]at lx;refine⟨l,_,_,rfl,rfl,el5,gR (show _<=63 by omega) (by decide), ?_⟩;have ku:∀o:HO,Kp H5 (upd H5 l o):=λo=>Kp.upd el5 trivial;refine .mk (jZ (s3.trans s45) n1) ((k3.trans (Kp.of s45)).trans (ku _)) ?_ jG ?_
   ·rw[jM ls];exact s45 _ _ es
   ·rw[hW,he,mQ];refine Paired.app (Paired.to (λ_ _ h=>h.kp ((Kp.of s45).trans (ku _))) hx) (.cons ⟨q,b,r,rfl,(ku _).tup _ _ e5,(ku _).tup _ _ (s45 _ _ hb3),(ku _).tup _ _ (s5 _ _ e4)⟩ .nil)
  ·obtain⟨s3,k3,es,el,hx⟩:=h;rename_i xs3;rw[yl,mK]at hx;refine⟨_,rfl,_,rfl,l,_,rfl,SqL.of el,λq oq nq dq=>⟨uQ,λp H5 n5 s5 e5=>?_⟩⟩;have s4:Same H3 (upd H3 q (.frz oq (.tup xs3))):=kD _ nq;refine go p (E0.map Ent.tm) H5 ((s3.trans s4).free n5) (s3.trans (s4.trans s5)) ⟨⟨q,oq,_,e5,s5 _ _ jG,dq,Paired.to (λ_ _ h=>h.kp (Kp.of (s4.trans s5))) hx⟩, ?_,λx hx=>?_, ?_, ?_⟩ ?_
   ·rw[nP];exact(pE.map Ent.ns).nodup_iff.mpr hD.nd
   ·obtain⟨e,he,rfl⟩:=nN.mp hx;have k:=hD.each e (pE.mem_iff.mp he);obtain⟨a1,a2,a3,a4,a5⟩:=low_all k.pos k.nz k.sb k.st;exact⟨k.len,k.nn,k.deg,a1,a2,a3,a4,a5⟩
   ·rw[nP];have:(E0.map (Trm.k ∘ Ent.tm)).sum=(EE.map Ent.k).sum:=(pE.map Ent.k).sum_nat;rw[this];exact hD.sum
   ·rw[mP,pE.length_eq];exact hD.few
   ·have:tl (E0.map Ent.tm)=pl E0:=by
     unfold tl pl;rw[nP];refine List.map_congr_left λe he=>?_;have k:=hD.each e (pE.mem_iff.mp he);show(e.ns,_)=(e.ns,_)
     congr 1
     exact low_val k.pos
    rw[this];exact pE.map _
end Lw
namespace LwQ
def fv(t b:Int):Rat:=(t:Rat)/(b:Rat)
theorem cne{b:Int}(h:0<b):(b:Rat)≠0:=by
 intro z;have:b=0:=Rat.intCast_inj.mp (by rw[z];rfl);omega
theorem fv_eq{t b o u:Int}(hb:0<b)(hu:0<u)(h:t*u=o*b):fv t b=fv o u:=by
 have h1:=cne hb;have h2:=cne hu;have h3:(t:Rat)*(u:Rat)=(o:Rat)*(b:Rat):=by rw[<-mT,<-mT,h]
 unfold fv
 grind
theorem WZ{t b o u:Int}(hb:0<b)(hu:0<u)(h:fv t b=fv o u):t*u=o*b:=by
 have h1:=cne hb;have h2:=cne hu;unfold fv at h;have h3:(t:Rat)*(u:Rat)=(o:Rat)*(b:Rat):=by grind
 rw[<-mT,<-mT]at h3;exact Rat.intCast_inj.mp h3
theorem XA{t b o u:Int}(hb:0<b)(hu:0<u):fv (t*u+o*b) (b*u)=fv t b+fv o u:=by
 have h1:=cne hb;have h2:=cne hu;unfold fv;rw[Rat.intCast_add,mT,mT,mT]
 grind
theorem IE{t b o u:Int}(hb:0<b)(hu:0<u):fv (t*o) (b*u)=fv t b*fv o u:=by
 have h1:=cne hb;have h2:=cne hu;unfold fv;rw[mT,mT]
 grind
theorem zN{t b o u t' b':Int}(hb:0<b)(hu:0<u)(hb':0<b')(h:t'*(b*u)=(t*u+o*b)*b'):fv t' b'=fv t b+fv o u:=by
 rw[<-XA hb hu];exact fv_eq hb' (nY hb hu) h
theorem fv_one(t:Int):fv t 1=(t:Rat):=by
 unfold fv;have:((1:Int):Rat)=1:=rfl;rw[this]
 grind
theorem PZ:fv 0 1=0:=by rw[fv_one];rfl
theorem IJ{b t u:Int}(g:Int.gcd t b=1)(h:b∣t*u):b∣u:=by
 have h:=Int.natAbs_dvd_natAbs.mpr h;rw[mV]at h;have c:Nat.Coprime b.natAbs t.natAbs:=by
  have:Nat.gcd t.natAbs b.natAbs=1:=g;rw[Nat.gcd_comm]at this;exact this
 exact Int.natAbs_dvd_natAbs.mp (c.dvd_of_dvd_mul_left h)
theorem WI{t b o u:Int}(hb:0<b)(hu:0<u)(g1:Int.gcd t b=1)(g2:Int.gcd o u=1)(h:t*u=o*b):t=o/\b=u:=by
 have d1:b∣u:=by
  have:b∣t*u:=⟨o,by rw[h,nV]⟩;exact IJ g1 this
 have d2:u∣b:=by
  have:u∣o*b:=⟨t,by rw[<-h,nV]⟩;exact IJ g2 this
 have e:b=u:=Int.dvd_antisymm (by omega) (by omega) d1 d2;subst e;exact⟨Int.eq_of_mul_eq_mul_right (by omega) h,rfl⟩
theorem qH(x:Rat):fv x.num x.den=x:=by
 unfold fv;have:=Rat.num_divInt_den x;rw[Rat.divInt_eq_div]at this;exact this
theorem vX(x:Rat):0<(x.den:Int)/\Int.gcd x.num x.den=1:=⟨by have:=x.den_pos;omega,x.reduced⟩
theorem VU{t b:Int}(hb:0<b)(g:Int.gcd t b=1):(fv t b).num=t/\((fv t b).den:Int)=b:=by
 have n:=vX (fv t b);have e:=WZ n.1 hb (qH (fv t b));exact WI n.1 hb n.2 g e
def Wh(D:Int)(x:Rat):Prop:=∃z:Int,x*(D:Rat)=(z:Rat)
theorem Wh.dvd{D t b:Int}(hb:0<b)(g:Int.gcd t b=1)(h:Wh D (fv t b)):b∣D:=by
 obtain⟨z,hz⟩:=h;have h1:=cne hb;have e:(t:Rat)*(D:Rat)=(z:Rat)*(b:Rat):=by unfold fv at hz;grind
 rw[<-mT,<-mT]at e;have e:=Rat.intCast_inj.mp e;have:b∣t*D:=⟨z,by rw[e,nV]⟩;exact IJ g this
theorem Wh.up{D:Int}{x:Rat}(h:Wh D x)(k:Int):Wh (D*k) x:=by
 obtain⟨z,e⟩:=h;exact⟨z*k,by rw[mT,mT];grind⟩
theorem Wh.add{D:Int}{x y:Rat}(h:Wh D x)(h':Wh D y):Wh D (x+y):=by
 obtain⟨z,e⟩:=h;obtain⟨z',e'⟩:=h';exact⟨z+z',by rw[Rat.intCast_add];grind⟩
theorem Wh.of{t b:Int}(hb:0<b):Wh b (fv t b):=⟨t,by have h1:=cne hb;unfold fv;grind⟩
end LwQ
namespace Lw
open PySem PySem.Spec PyProof.Rows L2 LwQ
theorem SK{n d:Int}(hd:0<d):xT n d*d=n*xU n d:=by
 rw[vF hd,xS hd];obtain⟨a,ha⟩:=mN (a:=n) (b:=d);obtain⟨b,hb⟩:=mF (a:=n) (b:=d);have g1:=LwM.qV n d hd;generalize (Int.gcd n d:Int)=g at ha hb g1;subst ha hb;rw[Int.mul_ediv_cancel_left _ (by omega),Int.mul_ediv_cancel_left _ (by omega)]
 grind
theorem KJ{n d:Int}(hd:0<d):0<xU n d:=by
 have g1:=LwM.qV n d hd;rw[xS hd];exact Int.ediv_pos_of_pos_of_dvd hd (by omega) (mF ..)
theorem low_gcd{n d:Int}(hd:0<d):Int.gcd (xT n d) (xU n d)=1:=by
 have g1:=LwM.qV n d hd;rw[vF hd,xS hd];exact Int.gcd_ediv_gcd_ediv_gcd (by omega)
theorem OV{n d:Int}(hd:0<d):(xT n d).natAbs<=n.natAbs:=by
 rw[vF hd];exact LwM.uJ _ _ (LwM.qV n d hd)
theorem fv_low{n d:Int}(hd:0<d):fv (xT n d) (xU n d)=fv n d:=fv_eq (KJ hd) hd (SK hd)
theorem QL{x:Rat}{t b:Int}(hb:0<b)(h:x=fv t b):x.num*b=t*x.den:=by
 have n:=vX x;exact WZ n.1 hb (by rw[qH,h])
def Bd(R:Nat)(x:Rat):Prop:=x.num.natAbs<=R*x.den
theorem LO{x:Rat}{t b:Int}{R:Nat}(hb:0<b)(h:x=fv t b)(k:t.natAbs<=R*b.natAbs):Bd R x:=by
 have e:=congrArg Int.natAbs (QL hb h);rw[mV,mV,gX]at e;have hb':0<b.natAbs:=by omega
 refine Nat.le_of_mul_le_mul_right ?_ hb';rw[e]
 calc t.natAbs*x.den<=R*b.natAbs*x.den:=gL _ k
  _=R*x.den*b.natAbs:=by rw[Nat.mul_assoc,Nat.mul_comm b.natAbs,<-Nat.mul_assoc]
theorem Bd.mono{R S:Nat}{x:Rat}(h:Bd R x)(k:R<=S):Bd S x:=nK h (gL _ k)
theorem Bd.add{R S:Nat}{x y:Rat}(h:Bd R x)(k:Bd S y):Bd (R+S) (x+y):=by
 have n:=vX x;have m:=vX y;refine LO (t:=x.num*y.den+y.num*x.den) (b:=x.den*y.den) (nY n.1 m.1) (by rw[XA n.1 m.1,qH,qH]) ?_;refine nK (Int.natAbs_add_le _ _) ?_;rw[mV,mV,mV,gX,gX,Nat.add_mul];refine Nat.add_le_add ?_ ?_
 ·rw[<-Nat.mul_assoc];exact gL _ h
 ·rw[Nat.mul_comm x.den,<-Nat.mul_assoc];exact gL _ k
theorem Bd.mul{R S:Nat}{x y:Rat}(h:Bd R x)(k:Bd S y):Bd (R*S) (x*y):=by
 have n:=vX x;have m:=vX y;refine LO (t:=x.num*y.num) (b:=x.den*y.den) (nY n.1 m.1) (by rw[IE n.1 m.1,qH,qH]) ?_;rw[mV,mV,gX,gX]
 calc x.num.natAbs*y.num.natAbs<=(R*x.den)*(S*y.den):=mX h k
  _=R*S*(x.den*y.den):=by grind
theorem Bd.neg{R:Nat}{x:Rat}(h:Bd R x):Bd R (-x):=by
 have n:=vX x;refine LO (t:=-x.num) (b:=x.den) n.1 ?_ (by rw[Int.natAbs_neg,gX];exact h);have e:=qH x;unfold fv at e ⊢;rw[Rat.intCast_neg]
 grind
theorem Bd.sub{R S:Nat}{x y:Rat}(h:Bd R x)(k:Bd S y):Bd (R+S) (x-y):=by
 rw[Rat.sub_eq_add_neg];exact h.add k.neg
def SzR(n:Nat)(x:Rat):Prop:=x.num.natAbs<2^n/\x.den<2^n
theorem wE{H:Hp}{r:Addr}{N D:Int}{z:Rat}(h:At2 H r (xT N D) (xU N D))(hD:0<D)(e:fv N D=z):At2 H r z.num z.den:=by
 have nm:=VU (KJ (n:=N) hD) (low_gcd hD);rw[fv_low hD,e]at nm;unfold At2;rw[nm.1,nm.2];exact h
theorem zQ{x:Rat}{t b:Int}(hb:0<b)(h:x=fv t b):(x.den:Int)∣b/\x.num.natAbs<=t.natAbs:=by
 have n:=vX x;have d:(x.den:Int)∣b:=Wh.dvd n.1 n.2 (by rw[qH,h];exact Wh.of hb);refine⟨d, ?_⟩;obtain⟨k,hk⟩:=d;have c:=QL hb h;have k0:k≠0:=λz=>by rw[z,Int.mul_zero]at hk;omega
 have:x.num*k=t:=by
  have e:x.den*(x.num*k)=x.den*t:=by rw[hk]at c;grind
  exact Int.eq_of_mul_eq_mul_left (by omega) e
 rw[<-this,mV];exact uY _ (by omega)
structure Ov(D:Int)(n:Nat)(x:Rat):Prop where
 ex:∃z:Int,x=fv z D/\z.natAbs<=2^n
theorem int_num(i:Int):((i:Int):Rat).num=i/\(((i:Int):Rat).den:Int)=1:=⟨Rat.num_intCast i,by rw[Rat.den_intCast];rfl⟩
open LwV
def NumQ(K:tJ)(H:Hp)(x:V)(r:Rat):Prop:=∃a,x=.ref a/\SqT K H a [.int r.num,.int r.den]
def NumsQ(K:tJ)(H:Hp)(xs:List V)(rs:List Rat):Prop:=Paired (NumQ K H) xs rs
theorem NumQ.same{K:tJ}{H H':Hp}{x:V}{r:Rat}(h:NumQ K H x r)(s:Same H H'):NumQ K H' x r:=let ⟨a,e,q⟩:=h;⟨a,e,qZ s q⟩
def lvS(b:Int)(r:Rat):Int:=b*xT (r.den:Int) b
def lvD(rs:List Rat):Int:=rs.foldl lvS 1
def lvT(rs:List Rat):List Int:=rs.map λr=>r.num*(lvD rs/(r.den:Int))
theorem OR{b:Int}(hb:0<b)(r:Rat):0<lvS b r:=by
 unfold lvS;rw[vF hb];have g:=LwM.qV (r.den:Int) b hb;have d:=r.den_pos;have:0<(r.den:Int)/(Int.gcd (r.den:Int) b:Int):=by
  have h1:(Int.gcd (r.den:Int) b:Int)∣(r.den:Int):=mN ..;obtain⟨k,hk⟩:=h1;generalize (Int.gcd (r.den:Int) b:Int)=G at *;rw[hk,Int.mul_ediv_cancel_left _ (by omega)];by_cases z:0<k
  ·exact z
  ·have:G*k<=0:=Int.mul_nonpos_of_nonneg_of_nonpos (by omega) (by omega);omega
 exact nY hb this
theorem lvS_dvd{b:Int}(hb:0<b)(r:Rat):b∣lvS b r/\(r.den:Int)∣lvS b r:=by
 unfold lvS;refine⟨Int.dvd_mul_right .., ?_⟩;rw[vF hb];have g:=LwM.qV (r.den:Int) b hb;obtain⟨k,hk⟩:(Int.gcd (r.den:Int) b:Int)∣(r.den:Int):=mN ..;obtain⟨m,hm⟩:(Int.gcd (r.den:Int) b:Int)∣b:=mF ..;generalize (Int.gcd (r.den:Int) b:Int)=G at *;refine⟨m, ?_⟩;have:(r.den:Int)/G=k:=by rw[hk,Int.mul_ediv_cancel_left _ (by omega)]
 rw[this,hk]
 conv=>lhs;rw[hm]
 grind
theorem lvF:∀(rs:List Rat) (b:Int),0<b->0<rs.foldl lvS b/\b∣rs.foldl lvS b/\∀r∈rs,(r.den:Int)∣rs.foldl lvS b
 | [],b,h=>⟨h,Int.dvd_refl _,λ_ z=>nomatch z⟩
 | r::rs,b,h=>by
  obtain⟨h1,h2,h3⟩:=lvF rs (lvS b r) (OR h r);have d:=lvS_dvd h r;refine⟨h1,Int.dvd_trans d.1 h2,λq hq=>?_⟩;rcases nF.mp hq with rfl | hq
  ·exact Int.dvd_trans d.2 h2
  ·exact h3 q hq
theorem yB(rs:List Rat):0<lvD rs:=(lvF rs 1 (by decide)).1
theorem lvD_dvd{rs:List Rat}{r:Rat}(h:r∈rs):(r.den:Int)∣lvD rs:=(lvF rs 1 (by decide)).2.2 r h
theorem lvS_min{b D:Int}{r:Rat}(hb:0<b)(h1:b∣D)(h2:(r.den:Int)∣D):lvS b r∣D:=by
 unfold lvS;rw[vF hb];have g:=LwM.qV (r.den:Int) b hb;have e:((Int.lcm (r.den:Int) b:Nat):Int)=b*((r.den:Int)/(Int.gcd (r.den:Int) b:Int)):=by
  obtain⟨k,hk⟩:(Int.gcd (r.den:Int) b:Int)∣(r.den:Int):=mN ..;have h:=Int.gcd_mul_lcm (r.den:Int) b;have h':(Int.gcd (r.den:Int) b:Int)*(Int.lcm (r.den:Int) b:Int)=((r.den:Int).natAbs*b.natAbs:Nat):=by exact_mod_cast h
  rw[Int.natCast_mul,gX,Int.natAbs_of_nonneg (show 0<=b by omega)]at h';generalize hG:(Int.gcd (r.den:Int) b:Int)=G at *;have:(r.den:Int)/G=k:=by rw[hk,Int.mul_ediv_cancel_left _ (by omega)]
  rw[this];refine Int.eq_of_mul_eq_mul_left (show G≠0 by omega) ?_;rw[h',hk]
  grind
 rw[<-e];exact Int.coe_lcm_dvd h2 h1
theorem OS{D:Int} :∀(rs:List Rat) (b:Int),0<b->b∣D->(∀r∈rs,(r.den:Int)∣D)->rs.foldl lvS b∣D
 | [],b,_,h,_=>h
 | r::rs,b,hb,h,k=>OS rs (lvS b r) (OR hb r) (lvS_min hb h (k r (gY ..))) λq hq=>k q (gI _ hq)
theorem wY{D:Int}{rs:List Rat}{n:Nat}(h0:0<D)(hn:D.natAbs<=2^n)(h:∀r∈rs,(r.den:Int)∣D):(lvD rs).natAbs<=2^n:=by
 have d:=OS rs 1 (by decide) (Int.one_dvd D) h;exact nK (Nat.le_of_dvd (by omega) (Int.natAbs_dvd_natAbs.mpr d)) hn
theorem KI(rs:List Rat)(r:Rat):lvD (rs++[r])=lvS (lvD rs) r:=by
 unfold lvD;rw[mE]
 rfl
theorem MR{rs:List Rat}{r:Rat}(h:r∈rs):((r.num*(lvD rs/(r.den:Int)):Int):Rat)=r*(lvD rs:Rat):=by
 obtain⟨k,hk⟩:=lvD_dvd h;have d:=r.den_pos;rw[hk,Int.mul_ediv_cancel_left _ (by omega),mT,mT];have h1:=qH r;unfold fv at h1;have h2:((r.den:Int):Rat)≠0:=cne (by omega);generalize ((r.den:Int):Rat)=D at *;generalize (r.num:Rat)=N at *;rw[<-h1]
 grind
theorem BE(rs:List Rat):(lvT rs).length=rs.length:=by simp [lvT]
theorem WH{rs:List Rat}{m e:Nat}(h:(lvD rs).natAbs<=2^e)(k:∀r∈rs,r.num.natAbs<2^m):∀z∈lvT rs,z.natAbs<2^(m+e):=by
 intro z hz;unfold lvT at hz;obtain⟨r,hr,rfl⟩:=nN.mp hz;have d:=r.den_pos;have h1:(lvD rs/(r.den:Int)).natAbs<=2^e:=nK (LwM.uJ _ _ (by omega)) h;rw[mV,tD];exact Nat.mul_lt_mul_of_lt_of_le (k r hr) h1 (Nat.two_pow_pos _)
def NP(K:tJ):Sp:=λvs H Q _=>∃(l:Addr) (xs:List V) (rs:List Rat),vs=[.ref l]/\SqL K H l xs/\(∀H',Same H H'->SqL K H' l xs)/\NumsQ K H xs rs/\rs.length<=200/\(∃D:Int,0<D/\D.natAbs<=2^2400/\∀r∈rs,(r.den:Int)∣D)/\(∀r∈rs,r.num.natAbs<2^4000)/\
 ∀(p q:Addr) (H':Hp),H p=none->H q=none->Same H H'->H' p=some (.tup [.ref q,.int (lvD rs)])->H' q=some (.lst ((lvT rs).map V.int))->Q (.ref p) H'
def IY(K:tJ):Sp:=λvs H Q _=>∃(l:Addr) (xs:List V) (rs:List Rat),vs=[.ref l]/\SqT K H l xs/\(∀H',Same H H'->SqT K H' l xs)/\NumsQ K H xs rs/\rs.length<=200/\(∃D:Int,0<D/\D.natAbs<=2^2400/\∀r∈rs,(r.den:Int)∣D)/\(∀r∈rs,r.num.natAbs<2^4000)/\
 ∀(p q:Addr) (H':Hp),H p=none->H q=none->Same H H'->H' p=some (.tup [.ref q,.int (lvD rs)])->H' q=some (.lst ((lvT rs).map V.int))->Q (.ref p) H'
theorem AN{t:Int}{n:Nat}(h:t.natAbs<2^n)(hn:0<n):FrOk n t 1:=⟨by decide,by simp,h,by
 show 1<2^n;exact Nat.one_lt_two_pow (by omega)⟩
variable{P:Program}{w:World}{K:tJ}{mg:Str->Option Value}{base:Heap}{f fd:_}
theorem scLevel:FnScope ["some","bottom","top","under"] ["some"] (jQ UL):=⟨rfl,rfl,rfl,by decide +kernel,rfl,by decide +kernel,by decide +kernel⟩
theorem VM{fD fM fG:Addr}{fdD fdM fdG:FuncData}(F:Fun K "level" "level" UL f fd)(T:Txt mg)(DD:Df K mg "divided" RK ["one","other"] fD fdD)(DM:Df K mg "multiplied" RJ ["one","other"] fM fdM)(DG:Df K mg "greatest_divisor" MD ["one","other"] fG fdG):FnOk P w K mg base CX0 4 f fd ["some"] (NP K):=by
 have GD:FnOk P w K mg base CX0 3 fD fdD ["one","other"] (FZ K):=HN DD.F T DM DG;refine F.ok scLevel (λvs H Q E h=>?_) (λcdv A outer s H vs Q E hr h=>?_)
 ·obtain⟨l,xs,rs,rfl,_⟩:=h
  rfl
 ·obtain⟨l,xs,rs,rfl,hl,hlk,hX,l24,⟨D,pD0,bD0,dD0⟩,bd,go⟩:=h;refine⟨_,jB (jN (i:=1) scLevel.nd rfl (Or.inr rfl) jD)
   (jB (kO PassesOwn.never rfl (kZ (pv 0)) (kJ rfl (jI (jF (i:=2) scLevel.nd rfl (Or.inl rfl)) (jI (jF (i:=3) scLevel.nd rfl (Or.inl rfl)) kC)))
    (jE (jN (i:=1) scLevel.nd rfl (Or.inr rfl) (jK kH (pv 1) (jT jV (jH GD hr rfl DD.m DD.F.kp DD.b .nil jR (jA (jW (jA (pv 3) (jA jD jC))) (jA (jW (jA (pv 1) (jA jD jC))) jC))) jD (λ_ _=>rfl))))))
   (jE (jS (jW (jA (kX (own:=2) (idx:=[1]) (N:=["top","under","bottom"]) rfl rfl rfl (by decide +kernel) (by decide +kernel) (λ_ _ h=>h) (qJ rfl) rfl (qU rfl ⟨rfl,rfl,rfl,rfl⟩)
    (kZ (pv 0))
    (λC fp s2 H2=>show PG (jO _ ["top","under","bottom"] _ _ C fp s2 H2) _ (AM K 2 (qI (jP 0) (qI (jP 1) gNil)))from kJ (X:=jO _ ["top","under","bottom"] _ _ C fp s2 H2) rfl (jI (jF (i:=0) (show List.Nodup (["top","under","bottom"]:List Str) by decide +kernel) rfl (Or.inl rfl) (Or.inr rfl)) (jI (jF (i:=1) (show List.Nodup (["top","under","bottom"]:List Str) by decide +kernel) rfl (Or.inl rfl) (Or.inr rfl)) kC)))
    (λC fp s2 H2=>jK kH (pv 0) (jK vE (pv 2) (pv 1)))) (jA (pv 1) jC)))))), ?_⟩
  try dsimp only[cxK]
  have lx:xs.length=rs.length:=Paired.length hX;have bdD:∀(ys:List Rat),(∀r∈ys,r∈rs)->(lvD ys).natAbs<=2^2400:=λys hy=>wY pD0 bD0 λr hr=>dD0 r (hy r hr);have bdd:∀r∈rs,((r.den:Int)).natAbs<2^2401:=λr hr=>gR (nK (Nat.le_of_dvd (by omega) (Int.natAbs_dvd_natAbs.mpr (dD0 r hr))) bD0) (gK (by decide) (by decide));refine⟨_,rfl,l,rfl,⟨xs,hl⟩,qT (K:=K) (a:=l) (xs:=xs) (λi σ H1=>Same H H1/\∃v2 v3,σ=[some (.ref l),some (.int (lvD (rs.take i))),v2,v3]) ⟨Same.refl H,_,_,rfl⟩ (λi σ H1 _ h=>hlk _ h.1) ?_ ?_⟩
  ·rintro i x σ H1 hx ⟨s1,v2,v3,rfl⟩;obtain⟨r,hr',a,rfl,sq⟩:=Paired.at hX hx;have hir:i<rs.length:=(uU.mp hr').1;have rm:r∈rs:=gH hr';have tk:rs.take (i+1)=rs.take i++[r]:=by
    rw[List.take_succ,hr']
    rfl
   have bi:=bdD (rs.take i) (λq hq=>gN hq);have pi:=yB (rs.take i);have brm:=bd r rm;have dp:=r.den_pos;have bi':(lvD (rs.take i)).natAbs<2^2401:=gR bi (gK (by decide) (by decide));have bd':=bdd r rm;refine(gT2 (qZ s1 sq) rfl ?_);refine⟨_,rfl,_,rfl,uQ,λz H2 n2 s2 e2=>⟨_,rfl,uQ,λy H3 n3 s3 e3=>?_⟩⟩;refine⟨z,y,(r.den:Int),1,lvD (rs.take i),1,rfl,SqT.of (s3 _ _ e2),SqT.of e3,AN (jJ bd' (by decide)) (by decide),AN (jJ bi' (by decide)) (by decide),by omega,λq H4 n4 s4 e4=>?_⟩;rw[Int.mul_one,Int.one_mul]at e4;have lt:=OV (n:=(r.den:Int)) pi;refine⟨q,_,_,_,rfl,rfl,SqT.of e4,rfl,_,_,rfl,rfl,⟨jJ bi' (by decide),gR lt (jJ bd' (by decide))⟩, ?_⟩;refine⟨((s1.trans s2).trans s3).trans s4,some (.int r.num),some (.int r.den), ?_⟩;rw[tk,KI]
   rfl
  ·rintro σ H1 ⟨s1,v2,v3,rfl⟩;rw[lx,mK];have bD:=bdD rs (λ_ h=>h);have pD:=yB rs;have bD':(lvD rs).natAbs<2^2401:=gR bD (gK (by decide) (by decide));refine⟨_,rfl,l,rfl,⟨xs,hlk _ s1⟩,λq H2 n2 s2 e2=>?_⟩;refine qX (K:=K) (a:=l) (xs:=xs) (CmI (λi=>((lvT rs).take i).map V.int) q H1) (by rw[lx];exact gR l24 (by decide)) ⟨s2,e2,rfl⟩ (λi ys H4 h=>⟨hlk _ (s1.trans h.1),h.2⟩) ?_ ?_
   ·rintro i m ys x H4 hx hm hy ⟨s4,e4,rfl⟩;obtain⟨r,hr',a,rfl,sq⟩:=Paired.at hX hx;have rm:r∈rs:=gH hr';have brm:=bd r rm;have dp:=r.den_pos;have bd':=bdd r rm;refine(gT2 (qZ (s1.trans s4) sq) rfl ⟨uC, ?_⟩);have bq:(lvD rs/(r.den:Int)).natAbs<2^2401:=xH bD' (by omega);refine⟨_,rfl,_,rfl,_,rfl,_,_,rfl,rfl,⟨by omega,jJ bd' (by decide)⟩,_,_,rfl,rfl,⟨jJ brm (by decide),jJ bq (by decide)⟩, ?_⟩;refine kF hx hm hy e4 ⟨jZ s4 n2,jG, ?_⟩;have:(lvT rs)[i]? = some (r.num*(lvD rs/(r.den:Int))):=by
     unfold lvT;rw[hJ,hr']
     rfl
    rw[List.take_succ,this,mQ]
    rfl
   ·rintro ys H4 hy ⟨s4,e4,rfl⟩;refine⟨_,rfl,uQ,λp H5 n5 s5 e5=>?_⟩;rw[lx,<-BE rs,mK]at e4;exact go p q H5 ((s1.trans s4).free n5) (s1.free n2) ((s1.trans s4).trans s5) e5 (s5 _ _ e4)
theorem RZ{fD fM fG:Addr}{fdD fdM fdG:FuncData}(F:Fun K "level" "level" UL f fd)(T:Txt mg)(DD:Df K mg "divided" RK ["one","other"] fD fdD)(DM:Df K mg "multiplied" RJ ["one","other"] fM fdM)(DG:Df K mg "greatest_divisor" MD ["one","other"] fG fdG):FnOk P w K mg base CX0 4 f fd ["some"] (IY K):=by
 have GD:FnOk P w K mg base CX0 3 fD fdD ["one","other"] (FZ K):=HN DD.F T DM DG;refine F.ok scLevel (λvs H Q E h=>?_) (λcdv A outer s H vs Q E hr h=>?_)
 ·obtain⟨l,xs,rs,rfl,_⟩:=h
  rfl
 ·obtain⟨l,xs,rs,rfl,hl,hlk,hX,l24,⟨D,pD0,bD0,dD0⟩,bd,go⟩:=h;refine⟨_,jB (jN (i:=1) scLevel.nd rfl (Or.inr rfl) jD)
   (jB (kO PassesOwn.never rfl (HL (pv 0)) (kJ rfl (jI (jF (i:=2) scLevel.nd rfl (Or.inl rfl)) (jI (jF (i:=3) scLevel.nd rfl (Or.inl rfl)) kC)))
    (jE (jN (i:=1) scLevel.nd rfl (Or.inr rfl) (jK kH (pv 1) (jT jV (jH GD hr rfl DD.m DD.F.kp DD.b .nil jR (jA (jW (jA (pv 3) (jA jD jC))) (jA (jW (jA (pv 1) (jA jD jC))) jC))) jD (λ_ _=>rfl))))))
   (jE (jS (jW (jA (kX (own:=2) (idx:=[1]) (N:=["top","under","bottom"]) rfl rfl rfl (by decide +kernel) (by decide +kernel) (λ_ _ h=>h) (qJ rfl) rfl (qU rfl ⟨rfl,rfl,rfl,rfl⟩)
    (HL (pv 0))
    (λC fp s2 H2=>show PG (jO _ ["top","under","bottom"] _ _ C fp s2 H2) _ (AM K 2 (qI (jP 0) (qI (jP 1) gNil)))from kJ (X:=jO _ ["top","under","bottom"] _ _ C fp s2 H2) rfl (jI (jF (i:=0) (show List.Nodup (["top","under","bottom"]:List Str) by decide +kernel) rfl (Or.inl rfl) (Or.inr rfl)) (jI (jF (i:=1) (show List.Nodup (["top","under","bottom"]:List Str) by decide +kernel) rfl (Or.inl rfl) (Or.inr rfl)) kC)))
    (λC fp s2 H2=>jK kH (pv 0) (jK vE (pv 2) (pv 1)))) (jA (pv 1) jC)))))), ?_⟩
  try dsimp only[cxK]
  have lx:xs.length=rs.length:=Paired.length hX;have bdD:∀(ys:List Rat),(∀r∈ys,r∈rs)->(lvD ys).natAbs<=2^2400:=λys hy=>wY pD0 bD0 λr hr=>dD0 r (hy r hr);have bdd:∀r∈rs,((r.den:Int)).natAbs<2^2401:=λr hr=>gR (nK (Nat.le_of_dvd (by omega) (Int.natAbs_dvd_natAbs.mpr (dD0 r hr))) bD0) (gK (by decide) (by decide));refine⟨_,rfl,l,rfl,⟨xs,hl⟩,for_tup (K:=K) (a:=l) (xs:=xs) (λi σ H1=>Same H H1/\∃v2 v3,σ=[some (.ref l),some (.int (lvD (rs.take i))),v2,v3]) ⟨Same.refl H,_,_,rfl⟩ (λi σ H1 _ h=>hlk _ h.1) ?_ ?_⟩
  ·rintro i x σ H1 hx ⟨s1,v2,v3,rfl⟩;obtain⟨r,hr',a,rfl,sq⟩:=Paired.at hX hx;have hir:i<rs.length:=(uU.mp hr').1;have rm:r∈rs:=gH hr';have tk:rs.take (i+1)=rs.take i++[r]:=by
    rw[List.take_succ,hr']
    rfl
   have bi:=bdD (rs.take i) (λq hq=>gN hq);have pi:=yB (rs.take i);have brm:=bd r rm;have dp:=r.den_pos;have bi':(lvD (rs.take i)).natAbs<2^2401:=gR bi (gK (by decide) (by decide));have bd':=bdd r rm;refine(gT2 (qZ s1 sq) rfl ?_);refine⟨_,rfl,_,rfl,uQ,λz H2 n2 s2 e2=>⟨_,rfl,uQ,λy H3 n3 s3 e3=>?_⟩⟩;refine⟨z,y,(r.den:Int),1,lvD (rs.take i),1,rfl,SqT.of (s3 _ _ e2),SqT.of e3,AN (jJ bd' (by decide)) (by decide),AN (jJ bi' (by decide)) (by decide),by omega,λq H4 n4 s4 e4=>?_⟩;rw[Int.mul_one,Int.one_mul]at e4;have lt:=OV (n:=(r.den:Int)) pi;refine⟨q,_,_,_,rfl,rfl,SqT.of e4,rfl,_,_,rfl,rfl,⟨jJ bi' (by decide),gR lt (jJ bd' (by decide))⟩, ?_⟩;refine⟨((s1.trans s2).trans s3).trans s4,some (.int r.num),some (.int r.den), ?_⟩;rw[tk,KI]
   rfl
  ·rintro σ H1 ⟨s1,v2,v3,rfl⟩;rw[lx,mK];have bD:=bdD rs (λ_ h=>h);have pD:=yB rs;have bD':(lvD rs).natAbs<2^2401:=gR bD (gK (by decide) (by decide));refine⟨_,rfl,l,rfl,⟨xs,hlk _ s1⟩,λq H2 n2 s2 e2=>?_⟩;refine FJ (K:=K) (a:=l) (xs:=xs) (CmI (λi=>((lvT rs).take i).map V.int) q H1) (by rw[lx];exact gR l24 (by decide)) ⟨s2,e2,rfl⟩ (λi ys H4 h=>⟨hlk _ (s1.trans h.1),h.2⟩) ?_ ?_
   ·rintro i m ys x H4 hx hm hy ⟨s4,e4,rfl⟩;obtain⟨r,hr',a,rfl,sq⟩:=Paired.at hX hx;have rm:r∈rs:=gH hr';have brm:=bd r rm;have dp:=r.den_pos;have bd':=bdd r rm;refine(gT2 (qZ (s1.trans s4) sq) rfl ⟨uC, ?_⟩);have bq:(lvD rs/(r.den:Int)).natAbs<2^2401:=xH bD' (by omega);refine⟨_,rfl,_,rfl,_,rfl,_,_,rfl,rfl,⟨by omega,jJ bd' (by decide)⟩,_,_,rfl,rfl,⟨jJ brm (by decide),jJ bq (by decide)⟩, ?_⟩;refine kF hx hm hy e4 ⟨jZ s4 n2,jG, ?_⟩;have:(lvT rs)[i]? = some (r.num*(lvD rs/(r.den:Int))):=by
     unfold lvT;rw[hJ,hr']
     rfl
    rw[List.take_succ,this,mQ]
    rfl
   ·rintro ys H4 hy ⟨s4,e4,rfl⟩;refine⟨_,rfl,uQ,λp H5 n5 s5 e5=>?_⟩;rw[lx,<-BE rs,mK]at e4;exact go p q H5 ((s1.trans s4).free n5) (s1.free n2) ((s1.trans s4).trans s5) e5 (s5 _ _ e4)
theorem FT{X:Cx}{scope:Scope}{own j0 j1:Nat}{N:List Str}{x0 x1:Str}(h0:N[own]? = some x0)(h1:N[own+1]? = some x1)(a:X.N[j0]? = some x0/\X.env.kindOf x0=some .cell/\(relabel scope X.env).names.lookup x0=some .cell/\X.env.scope.names.lookup x0=some .cell)
  (b:X.N[j1]? = some x1/\X.env.kindOf x1=some .cell/\(relabel scope X.env).names.lookup x1=some .cell/\X.env.scope.names.lookup x1=some .cell) :
  ∀(k j:Nat) (x:Str),[j0,j1][k]? = some j->N[own+k]? = some x->X.N[j]? = some x/\X.env.kindOf x=some .cell/\(relabel scope X.env).names.lookup x=some .cell/\X.env.scope.names.lookup x=some .cell:=by
 intro k j x e1 e2
 match k,e1,e2 with
 | 0,e1,e2=>
  cases e1;rw[nU,h0]at e2;cases e2;exact a
 | 1,e1,e2=>
  cases e1;rw[h1]at e2;cases e2;exact b
 | k+2,e1,_=>cases e1
theorem qW{cl cells:List (Str×Addr)}(h:∀y∈cl,cells.lookup y.1=some y.2):∀x c,cl.lookup x=some c->cells.lookup x=some c:=λx c e=>h (x,c) (PySem.mem_of_lookup e)
theorem XM:∀n:Nat,n<=24->(LwB.fct n).natAbs<=2^(5*n)
 | 0,_=>by decide
 | n+1,h=>by
  show(LwB.fct n*((n:Int)+1)).natAbs<=_;rw[mV,Nat.mul_succ,tD];exact mX (XM n (by omega)) (by omega)
theorem wD{n:Nat}(h:n<=24):(LwB.fct n).natAbs<2^121:=gR (XM n h) (gK (by decide) (by omega))
def spFact:Sp:=λvs H Q _=>∃n:Nat,vs=[.int n]/\n<=24/\Q (.int (LwB.fct n)) H
theorem scFact:FnScope ["many","product","factor"] ["many"] (jQ UM):=⟨rfl,rfl,rfl,by decide +kernel,rfl,by decide +kernel,by decide +kernel⟩
theorem ZP(F:Fun K "factorial" "factorial" UM f fd)(T:Txt mg):FnOk P w K mg base CX0 1 f fd ["many"] spFact:=by
 refine F.ok scFact (λvs H Q E h=>?_) (λcdv A outer s H vs Q E hr h=>?_)
 ·obtain⟨n,rfl,_⟩:=h
  rfl
 ·obtain⟨n,rfl,h24,go⟩:=h;refine⟨_,jB (jN (i:=1) scFact.nd rfl (Or.inl rfl) jD)
   (jB (kO PassesOwn.never rfl (RV (by rfl) T.rng (jA jD (jA (jK kW (pv 0) jD) jC))) (jF (i:=2) scFact.nd rfl (Or.inl rfl))
    (jE (jN (i:=1) scFact.nd rfl (Or.inl rfl) (jK kH (pv 1) (pv 2)))))
   (jE (jS (pv 1)))), ?_⟩
  try dsimp only[cxK]
  refine⟨_,rfl,_,_,rfl,rfl,_,_,rfl,⟨by decide,by decide,by omega,by omega⟩, ?_⟩;have f1:LwB.fct 1=1:=by decide
  refine qR (λi σ H1=>H1=H/\∃v,σ=[some (.int n),some (.int (LwB.fct (i+1))),v]) ⟨rfl,_,by rw[f1];rfl⟩ ?_ ?_
  ·rintro i σ H1 hi ⟨rfl,v,rfl⟩;refine(oVV rfl rfl ⟨jJ (wD (n:=i+1) (by omega)) (by decide),gU (show(2+(i:Int)).natAbs<2^10 by omega) (gJ (by decide) (by decide))⟩ ⟨rfl,some (.int (2+(i:Int))), ?_⟩);show [some (V.int n),some (V.int (LwB.fct (i+1)*(2+(i:Int)))),_]=[_,some (V.int (LwB.fct (i+1)*(((i+1:Nat):Int)+1))),_];rw[show(2:Int)+(i:Int)=((i+1:Nat):Int)+1 by omega]
  ·rintro σ H1 ⟨rfl,v,rfl⟩;refine⟨_,rfl, ?_⟩;have:LwB.fct (((n:Int)+1-2).toNat+1)=LwB.fct n:=by
    by_cases z:n=0
    ·subst z;decide
    ·rw[show((n:Int)+1-2).toNat+1=n by omega]
   rw[this];exact go
end Lw
namespace Lw
open PySem PySem.Spec PyProof.Rows L2 LwQ
def CW{α:Type}(xs:List α)(Pv:Nat->List V->Hp->Prop)(i m:Nat)(ys:List V)(H:Hp):Prop:=m=xs.length-i/\i<=xs.length/\Pv i ys H
theorem QK{α:Type}{xs:List α}{Pv:Nat->List V->Hp->Prop}{i m:Nat}{ys:List V}{H:Hp}{x:α}(h:xs[i]? = some x)(hm:m=xs.length-i)(q:Pv (i+1) ys H):∃m',m'<m/\CW xs Pv (i+1) m' ys H:=by
 have:=(uU.mp h).1;exact⟨_,by omega,rfl,this,q⟩
theorem LG{K:tJ}{a:Addr}{xs:List V}{σ0:L2.St}{g:TG}{wi2:TI}{g2:TG}{te:TE}{Q:VK}{p:Addr}{H':Hp}(Pv:Nat->Hp->Prop)(h0:Pv 0 H')(hl:∀i H2,Pv i H2->SqL K H2 a xs)
  (hs:∀i m x H2,xs[i]? = some x->m=xs.length-i->Pv i H2->g x σ0 H2 fun σ4 H4=>wi2 σ4 H4 λJ2 H5=>
   ∃W2:Nat->Nat->List V->L2.St->Hp->Prop,(∃m2 ys,W2 0 m2 ys σ4 H5)/\∀j m2 ys σ5 H6,W2 j m2 ys σ5 H6->H6 p=some (.lst ys)/\ys.length<sizeLine/\
    ((J2.stop j H6/\Keep σ0 σ5/\∃m',m'<m/\m'=xs.length-(i+1)/\i+1<=xs.length/\Pv (i+1) H6)∨(J2.go j H6/\∀y H7,J2.yld j H6 y H7->g2 y σ5 H7 fun σ8 H8=>te σ8 H8 λz H9=>H9 p=some (.lst ys)/\∃m2',m2'<m2/\W2 (j+1) m2' (ys++[z]) σ8 (upd H9 p (.lst (ys++[z]))))))
  (hd:∀H2,Pv xs.length H2->Q (.ref p) H2):CompGo2 σ0 (Itl K a) g wi2 g2 te Q p H':=by
 refine⟨λi m H=>m=xs.length-i/\i<=xs.length/\Pv i H,⟨_,rfl,nX _,h0⟩, ?_⟩;rintro i m H2 ⟨hm,hi,hp⟩;have q:=hl i H2 hp;by_cases hlt:i<xs.length
 ·refine .inr ⟨⟨xs,xs[i],q,by simp [hlt]⟩, ?_⟩;rintro x H3 ⟨rfl,y⟩;exact hs i m x _ (y xs q) hm hp
 ·obtain rfl:i=xs.length:=by omega
  exact .inl ⟨⟨xs,q,nW _⟩,hd H2 hp⟩
theorem FI{K:tJ}{a b:Addr}{ts us:List V}{σ0:L2.St}{g:TG}{te:TE}{Q:VK}{p:Addr}{H':Hp}(Pv:Nat->List V->Hp->Prop)(hle:us.length<=ts.length)(hz:us.length<sizeLine)(h0:Pv 0 [] H')
  (hl:∀i ys H2,Pv i ys H2->SqL K H2 a ts/\SqL K H2 b us/\H2 p=some (.lst ys))
  (hs:∀i m ys x y c H2,ts[i]? = some x->us[i]? = some y->m=us.length-i->ys.length=i->Pv i ys H2->H2 c=none->g (.ref c) σ0 (upd H2 c (.tup [x,y])) fun σ4 H4=>Keep σ0 σ4/\te σ4 H4 λy H5=>H5 p=some (.lst ys)/\∃m',m'<m/\CompW us Pv (i+1) m' (ys++[y]) (upd H5 p (.lst (ys++[y]))))
  (hd:∀ys H2,ys.length=us.length->Pv us.length ys H2->Q (.ref p) H2):CompGoF σ0 (ItzL K a b) g te Q p H':=by
 refine⟨CompW us Pv,⟨_,rfl,nX _,rfl,h0⟩, ?_⟩;rintro i m ys H2 ⟨hm,hi,hy,hp⟩;obtain⟨q1,q2,e⟩:=hl i ys H2 hp;refine⟨e,by omega, ?_⟩;by_cases hlt:i<us.length
 ·have h2:i<ts.length:=by omega
  refine .inr ⟨⟨ts,us,ts[i],us[i],q1,q2,by simp [h2],by simp [hlt]⟩, ?_⟩;rintro _ _ ⟨c,x,y,hc,rfl,rfl,h1,h2⟩;exact hs i m ys x y c H2 (h1 _ q1) (h2 _ q2) hm hy hp hc
 ·obtain rfl:i=us.length:=by omega
  exact .inl ⟨⟨ts,us,q1,q2,.inr uO⟩,hd ys H2 hy hp⟩
theorem DQ(xs:List V)(k:Nat):zT xs (some (k:Int)) none=xs.drop k:=by
 unfold zT;rw[HT.sIx_nat,HT.sIx_none];by_cases h:k<=xs.length
 ·rw[Nat.min_eq_left h];exact gA (by rw[List.length_drop];exact nW _)
 ·rw[Nat.min_eq_right (by omega),List.drop_of_length_le uO,List.drop_of_length_le (by omega),List.take_nil]
open LwV
def foZ(u:Int)(line:List Int)(a:Int):List Int:=List.zipWith (λp q=>u*p+a*q) line (line.drop 1)
def foL(u:Int)(tops line:List Int):List Int:=tops.foldl (foZ u) line
theorem IF(u:Int)(line:List Int)(a:Int):(foZ u line a).length=line.length-1:=by
 unfold foZ;rw[List.length_zipWith,List.length_drop];omega
theorem BK(u:Int):∀(tops line:List Int),(foL u tops line).length=line.length-tops.length
 | [],line=>rfl
 | a::tops,line=>by
  show(foL u tops (foZ u line a)).length=_;rw[BK u tops,IF,mL];omega
theorem XG(u:Int)(tops line:List Int)(a:Int):foL u (tops++[a]) line=foZ u (foL u tops line) a:=by
 unfold foL;rw[mE]
 rfl
theorem zO(u:Rat):∀(tops:List Rat) (g g':Nat->Rat) (j:Nat),(∀i,i<=j+tops.length->g i=g' i)->LwB.foF u tops g j=LwB.foF u tops g' j
 | [],g,g',j,h=>h j (by simp)
 | a::tops,g,g',j,h=>by
  show LwB.foF u tops (LwB.fo1 u a g) j=LwB.foF u tops (LwB.fo1 u a g') j;refine zO u tops _ _ j λi hi=>?_;unfold LwB.fo1;rw[h i (by rw[mL];omega),h (i+1) (by rw[mL];omega)]
theorem QA(u:Int):∀(tops line:List Int) (j:Nat),j+tops.length<line.length->(((foL u tops line).getD j 0:Int):Rat)=LwB.foF (u:Rat) (tops.map λ(a:Int)=>(a:Rat)) (λi=>((line.getD i 0:Int):Rat)) j
 | [],line,j,_=>rfl
 | a::tops,line,j,h=>by
  rw[mL]at h;show(((foL u tops (foZ u line a)).getD j 0:Int):Rat)=LwB.foF (u:Rat) (tops.map λ(a:Int)=>(a:Rat)) (LwB.fo1 u a λi=>((line.getD i 0:Int):Rat)) j;rw[QA u tops (foZ u line a) j (by rw[IF];omega)];refine zO _ _ _ _ j λi hi=>?_;rw[mP]at hi;have h1:i<line.length:=by omega
  have h2:i+1<line.length:=by omega
  have e:(foZ u line a)[i]? = some (u*line[i]+a*line[i+1]):=by
   unfold foZ;rw[List.getElem?_zipWith,uW h1,List.getElem?_drop,Nat.add_comm 1 i,uW h2]
  unfold LwB.fo1;show(((foZ u line a).getD i 0:Int):Rat)=(u:Rat)*((line.getD i 0:Int):Rat)+(a:Rat)*((line.getD (i+1) 0:Int):Rat);have g1:line.getD i 0=line[i]:=by rw[uR,uW h1];rfl
  have g2:line.getD (i+1) 0=line[i+1]:=by rw[uR,uW h2];rfl
  have g3:(foZ u line a).getD i 0=u*line[i]+a*line[i+1]:=by rw[uR,e];rfl
  rw[g1,g2,g3,Rat.intCast_add,mT,mT]
theorem foZ_bd{u a:Int}{line:List Int}{β B:Nat}(hu:u.natAbs<2^β)(ha:a.natAbs<2^β)(h:∀z∈line,z.natAbs<2^B):∀z∈foZ u line a,z.natAbs<2^(B+(β+1)):=by
 intro z hz;unfold foZ at hz;obtain⟨i,hi⟩:=gF.mp hz;rw[List.getElem?_zipWith]at hi;split at hi
 ·next p q hp hq=>
  cases hi;have:=QT (kT hu (h p (gH hp))) (kT ha (h q (List.mem_of_mem_drop (gH hq))))
  rwa [show B+(β+1)=β+B+1 by omega]
 ·cases hi
theorem MX{u:Int}{β:Nat}(hu:u.natAbs<2^β):∀(tops line:List Int) (B:Nat),(∀a∈tops,a.natAbs<2^β)->(∀z∈line,z.natAbs<2^B)->∀z∈foL u tops line,z.natAbs<2^(B+tops.length*(β+1))
 | [],line,B,_,h,z,hz=>by simpa using h z hz
 | a::tops,line,B,ht,h,z,hz=>by
  have:=MX hu tops (foZ u line a) (B+(β+1)) (λb hb=>ht b (gI _ hb)) (foZ_bd hu (ht a (gY ..)) h) z hz;rw[mL,nQ]
  rwa [show B+(tops.length*(β+1)+(β+1))=B+(β+1)+tops.length*(β+1) by omega]
def UH(K:tJ):Sp:=λvs H Q _=>∃(l t:Addr) (line tops:List Int) (u:Int) (β B:Nat),vs=[.ref l,.ref t,.int u]/\H l=some (.lst (line.map V.int))/\H t=some (.lst (tops.map V.int))/\line.length=tops.length+1/\line.length<=200/\u.natAbs<2^β/\(∀a∈tops,a.natAbs<2^β)/\(∀z∈line,z.natAbs<2^B)/\B+tops.length*(β+1)<=20000/\β<=20000/\
 ∀(H':Hp),Same H H'->Q (.int ((foL u tops line).getD 0 0)) H'
variable{P:Program}{w:World}{K:tJ}{mg:Str->Option Value}{base:Heap}{f fd:_}
theorem scFo:FnScope ["line","tops","under","top"] ["line","tops","under"] (jQ OA):=⟨rfl,rfl,rfl,by decide +kernel,rfl,by decide +kernel,by decide +kernel⟩
inductive FoI(H:Hp)(t:Addr)(u:Int)(line tops:List Int)(i:Nat):L2.St->Hp->Prop where
 | mk {l':Addr} {v:Option V} {H1:Hp} (s:Same H H1) (e:H1 l'=some (.lst ((foL u (tops.take i) line).map V.int))):FoI H t u line tops i [some (.ref l'),some (.ref t),some (.int u),v] H1
theorem ZO(F:Fun K "folded" "folded" OA f fd)(T:Txt mg):FnOk P w K mg base CX0 1 f fd ["line","tops","under"] (UH K):=by
 refine F.ok scFo (λvs H Q E h=>?_) (λcdv A outer s H vs Q E hr h=>?_)
 ·obtain⟨l,t,line,tops,u,β,B,rfl,_⟩:=h
  rfl
 ·obtain⟨l,t,line,tops,u,β,B,rfl,hl,ht,hlen,l200,hu,hT,hL,hB,hβ,go⟩:=h;refine⟨_,jB (kO PassesOwn.never rfl (kZ (pv 1)) (jF (i:=3) scFo.nd rfl (Or.inr rfl)) (jE (CG (i:=0) scFo.nd rfl (Or.inl rfl) (own:=2) (idx:=[2,3]) (N:=["same","higher","under","top"]) rfl rfl rfl (by decide +kernel) (by decide +kernel) (qW (by intro y hy;simp only[nF,mJ,or_false]at hy;rcases hy with rfl | rfl<;>rfl)) (qJ rfl) rfl (FT rfl rfl ⟨rfl,rfl,rfl,rfl⟩ ⟨rfl,rfl,rfl,rfl⟩) (HK (by rfl) T.zip (jA (pv 0) (jA (vR vQ (pv 0) (vW jD) xE) jC))) (λC fp s2 H2=>show PG (jO _ ["same","higher","under","top"] _ _ C fp s2 H2) _ (AM K 2 (qI (jP 0) (qI (jP 1) gNil)))from kJ (X:=jO _ ["same","higher","under","top"] _ _ C fp s2 H2) rfl (jI (jF (i:=0) (show List.Nodup (["same","higher","under","top"]:List Str) by decide +kernel) rfl (Or.inl rfl) (Or.inr rfl)) (jI (jF (i:=1) (show List.Nodup (["same","higher","under","top"]:List Str) by decide +kernel) rfl (Or.inl rfl) (Or.inr rfl)) kC))) (λC fp s2 H2=>jK kW (jK kH (pv 2) (pv 0)) (jK kH (pv 3) (pv 1)))))) (jE (jS (jT kK (pv 0) jD (λ_ _=>rfl)))), ?_⟩;try dsimp only[cxK]
  refine⟨_,rfl,t,rfl,⟨_,SqL.of ht⟩,qT (K:=K) (a:=t) (xs:=tops.map V.int) (FoI H t u line tops) (.mk (Same.refl H) hl) (λi σ H1 _ h=>?_) ?_ ?_⟩
  ·cases h with
   | mk s e=>exact SqL.of (s _ _ ht)
  ·intro i x σ H1 hx h;cases h with
   | @mk l' v _ s e=>
   rw[hJ]at hx;obtain⟨a,ha,rfl⟩:=Option.map_eq_some_iff.mp hx;have hit:i<tops.length:=(uU.mp ha).1;have tk:tops.take (i+1)=tops.take i++[a]:=by rw[List.take_succ,ha];rfl
   have ll:=BK u (tops.take i) line;rw[mI,Nat.min_eq_left (by omega)]at ll;have bL:∀z∈foL u (tops.take i) line,z.natAbs<2^20000:=λz hz=>by
    have:=MX hu (tops.take i) line B (λb hb=>hT b (gN hb)) hL z hz;rw[mI,Nat.min_eq_left (by omega)]at this;exact jJ this (nK (Nat.add_le_add_left (gL _ (by omega)) _) hB)
   have aT:=jJ (hT a (gH ha)) hβ;have uT:=jJ hu hβ;rw[show FoI H t u line tops (i+1)=FoI H t u line tops (i+1)from rfl];dsimp only[jP];generalize hg:foL u (tops.take i) line=row at e ll bL;refine⟨_,rfl,_,rfl,_,rfl,l',_,rfl,SqL.of e,λq H2 n2 s2 e2=>?_⟩;have cd:zT (row.map V.int) (some 1) none=(row.drop 1).map V.int:=by
    rw[show(1:Int)=((1:Nat):Int)from rfl,DQ,List.map_drop]
   rw[cd]at e2;refine⟨l',q,rfl,⟨_,SqL.of (s2 _ _ e)⟩,⟨_,SqL.of e2⟩,λp H3 n3 s3 e3=>?_⟩;refine FI (ts:=row.map V.int) (us:=(row.drop 1).map V.int) (CmI (λk=>((foZ u row a).take k).map V.int) p H2) (by simp) (by rw[mP,List.length_drop,sizeLine_eq];omega) ⟨s3,e3,rfl⟩ (λi ys H4 h=>⟨SqL.of ((s2.trans h.s) _ _ e),SqL.of (h.s _ _ e2),h.e⟩) ?_ ?_
   ·rintro k m ys x y c H4 hxx hy hm hyl ⟨s4,h4,ey⟩ hc;rw[hJ]at hxx hy;obtain⟨x',hx',rfl⟩:=Option.map_eq_some_iff.mp hxx;obtain⟨y',hy',rfl⟩:=Option.map_eq_some_iff.mp hy;have s5:Same H4 (upd H4 c (.tup [.int x',.int y'])):=kD _ hc;have e5:(upd H4 c (.tup [.int x',.int y'])) c=some (.tup [.int x',.int y']):=jG;generalize upd H4 c (.tup [.int x',.int y'])=H5 at s5 e5;have bx:=bL x' (gH hx');have by':=bL y' (List.mem_of_mem_drop (gH hy'));refine⟨c,_,rfl,SqT.of e5,rfl,_,_,rfl,_,_,rfl,rfl,uC, ?_⟩;refine⟨_,rfl,_,rfl,_,_,rfl,rfl,⟨jJ uT (by decide),jJ bx (by decide)⟩,_,rfl,_,rfl,_,_,rfl,rfl,⟨jJ aT (by decide),jJ by' (by decide)⟩,_,_,rfl,rfl, ?_⟩;refine kF (by rw[hJ,hy'];rfl) hm hyl (s5 _ _ h4) ⟨jZ (s4.trans s5) n3,jG, ?_⟩;rw[ey,hW,mQ]
    congr 1
    have:(foZ u row a)[k]? = some (u*x'+a*y'):=by unfold foZ;rw[List.getElem?_zipWith,hx',hy']
    rw[this]
    rfl
   ·rintro ys H4 hyl ⟨s4,h4,ey⟩;refine .mk ((s.trans s2).trans s4) ?_;have el:(foZ u row a).length=((row.drop 1).map V.int).length:=by rw[IF,mP,List.length_drop]
    rw[<-el,mK]at ey;rw[h4,ey,tk,XG,hg]
  ·intro σ H1 h;cases h with
   | @mk l' v _ s e=>
   rw[mP,mK]at e;have ll:=BK u tops line;refine⟨_,rfl,l',_,_,_,rfl,rfl,SqL.of e, ?_,go _ s⟩;have h0:(foL u tops line)[0]? = some ((foL u tops line).getD 0 0):=by
    rw[uR,uW (show 0<(foL u tops line).length by omega)]
    rfl
   exact qS (j:=0) (by rw[hJ,h0];rfl)
theorem comp_tup{K:tJ}{a:Addr}{xs:List V}{n:Nat}{g:TG}{te:TE}{Q:VK}{p:Addr}{H':Hp}(Pv:Nat->List V->Hp->Prop)(hz:xs.length<sizeLine)(h0:Pv 0 [] H')
  (hl:∀i ys H2,Pv i ys H2->SqT K H2 a xs/\H2 p=some (.lst ys))
  (hs:∀i m ys x H2,xs[i]? = some x->m=xs.length-i->ys.length=i->Pv i ys H2->g x (List.replicate n none) H2 fun σ4 H4=>te σ4 H4 λy H5=>H5 p=some (.lst ys)/\∃m',m'<m/\CompW xs Pv (i+1) m' (ys++[y]) (upd H5 p (.lst (ys++[y]))))
  (hd:∀ys H2,ys.length=xs.length->Pv xs.length ys H2->Q (.ref p) H2):CompGo n (Itt K a) g te Q p H':=by
 refine⟨CompW xs Pv,⟨_,rfl,nX _,rfl,h0⟩, ?_⟩;rintro i m ys H2 ⟨hm,hi,hy,hp⟩;obtain⟨q,e⟩:=hl i ys H2 hp;refine⟨e,by omega, ?_⟩;by_cases hlt:i<xs.length
 ·refine .inr ⟨⟨xs,xs[i],q,by simp [hlt]⟩, ?_⟩;rintro x H3 ⟨rfl,y⟩;exact hs i m ys x _ (y xs q) hm hy hp
 ·obtain rfl:i=xs.length:=by omega
  exact .inl ⟨⟨xs,q,nW _⟩,hd ys H2 hy hp⟩
def ED(n:Nat):List V:=(List.range n).map λ(i:Nat)=>V.int (0+(i:Int))
theorem wF(n:Nat):(ED n).length=n:=by simp [ED]
theorem xM{n i:Nat}{x:V}(h:(ED n)[i]? = some x):x=.int (0+(i:Int))/\i<n:=by
 unfold ED at h;rw[hJ]at h;cases e:(List.range n)[i]? with
 | none=>rw[e]at h;cases h
 | some j=>
  rw[e]at h;obtain⟨h1,h2⟩:=uU.mp e;rw[List.getElem_range]at h2;subst h2;rw[mC]at h1;exact⟨(Option.some.inj h).symm,h1⟩
theorem vU{n:Nat}{σ0:L2.St}{g:TG}{te:TE}{Q:VK}{p:Addr}{H':Hp}(Pv:Nat->List V->Hp->Prop)(hz:n<sizeLine)(h0:Pv 0 [] H')(hl:∀i ys H2,Pv i ys H2->H2 p=some (.lst ys))
  (hs:∀i m ys x H2,(ED n)[i]? = some x->m=(ED n).length-i->ys.length=i->Pv i ys H2->g (.int (0+(i:Int))) σ0 H2 fun σ4 H4=>Keep σ0 σ4/\te σ4 H4 λy H5=>H5 p=some (.lst ys)/\∃m',m'<m/\CompW (ED n) Pv (i+1) m' (ys++[y]) (upd H5 p (.lst (ys++[y]))))
  (hd:∀ys H2,ys.length=n->Pv n ys H2->Q (.ref p) H2):CompGoF σ0 (Itr 0 n) g te Q p H':=by
 refine BM (xs:=ED n) Pv (by rw[wF];exact hz) h0 (λi ys H2 _ hi=>?_) (λys H2 _=>by rw[wF];exact nW n) hl (λi m ys x H2 hx hm hy hp=>?_) (λys H2 hy hp=>?_)
 ·rw[wF]at hi;refine⟨hi, ?_⟩;rintro x H3 ⟨rfl,rfl⟩;exact⟨rfl,by unfold ED;rw[hJ,gP hi];rfl⟩
 ·obtain⟨e,_⟩:=xM hx;subst e;exact hs i m ys _ H2 hx hm hy hp
 ·rw[wF]at hy hp;exact hd ys H2 hy hp
theorem LE{K:tJ}{a:Addr}{xs:List V}{σ0:L2.St}{g:TG}{te:TE}{Q:VK}{p:Addr}{H':Hp}(Pv:Nat->List V->Hp->Prop)(hz:xs.length<sizeLine)(h0:Pv 0 [] H')
  (hl:∀i ys H2,Pv i ys H2->SqL K H2 a xs/\H2 p=some (.lst ys))
  (hs:∀i m ys x c H2,xs[i]? = some x->m=xs.length-i->ys.length=i->Pv i ys H2->H2 c=none->g (.ref c) σ0 (upd H2 c (.tup [.int i,x])) fun σ4 H4=>Keep σ0 σ4/\te σ4 H4 λy H5=>H5 p=some (.lst ys)/\∃m',m'<m/\CompW xs Pv (i+1) m' (ys++[y]) (upd H5 p (.lst (ys++[y]))))
  (hd:∀ys H2,ys.length=xs.length->Pv xs.length ys H2->Q (.ref p) H2):CompGoF σ0 (Itel K a) g te Q p H':=by
 refine⟨CompW xs Pv,⟨_,rfl,nX _,rfl,h0⟩, ?_⟩;rintro i m ys H2 ⟨hm,hi,hy,hp⟩;obtain⟨q1,e⟩:=hl i ys H2 hp;refine⟨e,by omega, ?_⟩;by_cases hlt:i<xs.length
 ·refine .inr ⟨⟨xs,xs[i],q1,by simp [hlt]⟩, ?_⟩;rintro _ _ ⟨c,x,hc,rfl,rfl,h1⟩;exact hs i m ys x c H2 (h1 _ q1) hm hy hp hc
 ·obtain rfl:i=xs.length:=by omega
  exact .inl ⟨⟨xs,q1,nW _⟩,hd ys H2 hy hp⟩
theorem XI{X:Cx}{scope:Scope}{own j0 j1 j2 j3 j4:Nat}{N:List Str}{x0 x1 x2 x3 x4:Str}(h0:N[own]? = some x0)(h1:N[own+1]? = some x1)(h2:N[own+2]? = some x2)(h3:N[own+3]? = some x3)(h4:N[own+4]? = some x4)(a:X.N[j0]? = some x0/\X.env.kindOf x0=some .cell/\(relabel scope X.env).names.lookup x0=some .cell/\X.env.scope.names.lookup x0=some .cell)
  (b:X.N[j1]? = some x1/\X.env.kindOf x1=some .cell/\(relabel scope X.env).names.lookup x1=some .cell/\X.env.scope.names.lookup x1=some .cell) (c:X.N[j2]? = some x2/\X.env.kindOf x2=some .cell/\(relabel scope X.env).names.lookup x2=some .cell/\X.env.scope.names.lookup x2=some .cell)
  (d:X.N[j3]? = some x3/\X.env.kindOf x3=some .cell/\(relabel scope X.env).names.lookup x3=some .cell/\X.env.scope.names.lookup x3=some .cell) (e:X.N[j4]? = some x4/\X.env.kindOf x4=some .cell/\(relabel scope X.env).names.lookup x4=some .cell/\X.env.scope.names.lookup x4=some .cell) :
  ∀(k j:Nat) (x:Str),[j0,j1,j2,j3,j4][k]? = some j->N[own+k]? = some x->X.N[j]? = some x/\X.env.kindOf x=some .cell/\(relabel scope X.env).names.lookup x=some .cell/\X.env.scope.names.lookup x=some .cell:=by
 intro k j x e1 e2
 match k,e1,e2 with
 | 0,e1,e2=>cases e1;rw[nU,h0]at e2;cases e2;exact a
 | 1,e1,e2=>cases e1;rw[h1]at e2;cases e2;exact b
 | 2,e1,e2=>cases e1;rw[h2]at e2;cases e2;exact c
 | 3,e1,e2=>cases e1;rw[h3]at e2;cases e2;exact d
 | 4,e1,e2=>cases e1;rw[h4]at e2;cases e2;exact e
 | k+5,e1,_=>cases e1
def rRepN:R2:=λx y H Q=>∃(l:Addr) (k:Nat) (x':V),x=.ref l/\y=.int k/\H l=some (.lst [x'])/\k<=200/\New H (.lst (List.replicate k x')) Q
theorem KY{α:Type}(x:α):∀k:Nat,(List.replicate k [x]).flatten=List.replicate k x
 | 0=>rfl
 | k+1=>by rw[List.replicate_succ,List.flatten_cons,KY x k];rfl
theorem OJ{X:Cx} :OpR X (binaryOp .Mult) rRepN:=VB op_rep λx y H Q ⟨l,k,x',e1,e2,h,hk,q⟩=>⟨l,k,[x'],e1,e2,h,by omega,by omega,by rw[sizeLine_eq];simp;omega,λp n=>by rw[mG,KY];exact q.at n⟩
def shZ(line:List Int):List Int:=(List.range line.length).map λj=>line.getD j 0*LwB.fct j*LwB.fct (line.length-1-j)
def twZ(low high:Int)(m k:Nat):List Int:=List.replicate (m-k) low++List.replicate k high
def lnZ(line:List Int)(low high u:Int):List Int:=(List.range line.length).map λk=>(foL u (twZ low high (line.length-1) k) (shZ line)).getD 0 0
def UG(K:tJ):Sp:=λvs H Q _=>∃(l:Addr) (line:List Int) (low high u:Int) (β B:Nat),vs=[.ref l,.int low,.int high,.int u]/\H l=some (.lst (line.map V.int))/\1<=line.length/\line.length<=5/\u.natAbs<2^β/\low.natAbs<2^β/\high.natAbs<2^β/\(∀z∈line,z.natAbs<2^B)/\B<=5000/\β<=1000/\
 ∀(p:Addr) (H':Hp),H p=none->Same H H'->H' p=some (.lst ((lnZ line low high u).map V.int))->Q (.ref p) H'
theorem scLn:FnScope ["line","low","high","under","most","shares"] ["line","low","high","under"] (jQ NZ):=⟨rfl,rfl,rfl,by decide +kernel,rfl,by decide +kernel,by decide +kernel⟩
theorem ZM{fF fO:Addr}{fdF fdO:FuncData}(F:Fun K "line_numbers" "line_numbers" NZ f fd)(T:Txt mg)(DF:Df K mg "factorial" UM ["many"] fF fdF)(GF:FnOk P w K mg base CX0 1 fF fdF ["many"] spFact)(DO:Df K mg "folded" OA ["line","tops","under"] fO fdO)(GO:FnOk P w K mg base CX0 1 fO fdO ["line","tops","under"] (UH K)):FnOk P w K mg base CX0 2 f fd ["line","low","high","under"] (UG K):=by
 refine F.ok scLn (λvs H Q E h=>?_) (λcdv A outer s H vs Q E hr h=>?_)
 ·obtain⟨l,line,low,high,u,β,B,rfl,_⟩:=h
  rfl
 ·obtain⟨l,line,low,high,u,β,B,rfl,hl,l1,l5,hu,hlo,hhi,hL,hB,hβ,go⟩:=h;have hr1:Room 1 _:=hr.mono (by decide);refine⟨_,jB (jN (i:=4) scLn.nd rfl (Or.inr rfl) (jK qL (qD qG (by rfl) T.len PySem.boot_len (jA (pv 0) jC)) jD)) (jB (jN (i:=5) scLn.nd rfl (Or.inr rfl) (kX (own:=2) (idx:=[4]) (N:=["power","top","most"]) rfl rfl rfl (by decide +kernel) (by decide +kernel) (qW (by intro y hy;simp only[nF,mJ,or_false]at hy;rcases hy with rfl;rfl)) (qJ rfl) rfl (qU rfl ⟨rfl,rfl,rfl,rfl⟩) (CJ (by rfl) T.enum (jA (pv 0) jC)) (λC fp s2 H2=>show PG (jO _ ["power","top","most"] _ _ C fp s2 H2) _ (AM K 2 (qI (jP 0) (qI (jP 1) gNil)))from kJ (X:=jO _ ["power","top","most"] _ _ C fp s2 H2) rfl (jI (jF (i:=0) (show List.Nodup (["power","top","most"]:List Str) by decide +kernel) rfl (Or.inl rfl) (Or.inr rfl)) (jI (jF (i:=1) (show List.Nodup (["power","top","most"]:List Str) by decide +kernel) rfl (Or.inl rfl) (Or.inr rfl)) kC))) (λC fp s2 H2=>jK kH (jK kH (pv 1) (jH GF hr1 rfl DF.m DF.F.kp DF.b .nil jR (jA (pv 0) jC))) (jH GF hr1 rfl DF.m DF.F.kp DF.b .nil jR (jA (jK qL (pv 2) (pv 0)) jC))))) (jE (jS (kX (own:=1) (idx:=[2,1,4,5,3]) (N:=["at","high","low","most","shares","under"]) rfl rfl rfl (by decide +kernel) (by decide +kernel) (qW (by intro y hy;simp only[nF,mJ,or_false]at hy;rcases hy with rfl | rfl | rfl | rfl | rfl<;>rfl)) (qJ rfl) rfl (XI rfl rfl rfl rfl rfl ⟨rfl,rfl,rfl,rfl⟩ ⟨rfl,rfl,rfl,rfl⟩ ⟨rfl,rfl,rfl,rfl⟩ ⟨rfl,rfl,rfl,rfl⟩ ⟨rfl,rfl,rfl,rfl⟩) (kQ (by rfl) T.rng (jA (jK kW (pv 4) jD) jC)) (λC fp s2 H2=>(jF (i:=0) (show List.Nodup (["at","high","low","most","shares","under"]:List Str) by decide +kernel) rfl (Or.inl rfl) (Or.inr rfl))) (λC fp s2 H2=>jH GO hr1 rfl DO.m DO.F.kp DO.b .nil jR (jA (pv 4) (jA (jK wX (jK OJ (qC (jA (pv 2) jC)) (jK qL (pv 3) (pv 0))) (jK OJ (qC (jA (pv 1) jC)) (pv 0))) (jA (pv 5) jC)))))))), ?_⟩
  try dsimp only[cxK]
  obtain⟨m,hm⟩:∃m,line.length=m+1:=⟨line.length-1,by omega⟩;have fb:∀{n:Nat},n<=24->(LwB.fct n).natAbs<2^121:=λh=>wD h;refine⟨_,rfl,l,_,rfl,.inl (SqL.of hl),_,_,rfl,rfl, ?_⟩;rw[mP,hm];dsimp only[jP];rw[show((m+1:Nat):Int)-1=(m:Int) by omega];refine⟨_,rfl,l,rfl,⟨_,SqL.of hl⟩,λq H1 n1 s1 e1=>?_⟩;have shl:(shZ line).length=m+1:=by unfold shZ;rw[mP,mC,hm]
  have shb:∀z∈shZ line,z.natAbs<2^(B+121+121):=λz hz=>by
   unfold shZ at hz;obtain⟨j,hj,rfl⟩:=nN.mp hz;have hj:=mW.mp hj;refine kT (kT (hL _ ?_) (fb (by omega))) (fb (by omega));rw[uR,uW hj];exact mM hj
  refine LE (K:=K) (a:=l) (xs:=line.map V.int) (CmI (λk=>((shZ line).take k).map V.int) q H) (by rw[mP,sizeLine_eq];omega) ⟨s1,e1,rfl⟩ (λi ys H2 h=>⟨SqL.of (h.s _ _ hl),h.e⟩) ?_ ?_
  ·rintro k mm ys x c H2 hx hmm hyl ⟨s2,h2,ey⟩ hc;rw[hJ]at hx;obtain⟨x',hx',rfl⟩:=Option.map_eq_some_iff.mp hx;have hk:k<line.length:=(uU.mp hx').1;have s3:Same H2 (upd H2 c (.tup [.int k,.int x'])):=kD _ hc;have e3:(upd H2 c (.tup [.int k,.int x'])) c=some (.tup [.int k,.int x']):=jG;generalize upd H2 c (.tup [.int k,.int x'])=H3 at s3 e3;have bx:=hL x' (gH hx');refine⟨c,_,rfl,SqT.of e3,rfl,_,_,rfl,_,_,rfl,rfl,uC, ?_⟩;refine⟨_,rfl,_,rfl,k,rfl,by omega,_,_,rfl,rfl,⟨jJ bx (by omega),jJ (fb (n:=k) (by omega)) (by decide)⟩, ?_⟩;refine⟨_,rfl,_,rfl,_,_,rfl,rfl,m-k,by show [V.int ((m:Int)-(k:Int))]=_;rw[show(m:Int)-(k:Int)=((m-k:Nat):Int) by omega],by omega,_,_,rfl,rfl,⟨jJ (kT bx (fb (n:=k) (by omega))) (by omega),jJ (fb (n:=m-k) (by omega)) (by decide)⟩, ?_⟩;refine kF (by rw[hJ,hx'];rfl) hmm hyl (s3 _ _ h2) ⟨jZ (s2.trans s3) n1,jG, ?_⟩;rw[ey,hW,mQ]
   congr 1
   have:(shZ line)[k]? = some (x'*LwB.fct k*LwB.fct (m-k)):=by
    unfold shZ;rw[hJ,gP hk,hm];show some (line.getD k 0*LwB.fct k*LwB.fct (m+1-1-k))=_;rw[uR,hx',show m+1-1-k=m-k by omega]
    rfl
   rw[this]
   rfl
  ·rintro ys H2 hyl ⟨s2,h2,ey⟩;rw[mP,hm,<-shl,mK]at ey;subst ey;dsimp only[jP];refine⟨_,rfl,_,_,rfl,rfl,((m+1:Nat):Int),rfl,by omega,by omega, ?_⟩;rw[mG];refine λp H3 n3 s3 e3=>?_;have lzl:(lnZ line low high u).length=m+1:=by unfold lnZ;rw[mP,mC,hm]
   have uT:=jJ hu (show β<=1000 from hβ);refine vU (n:=m+1) (CmI (λk=>((lnZ line low high u).take k).map V.int) p H2) (by rw[sizeLine_eq];omega) ⟨s3,e3,rfl⟩ (λi ys H4 h=>h.e) ?_ ?_
   ·rintro k mm ys x H4 hx hmm hyl ⟨s4,h4,ey⟩;obtain⟨_,hk⟩:=xM hx;refine⟨yN, ?_⟩;have one:1<=sizeLine:=by decide
    refine⟨_,rfl,_,rfl,one,λa1 H5 n5 s5 e5=>⟨_,rfl,_,rfl,_,_,rfl,rfl,a1,m-k,_,rfl,by show V.int ((m:Int)-(0+(k:Int)))=_;rw[show(m:Int)-(0+(k:Int))=((m-k:Nat):Int) by omega],e5,by omega,λa2 H6 n6 s6 e6=>?_⟩⟩;refine⟨_,rfl,one,λb1 H7 n7 s7 e7=>⟨_,rfl,b1,k,_,rfl,by rw[Int.zero_add],e7,by omega,λb2 H8 n8 s8 e8=>?_⟩⟩;refine⟨a2,b2,_,_,rfl,rfl,(s7.trans s8) _ _ e6,e8,by rw[gC,gC,sizeLine_eq];omega,λtl H9 n9 s9 e9=>?_⟩;have s49:=s5.trans (s6.trans (s7.trans (s8.trans s9)));have et:H9 tl=some (.lst ((twZ low high m k).map V.int)):=by rw[e9];unfold twZ;rw[mQ,List.map_replicate,List.map_replicate]
    have tln:(twZ low high m k).length=m:=by unfold twZ;rw[gS,gC,gC];omega
    refine⟨_,rfl,q,tl,shZ line,twZ low high m k,u,β,B+121+121,rfl,(s4.trans s49) _ _ h2,et,by rw[shl,tln],by omega,hu,λz hz=>?_,shb, ?_,by omega,λH10 s10=>?_⟩
    ·unfold twZ at hz;rcases mS.mp hz with hz | hz
     ·rw[List.eq_of_mem_replicate hz];exact hlo
     ·rw[List.eq_of_mem_replicate hz];exact hhi
    ·rw[tln];have:m*(β+1)<=4*1001:=mX (by omega) (by omega);omega
    ·refine kF hx hmm hyl ((s49.trans s10) _ _ h4) ⟨jZ (s4.trans (s49.trans s10)) n3,jG, ?_⟩;rw[ey,hW,mQ]
     congr 1
     have:(lnZ line low high u)[k]? = some ((foL u (twZ low high m k) (shZ line)).getD 0 0):=by
      unfold lnZ;rw[hJ,gP (by omega),hm]
      rfl
     rw[this]
     rfl
   ·rintro ys H4 hyl ⟨s4,h4,ey⟩;rw[<-lzl,mK]at ey;exact go p H4 ((s2).free n3) (s2.trans s4) (by rw[h4,ey])
theorem NJ(low high:Int)(m k:Nat):(twZ low high m k).map (λ(a:Int)=>(a:Rat))=LwB.twoT (low:Rat) (high:Rat) m k:=by
 unfold twZ LwB.twoT;rw[mQ,List.map_replicate,List.map_replicate]
theorem YJ{line:List Int}{m j:Nat}(hm:line.length=m+1)(hj:j<=m):(((shZ line).getD j 0:Int):Rat)=LwB.lnG m (λi=>((line.getD i 0:Int):Rat)) j:=by
 have:(shZ line)[j]? = some (line.getD j 0*LwB.fct j*LwB.fct (m-j)):=by
  unfold shZ;rw[hJ,gP (by omega),hm]
  rfl
 rw[uR,this];show((line.getD j 0*LwB.fct j*LwB.fct (m-j):Int):Rat)=((line.getD j 0:Int):Rat)*(((LwB.fct j:Int):Rat)*((LwB.fct (m-j):Int):Rat));rw[mT,mT,nG]
theorem HR(line:List Int)(low high u:Int):(lnZ line low high u).length=line.length:=by
 unfold lnZ;rw[mP,mC]
theorem lnZ_val{line:List Int}{low high u:Int}{m k:Nat}(hm:line.length=m+1)(hk:k<=m):(((lnZ line low high u).getD k 0:Int):Rat)=LwB.lnN (u:Rat) (low:Rat) (high:Rat) m (λi=>((line.getD i 0:Int):Rat)) k:=by
 have e:(lnZ line low high u)[k]? = some ((foL u (twZ low high m k) (shZ line)).getD 0 0):=by
  unfold lnZ;rw[hJ,gP (by omega),hm]
  rfl
 have tl:(twZ low high m k).length=m:=by
  unfold twZ;rw[gS,gC,gC];omega
 have sl:(shZ line).length=m+1:=by
  unfold shZ;rw[mP,mC,hm]
 rw[uR,e];show(((foL u (twZ low high m k) (shZ line)).getD 0 0:Int):Rat)=_;rw[QA u _ _ 0 (by rw[tl,sl];omega),NJ];unfold LwB.lnN;refine zO _ _ _ _ 0 λi hi=>?_;rw[<-NJ,mP,tl]at hi;exact YJ hm (by omega)
theorem lnZ_bd{line:List Int}{low high u:Int}{m β B:Nat}(hm:line.length=m+1)(m24:m<=24)(hu:u.natAbs<2^β)(hl:low.natAbs<2^β)(hh:high.natAbs<2^β)(h:∀z∈line,z.natAbs<2^B):∀z∈lnZ line low high u,z.natAbs<2^(B+242+m*(β+1)):=by
 intro z hz;unfold lnZ at hz;obtain⟨k,hk,rfl⟩:=nN.mp hz;have hk:=mW.mp hk;have tl:(twZ low high (line.length-1) k).length=m:=by
  unfold twZ;rw[gS,gC,gC];omega
 have sl:(shZ line).length=m+1:=by
  unfold shZ;rw[mP,mC,hm]
 have shb:∀z∈shZ line,z.natAbs<2^(B+121+121):=λz hz=>by
  unfold shZ at hz;obtain⟨j,hj,rfl⟩:=nN.mp hz;have hj:=mW.mp hj;refine kT (kT (h _ ?_) (wD (by omega))) (wD (by omega));rw[uR,uW hj];exact mM hj
 have b:=MX hu (twZ low high (line.length-1) k) (shZ line) (B+121+121) (λa ha=>by
  unfold twZ at ha;rcases mS.mp ha with ha | ha
  ·rw[List.eq_of_mem_replicate ha];exact hl
  ·rw[List.eq_of_mem_replicate ha];exact hh) shb
 rw[tl]at b;refine b _ ?_;have fl:=BK u (twZ low high (line.length-1) k) (shZ line);rw[uR,uW (show 0<(foL u (twZ low high (line.length-1) k) (shZ line)).length by omega)];exact mM _
def mxK(ks:List (List Int))(i:Nat):Nat:=ks.foldr (λa m=>max (a.getD i 0).toNat m) 0
theorem CO{i:Nat} :∀{ks:List (List Int)} {a:List Int},a∈ks->(a.getD i 0).toNat<=mxK ks i
 | b::ks,a,h=>by
  show _<=max (b.getD i 0).toNat (mxK ks i);rcases nF.mp h with rfl | h
  ·exact Nat.le_max_left ..
  ·exact nK (CO h) (Nat.le_max_right ..)
theorem CP{i m:Nat} :∀{ks:List (List Int)},(∀a∈ks,(a.getD i 0).toNat<=m)->mxK ks i<=m
 | [],_=>nX _
 | b::ks,h=>Nat.max_le.mpr ⟨h b (gY ..),CP λa ha=>h a (gI _ ha)⟩
theorem WF{ks:List (List Int)}{i:Nat}{m:Int}(nn:∀a∈ks,0<=a.getD i 0)(h1:∀a∈ks,a.getD i 0<=m)(h2:(ks=[]/\m=0)∨∃a∈ks,a.getD i 0=m):m=(mxK ks i:Int):=by
 rcases h2 with⟨rfl,rfl⟩ | ⟨a,ha,rfl⟩
 ·rfl
 ·have g1:=CO (i:=i) ha;have g2:=nn a ha;have g3:mxK ks i<=(a.getD i 0).toNat:=CP λb hb=>by have:=h1 b hb;omega
  omega
theorem mxK_mem{ks ms:List (List Int)}{i:Nat}(h:∀a,a∈ks↔a∈ms):mxK ks i=mxK ms i:=
 Nat.le_antisymm (CP λa ha=>CO ((h a).mp ha)) (CP λa ha=>CO ((h a).mpr ha))
def szT(many:Nat)(ks:List (List Int)):List Nat:=(List.range many).map λi=>mxK ks i+1
theorem vO(many:Nat)(ks:List (List Int)):(szT many ks).length=many:=by unfold szT;rw[mP,mC]
theorem LW{many i:Nat}(ks:List (List Int))(h:i<many):(szT many ks)[i]? = some (mxK ks i+1):=by
 unfold szT;rw[hJ,gP h]
 rfl
def qA(ns:List Nat):List V:=ns.map λ(n:Nat)=>V.int (n:Int)
theorem kP(ns:List Nat):(qA ns).length=ns.length:=by unfold qA;rw[mP]
theorem HP{ns:List Nat}{i n:Nat}(h:ns[i]? = some n):(qA ns)[i]? = some (.int (n:Int)):=by unfold qA;rw[hJ,h];rfl
theorem yA{ns:List Nat}{i:Nat}{x:V}(h:(qA ns)[i]? = some x):∃n,ns[i]? = some n/\x=.int (n:Int):=by
 unfold qA at h;rw[hJ]at h;obtain⟨n,hn,rfl⟩:=Option.map_eq_some_iff.mp h;exact⟨n,hn,rfl⟩
theorem EY{ns:List Nat}{i n:Nat}(h:ns[i]? = some n):qA (ns.take (i+1))=qA (ns.take i)++[.int (n:Int)]:=by
 rw[hW,h];unfold qA;rw[mQ]
 rfl
theorem SH(ns:List Nat):qA ns=(ns.map λ(n:Nat)=>(n:Int)).map V.int:=by unfold qA;rw[nP];rfl
def spSizes:Sp:=λvs H Q _=>∃(p:Addr) (many:Nat) (z:Sz) (ts:List Trm),vs=[.ref p]/\Poly H p many z ts/\many<=4/\ts.length<=63/\
 ∀(l:Addr) (H':Hp),H l=none->Same H H'->H' l=some (.lst (qA (szT many (ts.map Trm.ns))))->Q (.ref l) H'
theorem VD{X:Cx}{scope:Scope}{j0:Nat}{N:List Str}{x0 x1:Str}(h0:N[1]? = some x1)(h:x1≠x0/\X.N[j0]? = some x1/\X.env.kindOf x1=some .cell/\(relabel scope X.env).names.lookup x1=some .cell/\X.env.scope.names.lookup x1=some .cell) :
  ∀(k j:Nat) (x:Str),[j0][k]? = some j->N[1+k]? = some x->x≠x0/\X.N[j]? = some x/\X.env.kindOf x=some .cell/\(relabel scope X.env).names.lookup x=some .cell/\X.env.scope.names.lookup x=some .cell:=by
 intro k j x e1 e2
 match k,e1 with
 | 0,e1=>
  cases e1;rw[nU,h0]at e2;cases e2;exact h
 | k+1,e1=>cases e1
theorem PU{names:List (Str×NameKind)}{cl:List (Str×Addr)}{x0:Str}(h:hasB (names.filter λy=>y.1 != x0) cl=true):∀x,(names.lookup x=some .cell∨names.lookup x=some .free)->x=x0∨∃c,cl.lookup x=some c:=by
 intro x hx;by_cases e:x=x0
 ·exact .inl e
 ·right
  have all:=List.all_eq_true.mp h;rcases hx with hx | hx
  ·have:=all _ (List.mem_filter.mpr ⟨PySem.mem_of_lookup hx,by simp [e]⟩);exact Option.isSome_iff_exists.mp this
  ·have:=all _ (List.mem_filter.mpr ⟨PySem.mem_of_lookup hx,by simp [e]⟩);exact Option.isSome_iff_exists.mp this
theorem scSizes:FnScope ["one","many","terms"] ["one"] (jQ AA):=⟨rfl,rfl,rfl,by decide +kernel,rfl,by decide +kernel,by decide +kernel⟩
theorem VG(F:Fun K "sizes_of" "sizes_of" AA f fd)(T:Txt mg):FnOk P w K mg base CX0 1 f fd ["one"] spSizes:=by
 refine F.ok scSizes (λvs H Q E h=>?_) (λcdv A outer s H vs Q E hr h=>?_)
 ·obtain⟨p,many,z,ts,rfl,_⟩:=h
  rfl
 ·obtain⟨p,many,z,ts,rfl,hP,m4,t63,go⟩:=h;obtain⟨q,o,xs,e1,e2,_,hX⟩:=hP.ex;refine⟨_,jB (kU (pv 0) (kJ rfl (jI (jF (i:=1) scSizes.nd rfl (Or.inl rfl)) (jI (jF (i:=2) scSizes.nd rfl (Or.inr rfl)) kC))))
   (jE (jS (JP (idx:=[2]) (N:=["letter","terms"]) (x0:="letter") rfl rfl rfl (λ_ _=>rfl) (λ_=>rfl) (by decide +kernel) (λ_ _ h=>h) (PU rfl) rfl (VD rfl ⟨by decide +kernel,rfl,rfl,rfl,rfl⟩) (kQ (by rfl) T.rng (jA (pv 1) jC))
    (λC fp s2 H2=>jF (i:=0) (show List.Nodup (["letter","terms"]:List Str) by decide +kernel) rfl (Or.inr rfl) (Or.inl rfl))
    (λC fp s2 H2=>jK kW (LwMx.pe_maxD rfl (by rfl) T.max (jA (kX (own:=2) (idx:=[0]) (N:=["powers","number","letter"]) rfl rfl rfl (by decide +kernel) (by decide +kernel) (qW (by intro y hy;simp only[nF,mJ,or_false]at hy;rcases hy with rfl;rfl)) (qJ rfl) rfl (qU rfl ⟨rfl,rfl,rfl,rfl⟩) (show PI (vH _ ["letter","terms"] _ "letter" _ C fp s2 H2) _ _ (iTup K (kI 1))from HL (pv 1))
     (λC' fp' s2' H2'=>show PG (jO _ ["powers","number","letter"] _ _ C' fp' s2' H2') _ (AM K 2 (qI (jP 0) (qI (jP 1) gNil)))from kJ (X:=jO _ ["powers","number","letter"] _ _ C' fp' s2' H2') rfl (jI (jF (i:=0) (show List.Nodup (["powers","number","letter"]:List Str) by decide +kernel) rfl (Or.inl rfl) (Or.inr rfl)) (jI (jF (i:=1) (show List.Nodup (["powers","number","letter"]:List Str) by decide +kernel) rfl (Or.inl rfl) (Or.inr rfl)) kC)))
     (λC' fp' s2' H2'=>jT (show IxR (jO _ ["powers","number","letter"] _ _ C' fp' s2' H2') (UP K)from jV) (pv 0) (pv 2) (λ_ _=>rfl))) jC) (YU jD pk_nil)) jD)))), ?_⟩
  try dsimp only[cxK]
  refine⟨_,rfl,p,_,rfl,SqT.of e1,rfl,_,_,rfl,_,_,rfl,rfl, ?_⟩;refine⟨_,rfl,many,rfl,by omega,by omega,λl H1 n1 s1 h1=>?_⟩;have lx:xs.length=ts.length:=Paired.length hX;have hq:∀H',Same H H'->SqT K H' q xs:=λH' s=>.inl (.inr ⟨o,s _ _ e2⟩);refine vU (n:=many) (CmI (λk=>qA ((szT many (ts.map Trm.ns)).take k)) l H) (gR m4 (by decide)) ⟨s1,h1,rfl⟩ (λi ys H2 h=>h.e) ?_ ?_
  ·rintro i m ys x H2 hx hm hy ⟨s2,h2,ey⟩;have him:i<many:=(xM hx).2;refine⟨yN,_,rfl,q,rfl,⟨xs,hq H2 s2⟩,λl2 H3 n3 s3 h3=>?_⟩;refine FJ (K:=K) (a:=q) (xs:=xs) (CmI (λk=>((ts.take k).map λx=>x.ns.getD i 0).map V.int) l2 H2) (by rw[lx,sizeLine_eq];omega) ⟨s3,h3,rfl⟩ (λk zs H4 h=>⟨hq H4 (s2.trans h.s),h.e⟩) ?_ ?_
   ·rintro k m' zs x' H4 hx' hm' hy' ⟨s4,h4,hzs⟩;obtain⟨tm,htm,r,b,c,rfl,t1,t2,t3⟩:∃tm,ts[k]? = some tm/\∃r b c:Addr,x'=.ref r/\H r=some (.tup [.ref b,.ref c])/\H b=some (.tup (tm.ns.map V.int))/\At2 H c tm.t tm.b:=by
     obtain⟨tm,e,h⟩:=Paired.at hX hx';exact⟨tm,e,h.ex⟩
    have tok:=hP.each tm (gH htm);have s24:=s2.trans s4;have hat:atI (tm.ns.map V.int) (0+(i:Int))=some (.int (tm.ns.getD i 0)):=by
     rw[Int.zero_add];refine qS ?_;have:i<tm.ns.length:=by rw[tok.len];exact him
     simp [this]
    refine⟨r,_,rfl,SqT.of (s24 _ _ t1),rfl,_,_,rfl,_,_,rfl,rfl,uC, ?_⟩;refine⟨_,rfl,_,rfl,b,_,_,_,rfl,rfl,SqT.of (s24 _ _ t2),hat, ?_⟩;refine kF hx' hm' hy' h4 ⟨jZ s4 n3,jG, ?_⟩;rw[hzs,List.take_succ,htm,mQ,mQ]
    rfl
   ·rintro zs H4 hl ⟨s4,h4,hzs⟩;rw[lx,mK]at hzs;have nn:∀a∈ts.map Trm.ns,0<=a.getD i 0:=λa ha=>by
     obtain⟨t,ht,rfl⟩:=nN.mp ha;have tok:=hP.each t ht;have hi:i<t.ns.length:=by rw[tok.len];exact him
     rw[uR,uW hi];exact tok.nn _ (mM hi)
    have fin:∀m0:Int,m0=(mxK (ts.map Trm.ns) i:Int)->H4 l=some (.lst ys)/\∃m',m'<m/\CompW (ED many) (CmI (λk=>qA ((szT many (ts.map Trm.ns)).take k)) l H) (i+1) m' (ys++[.int (m0+1)]) (upd H4 l (.lst (ys++[.int (m0+1)]))):=λm0 h0=>by
     refine kF hx hm hy (s4 _ _ h2) ⟨jZ (s2.trans s4) n1,jG, ?_⟩;rw[EY (LW _ him),ey,h0]
     rfl
    refine⟨0,rfl,l2,_,rfl,by rw[h4,hzs],λz=>⟨_,_,rfl,rfl,fin 0 (WF nn (λa ha=>?_) (.inl ⟨?_,rfl⟩))⟩,λm0 h1 h2=>⟨_,_,rfl,rfl,fin m0 (WF nn (λa ha=>?_) (.inr ?_))⟩⟩
    ·obtain⟨t,ht,rfl⟩:=nN.mp ha;rw[List.map_eq_nil_iff.mp z]at ht;cases ht
    ·rw[List.map_eq_nil_iff.mp z];rfl
    ·obtain⟨t,ht,rfl⟩:=nN.mp ha;exact h2 _ (nN.mpr ⟨t,ht,rfl⟩)
    ·obtain⟨t,ht,rfl⟩:=nN.mp h1;exact⟨_,List.mem_map_of_mem ht,rfl⟩
  ·rintro ys H2 hl ⟨s2,h2,ey⟩;refine go l H2 n1 s2 ?_;rw[h2,ey,gA (Nat.le_of_eq (vO many (ts.map Trm.ns)))]
theorem KO{n:Nat}{σ0:L2.St}{g2:TG}{te:TE}{p:Addr}{σ4:L2.St}{H5:Hp}{ys0:List V}{F:Hp->Prop}(Pj:Nat->List V->L2.St->Hp->Prop)(h0:Pj 0 ys0 σ4 H5)(hl:∀j ys σ H,Pj j ys σ H->H p=some (.lst ys)/\ys.length<sizeLine)
  (hs:∀(j m:Nat) ys σ H,j<n->m=n-j->Pj j ys σ H->g2 (.int (0+(j:Int))) σ H fun σ8 H8=>te σ8 H8 λy H9=>H9 p=some (.lst ys)/\Pj (j+1) (ys++[y]) σ8 (upd H9 p (.lst (ys++[y])))) (mono:∀y σ H (Q R:L2.St->Hp->Prop),(∀σ' H',Q σ' H'->R σ' H')->g2 y σ H Q->g2 y σ H R) (monoE:∀σ H (Q R:VK),(∀v H',Q v H'->R v H')->te σ H Q->te σ H R) (hd:∀ys σ H,Pj n ys σ H->Keep σ0 σ/\F H) :
  ∃W2:Nat->Nat->List V->L2.St->Hp->Prop,(∃m2 ys,W2 0 m2 ys σ4 H5)/\∀j m2 ys σ5 H6,W2 j m2 ys σ5 H6->H6 p=some (.lst ys)/\ys.length<sizeLine/\
    (((Itr 0 n).stop j H6/\Keep σ0 σ5/\F H6)∨((Itr 0 n).go j H6/\∀y H7,(Itr 0 n).yld j H6 y H7->g2 y σ5 H7 fun σ8 H8=>te σ8 H8 λz H9=>H9 p=some (.lst ys)/\∃m2',m2'<m2/\W2 (j+1) m2' (ys++[z]) σ8 (upd H9 p (.lst (ys++[z]))))):=by
 refine⟨λj m ys σ H=>m=n-j/\j<=n/\Pj j ys σ H,⟨_,ys0,rfl,nX _,h0⟩, ?_⟩;rintro j m ys σ H ⟨hm,hj,hp⟩;obtain⟨e,hy⟩:=hl j ys σ H hp;refine⟨e,hy, ?_⟩;by_cases hlt:j<n
 ·refine .inr ⟨hlt, ?_⟩;rintro x H3 ⟨rfl,rfl⟩;refine mono _ _ _ _ _ (fun σ8 H8 q=>monoE _ _ _ _ (λv H9 q=>?_) q) (hs j m ys σ _ hlt hm hp);exact⟨q.1,n-(j+1),by omega,rfl,hlt,q.2⟩
 ·obtain rfl:j=n:=by omega
  exact .inl ⟨nW _,hd ys σ H hp⟩
def TupsV(H:Hp)(xs:List V)(qs:List (List Nat)):Prop:=Paired (λv q=>∃a,v=V.ref a/\H a=some (.tup (qA q))) xs qs
theorem TupsV.same{H H':Hp}{xs:List V}{qs:List (List Nat)}(h:TupsV H xs qs)(s:Same H H'):TupsV H' xs qs:=Paired.to (λ_ _ ⟨a,e,k⟩=>⟨a,e,s _ _ k⟩) h
theorem TupsV.put{H:Hp}{p:Addr}{zs:List V}{o:HO}{xs:List V}{qs:List (List Nat)}(h:TupsV H xs qs)(e:H p=some (.lst zs)):TupsV (upd H p o) xs qs:=
 Paired.to (λ_ _ ⟨a,e1,k⟩=>⟨a,e1,by rw[jM λz=>by rw[z,e]at k;cases k];exact k⟩) h
theorem TupsV.len{H:Hp}{xs:List V}{qs:List (List Nat)}(h:TupsV H xs qs):xs.length=qs.length:=Paired.length h
theorem UT(P:List (List Nat))(p:List Nat)(n:Nat):LwB.plS (P++[p]) n=LwB.plS P n++(List.range n).map λj=>p++[j]:=by
 unfold LwB.plS;rw[List.flatMap_append,List.flatMap_cons,List.flatMap_nil,List.append_nil]
theorem KD(a b:List Nat):qA (a++b)=qA a++qA b:=by unfold qA;rw[mQ]
inductive PlI(H:Hp)(l:Addr)(ns:List Nat)(i:Nat):L2.St->Hp->Prop where
 | mk {q:Addr} {xs:List V} {v:Option V} {H1:Hp} (s:Same H H1) (n:H q=none) (e:H1 q=some (.lst xs)) (t:TupsV H1 xs ((ns.take i).foldl LwB.plS [[]])):PlI H l ns i [some (.ref l),some (.ref q),v] H1
structure PjI(H1:Hp)(p:Addr)(P:List (List Nat))(pq:List Nat)(n:Nat)(x:V)(j:Nat)(ys:List V)(σ:L2.St)(H:Hp):Prop where
 st:∃v,σ=[some x,v,some (.int (n:Int))]
 s:Same H1 H
 e:H p=some (.lst ys)
 t:TupsV H ys (LwB.plS P n++(List.range j).map λj=>pq++[j])
 j:j<=n
def spPlaces:Sp:=λvs H Q _=>∃(l:Addr) (ns:List Nat),vs=[.ref l]/\H l=some (.lst (qA ns))/\(∀n∈ns,1<=n)/\LwB.szP ns<=200/\ns.length<=4/\
 ∀(p:Addr) (xs:List V) (H':Hp),H p=none->Same H H'->H' p=some (.lst xs)->TupsV H' xs (LwB.plc ns)->Q (.ref p) H'
theorem scPl:FnScope ["sizes","places","size"] ["sizes"] (jQ wO):=⟨rfl,rfl,rfl,by decide +kernel,rfl,by decide +kernel,by decide +kernel⟩
theorem RY(F:Fun K "all_places" "all_places" wO f fd)(T:Txt mg):FnOk P w K mg base CX0 1 f fd ["sizes"] spPlaces:=by
 refine F.ok scPl (λvs H Q E h=>?_) (λcdv A outer s H vs Q E hr h=>?_)
 ·obtain⟨l,ns,rfl,_⟩:=h
  rfl
 ·obtain⟨l,ns,rfl,hl,h1,h200,n4,go⟩:=h;refine⟨_,jB (jN (i:=1) scPl.nd rfl (Or.inl rfl) (qC (jA (jW jC) jC))) (jB (kO PassesOwn.never rfl (kZ (pv 0)) (jF (i:=2) scPl.nd rfl (Or.inr rfl)) (jE (JK (i:=1) scPl.nd rfl (Or.inl rfl) (own:=2) (idx:=[2]) (N:=["place","step","size"]) rfl rfl rfl (by decide +kernel) (by decide +kernel) (qW (by intro y hy;simp only[nF,mJ,or_false]at hy;rcases hy with rfl;rfl)) (qJ rfl) rfl (qU rfl ⟨rfl,rfl,rfl,rfl⟩) (kZ (pv 1)) (λC fp s2 H2=>(jF (i:=0) (show List.Nodup (["place","step","size"]:List Str) by decide +kernel) rfl (Or.inl rfl) (Or.inr rfl))) (λC fp s2 H2=>kQ (by rfl) T.rng (jA (pv 2) jC)) (λC fp s2 H2=>(jF (i:=1) (show List.Nodup (["place","step","size"]:List Str) by decide +kernel) rfl (Or.inl rfl) (Or.inr rfl))) (λC fp s2 H2=>jK ZE (pv 0) (jW (jA (pv 1) jC)))))) (jE (jS (pv 1)))), ?_⟩;try dsimp only[cxK]
  have z0:0<=sizeLine:=nX _;have z1:1<=sizeLine:=by decide
  refine⟨z0,λa0 H1 m1 s1 e1=>⟨z1,λq0 H2 m2 s2 e2=>?_⟩⟩;dsimp only[jP];refine⟨_,rfl,l,rfl,⟨_,SqL.of ((s1.trans s2) _ _ hl)⟩,qT (K:=K) (a:=l) (xs:=qA ns) (PlI H l ns) (.mk (s1.trans s2) (s1.free m2) e2 (.cons ⟨a0,rfl,s2 _ _ e1⟩ .nil)) (λi σ H1 _ h=>?_) ?_ ?_⟩
  ·cases h with
   | mk s n e t=>exact SqL.of (s _ _ hl)
  ·intro i x σ H3 hx h;cases h with
   | @mk q xs v _ s nq e t=>
   obtain⟨n,hn,rfl⟩:=yA hx;have hin:i<ns.length:=(uU.mp hn).1;have tk:ns.take (i+1)=ns.take i++[n]:=by rw[hW,hn];rfl
   have ePS:(ns.take (i+1)).foldl LwB.plS [[]]=LwB.plS ((ns.take i).foldl LwB.plS [[]]) n:=by rw[tk,mE];rfl
   have bnd:((ns.take i).foldl LwB.plS [[]]).length*n<=200:=by
    rw[<-LwB.plS_len,<-ePS,LwB.plS_all,LwB.plc_len];exact nK (LwB.szP_take ns (i+1) h1) h200
   generalize hP:(ns.take i).foldl LwB.plS [[]]=PP at t ePS bnd;have lx:=t.len;have n1:=h1 n (gH hn);have pl:PP.length<=200:=nK (uY _ (by omega)) bnd;have n200:0<PP.length->n<=200:=λh=>nK (Nat.le_mul_of_pos_left _ h) bnd;dsimp only[jP];refine⟨_,rfl,q,rfl,⟨xs,SqL.of e⟩,λp H4 n4' s4 e4=>?_⟩;refine LG (K:=K) (a:=q) (xs:=xs) (λk Hx=>Same H3 Hx/\∃ys,Hx p=some (.lst ys)/\TupsV Hx ys (LwB.plS (PP.take k) n)) ⟨s4,[],e4,.nil⟩ (λk Hx h=>SqL.of (h.1 _ _ e)) ?_ ?_
   ·rintro k m x Hx hxk hm ⟨sx,ys,ex,tx⟩;obtain⟨pq,hpq,a,rfl,ha⟩:=Paired.at t hxk;have hk:k<PP.length:=(uU.mp hpq).1;have n2:=n200 (by omega);have kb:(k+1)*n<=PP.length*n:=gL _ hk;rw[nQ]at kb;have lpl:∀a∈PP,a.length<=4:=λa ha=>by
     rw[<-hP,LwB.plS_all]at ha;rw[((LwB.plc_in _).mp ha).1,mI];omega
    have pq4:=lpl pq (gH hpq);refine⟨_,rfl,(n:Int),rfl,by omega,by omega, ?_⟩;rw[mG];refine KO (n:=n) (PjI H3 p (PP.take k) pq n (.ref a)) ⟨⟨none,rfl⟩,sx,ex,by rw[List.range_zero,List.map_nil,List.append_nil];exact tx,nX _⟩ (λj ys σ Hy h=>⟨h.e, ?_⟩) ?_ (λ_ _ _ _ _ h q=>h _ _ q) ?_ ?_
    ·rw[h.t.len,gS,LwB.plS_len,mP,mC,mI,Nat.min_eq_left (by omega),sizeLine_eq];have:=h.j;omega
    ·rintro j m2 ys2 σ Hy hj hm2 ⟨⟨v',rfl⟩,sy,ey,ty,_⟩;refine⟨_,rfl,_,rfl,z1,λb Hb nb sb eb=>⟨a,b,_,_,rfl,rfl,(sy.trans sb) _ _ ha,eb,by rw[kP,sizeLine_eq];simp;omega,λr Hr sr er=>⟨(sb.trans sr) _ _ ey,⟨_,rfl⟩,jZ (sy.trans (sb.trans sr)) n4',jG, ?_,hj⟩⟩⟩;rw[List.range_succ,mQ,<-hZ];refine Paired.app ((ty.same (sb.trans sr)).put ((sb.trans sr) _ _ ey)) (.cons ⟨r,rfl, ?_⟩ .nil);have rp:r≠p:=λz=>by rw[z,(sb.trans sr) _ _ ey]at er;cases er
     rw[jM rp,er,KD,Int.zero_add]
     rfl
    ·rintro σ Hy Q R hQR ⟨v1,h1,v2,h2,hz,hn'⟩;exact⟨v1,h1,v2,h2,hz,λb Hb nb sb eb=>let ⟨a,b',xs',ys',e1,e2,e3,e4,e5,q⟩:=hn' b Hb nb sb eb;⟨a,b',xs',ys',e1,e2,e3,e4,e5,λr Hr sr er=>hQR _ _ (q r Hr sr er)⟩⟩
    ·rintro ys2 σ Hy ⟨⟨v',rfl⟩,sy,ey,ty,_⟩;refine⟨uC,xs.length-(k+1),by omega,rfl,by omega,sy,ys2,ey, ?_⟩;rw[hW,hpq];show TupsV Hy ys2 (LwB.plS (PP.take k++[pq]) n);rw[UT];exact ty
   ·rintro Hx ⟨sx,ys,ex,tx⟩;refine .mk (s.trans sx) (s.free n4') ex ?_;rw[lx,mK]at tx;rw[ePS];exact tx
  ·intro σ H3 h;cases h with
   | @mk q xs v _ s nq e t=>
   rw[kP,mK,LwB.plS_all]at t;exact⟨_,rfl,go q xs H3 nq s e t⟩
theorem IM{K:tJ}{a:Addr}{xs:List V}{σ0:L2.St}{g:TG}{tt:TT}{te:TE}{Q:VK}{p:Addr}{H':Hp}(Pv:Nat->List V->Hp->Prop)(hz:xs.length<sizeLine)(h0:Pv 0 [] H')
  (hl:∀i ys H2,Pv i ys H2->SqL K H2 a xs/\H2 p=some (.lst ys)/\ys.length<=i)
  (hs:∀i m ys x c H2,xs[i]? = some x->m=xs.length-i->Pv i ys H2->H2 c=none->g (.ref c) σ0 (upd H2 c (.tup [.int i,x])) fun σ4 H4=>Keep σ0 σ4/\tt σ4 H4 λb H5=>if b=true then te σ4 H5 λy H6=>H6 p=some (.lst ys)/\∃m',m'<m/\CW xs Pv (i+1) m' (ys++[y]) (upd H6 p (.lst (ys++[y])))else ∃m',m'<m/\CW xs Pv (i+1) m' ys H5)
  (hd:∀ys H2,Pv xs.length ys H2->Q (.ref p) H2):CompGoFI σ0 (Itel K a) g tt te Q p H':=by
 refine⟨CW xs Pv,⟨_,rfl,nX _,h0⟩, ?_⟩;rintro i m ys H2 ⟨hm,hi,hp⟩;obtain⟨q,e,hy⟩:=hl i ys H2 hp;refine⟨e,by omega, ?_⟩;by_cases hlt:i<xs.length
 ·refine .inr ⟨⟨xs,xs[i],q,by simp [hlt]⟩, ?_⟩;rintro x H3 ⟨c,y,hc,rfl,rfl,h⟩;exact hs i m ys y c _ (h xs q) hm hp hc
 ·obtain rfl:i=xs.length:=by omega
  exact .inl ⟨⟨xs,q,nW _⟩,hd ys H2 hp⟩
theorem LU{X:Cx}{scope:Scope}{j0 j1 j2:Nat}{N:List Str}{x0 x1 x2 x3:Str}(h0:N[1]? = some x1)(h1:N[2]? = some x2)(h2:N[3]? = some x3)(a:x1≠x0/\X.N[j0]? = some x1/\X.env.kindOf x1=some .cell/\(relabel scope X.env).names.lookup x1=some .cell/\X.env.scope.names.lookup x1=some .cell)
  (b:x2≠x0/\X.N[j1]? = some x2/\X.env.kindOf x2=some .cell/\(relabel scope X.env).names.lookup x2=some .cell/\X.env.scope.names.lookup x2=some .cell) (c:x3≠x0/\X.N[j2]? = some x3/\X.env.kindOf x3=some .cell/\(relabel scope X.env).names.lookup x3=some .cell/\X.env.scope.names.lookup x3=some .cell) :
  ∀(k j:Nat) (x:Str),[j0,j1,j2][k]? = some j->N[1+k]? = some x->x≠x0/\X.N[j]? = some x/\X.env.kindOf x=some .cell/\(relabel scope X.env).names.lookup x=some .cell/\X.env.scope.names.lookup x=some .cell:=by
 intro k j x e1 e2
 match k,e1,e2 with
 | 0,e1,e2=>cases e1;rw[nU,h0]at e2;cases e2;exact a
 | 1,e1,e2=>cases e1;rw[h1]at e2;cases e2;exact b
 | 2,e1,e2=>cases e1;rw[h2]at e2;cases e2;exact c
 | k+3,e1,_=>cases e1
theorem AY:∀a b:List Nat,LwB.szP (a++b)=LwB.szP a*LwB.szP b
 | [],b=>(Nat.one_mul _).symm
 | n::a,b=>by show n*LwB.szP (a++b)=n*LwB.szP a*LwB.szP b;rw[AY a b,Nat.mul_assoc]
theorem AX:∀{ns:List Nat},(∀n∈ns,1<=n)->1<=LwB.szP ns
 | [],_=>nW _
 | n::ns,h=>mX (h n (gY ..)) (AX λk hk=>h k (gI _ hk))
theorem NO{ns:List Nat}{n:Nat}(h:∀n∈ns,1<=n)(hn:n∈ns):n<=LwB.szP ns:=by
 obtain⟨a,b,rfl⟩:=List.append_of_mem hn;rw[AY];have h1:1<=LwB.szP a:=AX λk hk=>h k (List.mem_append_left _ hk);have h2:1<=LwB.szP b:=AX λk hk=>h k (gB _ (gI _ hk));show n<=LwB.szP a*(n*LwB.szP b);exact nK (uY _ h2) (Nat.le_mul_of_pos_left _ h1)
theorem IW{ns:List Nat}(k:Nat)(h:∀n∈ns,1<=n):LwB.szP (ns.drop k)<=LwB.szP ns:=by
 have:=AY (ns.take k) (ns.drop k);rw[List.take_append_drop]at this;rw[this];exact Nat.le_mul_of_pos_left _ (AX λn hn=>h n (gN hn))
def qO(ns:List Nat)(k:Nat):List (List Nat):=(LwB.startsL ns k).map λs=>(List.range (ns.getD k 0)).map λj=>s+j*LwB.strd ns k
def LstsV(p:Addr)(H0 H:Hp)(xs:List V)(qs:List (List Nat)):Prop:=Paired (λv q=>∃a,v=V.ref a/\a≠p/\H0 a=none/\H a=some (.lst (qA q))) xs qs
theorem LstsV.same{p:Addr}{H0 H H':Hp}{xs:List V}{qs:List (List Nat)}(h:LstsV p H0 H xs qs)(s:Same H H'):LstsV p H0 H' xs qs:=Paired.to (λ_ _ ⟨a,e,n,z,k⟩=>⟨a,e,n,z,s _ _ k⟩) h
theorem LstsV.put{H0 H:Hp}{p:Addr}{o:HO}{xs:List V}{qs:List (List Nat)}(h:LstsV p H0 H xs qs):LstsV p H0 (upd H p o) xs qs:=Paired.to (λ_ _ ⟨a,e1,n,z,k⟩=>⟨a,e1,n,z,by rw[jM n];exact k⟩) h
inductive LaI(H:Hp)(l m:Addr)(k:Nat)(D:List Nat)(i:Nat):L2.St->Hp->Prop where
 | mk {v:Option V} {H1:Hp} (s:Same H H1) (e:H1 m=some (.lst (qA D))):LaI H l m k D i [some (.ref l),some (.int (k:Int)),some (.int ((LwB.szP (D.take i):Nat):Int)),v,none] H1
structure LbI(H:Hp)(p:Addr)(pr:Nat->Bool)(i:Nat)(ys:List V)(H2:Hp):Prop where
 s:Same H H2
 e:H2 p=some (.lst ys)
 y:ys=qA ((List.range i).filter pr)
structure LcI(H0 H:Hp)(p:Addr)(L:List (List Nat))(i:Nat)(ys:List V)(H2:Hp):Prop where
 s:Same H H2
 e:H2 p=some (.lst ys)
 y:LstsV p H0 H2 ys (L.take i)
def spLines:Sp:=λvs H Q _=>∃(l:Addr) (ns:List Nat) (k:Nat),vs=[.ref l,.int (k:Int)]/\H l=some (.lst (qA ns))/\(∀n∈ns,1<=n)/\LwB.szP ns<=200/\ns.length<=4/\k<ns.length/\
 ∀(p:Addr) (xs:List V) (H':Hp),H p=none->Same H H'->H' p=some (.lst xs)->LstsV p H H' xs (qO ns k)->Q (.ref p) H'
theorem scLa:FnScope ["sizes","letter","stride","size","starts"] ["sizes","letter"] (jQ CB):=⟨rfl,rfl,rfl,by decide +kernel,rfl,by decide +kernel,by decide +kernel⟩
theorem KZ(pr:Nat->Bool)(n:Nat):((List.range n).filter pr).length<=n:=by
 have:=List.length_filter_le pr (List.range n)
 rwa [mC]at this
theorem SY{pr:Nat->Bool}{i:Nat} :(List.range (i+1)).filter pr=(List.range i).filter pr++if pr i then [i]else []:=by
 rw[List.range_succ,List.filter_append]
 congr 1
 cases h:pr i<;>simp [h]
theorem VJ{fP:Addr}{fdP:FuncData}(F:Fun K "lines_along" "lines_along" CB f fd)(T:Txt mg)(DP:Df K mg "all_places" wO ["sizes"] fP fdP)(GP:FnOk P w K mg base CX0 1 fP fdP ["sizes"] spPlaces):FnOk P w K mg base CX0 2 f fd ["sizes","letter"] spLines:=by
 refine F.ok scLa (λvs H Q E h=>?_) (λcdv A outer s H vs Q E hr h=>?_)
 ·obtain⟨l,ns,k,rfl,_⟩:=h
  rfl
 ·obtain⟨l,ns,k,rfl,hl,h1,h200,n4,hk,go⟩:=h;have hr1:Room 1 _:=hr.mono (by decide);refine⟨_,jB (jN (i:=2) scLa.nd rfl (Or.inr rfl) (jD)) (jB (kO PassesOwn.never rfl (kZ (vR vQ (pv 0) (vW (jK kW (pv 1) jD)) xE)) (jF (i:=3) scLa.nd rfl (Or.inl rfl)) (jE (jN (i:=2) scLa.nd rfl (Or.inr rfl) (jK kH (pv 2) (pv 3))))) (jB (JJ (i:=4) scLa.nd rfl (Or.inl rfl) (own:=2) (idx:=[1]) (N:=["at","place","letter"]) rfl rfl rfl (by decide +kernel) (by decide +kernel) (qW (by intro y hy;simp only[nF,mJ,or_false]at hy;rcases hy with rfl;rfl)) (qJ rfl) rfl (qU rfl ⟨rfl,rfl,rfl,rfl⟩) (CJ (by rfl) T.enum (jA (jH GP hr1 rfl DP.m DP.F.kp DP.b .nil jR (jA (pv 0) jC)) jC)) (λC fp s2 H2=>show PG (jO _ ["at","place","letter"] _ _ C fp s2 H2) _ (AM K 2 (qI (jP 0) (qI (jP 1) gNil)))from kJ (X:=jO _ ["at","place","letter"] _ _ C fp s2 H2) rfl (jI (jF (i:=0) (show List.Nodup (["at","place","letter"]:List Str) by decide +kernel) rfl (Or.inl rfl) (Or.inr rfl)) (jI (jF (i:=1) (show List.Nodup (["at","place","letter"]:List Str) by decide +kernel) rfl (Or.inl rfl) (Or.inr rfl)) kC))) (λC fp s2 H2=>jU xR (jT (show IxR (jO _ ["at","place","letter"] _ _ C fp s2 H2) (UP K)from jV) (pv 1) (pv 2) (λ_ _=>rfl)) jD (jX _)) (λC fp s2 H2=>pv 0)) (jE (jS (JP (idx:=[1,0,2]) (N:=["start","letter","sizes","stride"]) (x0:="start") rfl rfl rfl (λ_ _=>rfl) (λ_=>rfl) (by decide +kernel) (qW (by intro y hy;simp only[nF,mJ,or_false]at hy;rcases hy with rfl | rfl | rfl<;>rfl)) (PU rfl) rfl (LU rfl rfl rfl ⟨by decide +kernel,rfl,rfl,rfl,rfl⟩ ⟨by decide +kernel,rfl,rfl,rfl,rfl⟩ ⟨by decide +kernel,rfl,rfl,rfl,rfl⟩) (kZ (pv 4)) (λC fp s2 H2=>jF (i:=0) (show List.Nodup (["start","letter","sizes","stride"]:List Str) by decide +kernel) rfl (Or.inr rfl) (Or.inl rfl)) (λC fp s2 H2=>kX (own:=1) (idx:=[0,3]) (N:=["step","start","stride"]) rfl rfl rfl (by decide +kernel) (by decide +kernel) (qW (by intro y hy;simp only[nF,mJ,or_false]at hy;rcases hy with rfl | rfl<;>rfl)) (qJ rfl) rfl (FT rfl rfl ⟨rfl,rfl,rfl,rfl⟩ ⟨rfl,rfl,rfl,rfl⟩) (kQ (by rfl) T.rng (jA (jT (show IxR (vH _ ["start","letter","sizes","stride"] _ "start" _ C fp s2 H2) (EI K)from kK) (pv 2) (pv 1) (λ_ _=>rfl)) jC)) (λC' fp' s2' H2'=>(jF (i:=0) (show List.Nodup (["step","start","stride"]:List Str) by decide +kernel) rfl (Or.inl rfl) (Or.inr rfl))) (λC' fp' s2' H2'=>jK kW (pv 1) (jK kH (pv 0) (pv 2))))))))), ?_⟩
  try dsimp only[cxK]
  try dsimp only[jP]
  refine⟨_,rfl,_,rfl,_,_,rfl,rfl,_,rfl,l,_,rfl,SqL.of hl,λm H1 n1 s1 e1=>?_⟩;have cd:zT (qA ns) (some ((k:Int)+1)) none=qA (ns.drop (k+1)):=by
   rw[show(k:Int)+1=((k+1:Nat):Int)from rfl,DQ];unfold qA;rw[List.map_drop]
  rw[cd]at e1;generalize hD:ns.drop (k+1)=D at e1;have dz:LwB.szP D<=200:=by rw[<-hD];exact nK (IW _ h1) h200
  have d1:∀n∈D,1<=n:=λn hn=>h1 n (by rw[<-hD]at hn;exact List.mem_of_mem_drop hn);refine⟨m,rfl,⟨_,SqL.of e1⟩,qT (K:=K) (a:=m) (xs:=qA D) (LaI H l m k D) (.mk s1 e1) (λi σ H1 _ h=>?_) ?_ ?_⟩
  ·cases h with
   | mk s e=>exact SqL.of e
  ·intro i x σ H2 hx h;cases h with
   | @mk v _ s e=>
   obtain⟨n,hn,rfl⟩:=yA hx;have tk:D.take (i+1)=D.take i++[n]:=by rw[hW,hn];rfl
   have b1:LwB.szP (D.take i)<=200:=nK (LwB.szP_take D i d1) dz;have b2:n<=200:=nK (NO d1 (gH hn)) dz;try dsimp only[jP]
   refine oVV rfl rfl ⟨gU (show((LwB.szP (D.take i):Nat):Int).natAbs<2^10 by omega) (gJ (by decide) (by decide)),gU (show((n:Nat):Int).natAbs<2^10 by omega) (gJ (by decide) (by decide))⟩ ?_;have e2:LwB.szP (D.take (i+1))=LwB.szP (D.take i)*n:=by rw[tk,AY];show _*(n*1)=_;rw[Nat.mul_one]
   have:LaI H l m k D (i+1) [some (.ref l),some (.int (k:Int)),some (.int ((LwB.szP (D.take (i+1)):Nat):Int)),some (.int (n:Int)),none] H2:=.mk s e;rw[e2,Int.natCast_mul]at this;exact this
  ·intro σ H2 h;cases h with
   | @mk v _ s e=>
   rw[kP,mK,<-hD,show LwB.szP (ns.drop (k+1))=LwB.strd ns k from rfl];have sb:LwB.strd ns k<=200:=nK (IW _ h1) h200;refine⟨_,rfl,l,ns,rfl,s _ _ hl,h1,h200,n4,λpp xs H3 n3 s3 e3 t3=>?_⟩;have lx:=t3.len;rw[LwB.plc_len]at lx;refine⟨pp,rfl,⟨_,SqL.of e3⟩,λq H4 m4 s4 e4=>?_⟩;refine IM (K:=K) (a:=pp) (xs:=xs) (LbI H3 q λa=>((LwB.plc ns).getD a []).getD k 0==0) (by rw[lx,sizeLine_eq];omega) ⟨s4,e4,rfl⟩ (λi ys H5 h=>⟨SqL.of (h.s _ _ e3),h.e,by rw[h.y,kP];exact KZ _ _⟩) ?_ ?_
   ·rintro i mm ys x c H5 hx hm ⟨s5,e5,y5⟩ hc;obtain⟨pq,hpq,a,rfl,ha⟩:=Paired.at t3 hx;have s6:Same H5 (upd H5 c (.tup [.int (i:Int),.ref a])):=kD _ hc;have e6:(upd H5 c (.tup [.int (i:Int),.ref a])) c=some (.tup [.int (i:Int),.ref a]):=jG;generalize upd H5 c (.tup [.int (i:Int),.ref a])=H6 at s6 e6;have pm:=(LwB.plc_in ns).mp (gH hpq);have hkp:k<pq.length:=by rw[pm.1];exact hk
    refine gT2 (SqT.of e6) rfl ⟨uC, ?_⟩;refine⟨_,rfl,_,rfl,a,_,_,_,rfl,rfl,SqT.of ((s5.trans s6) _ _ ha),qS (HP (uW hkp)), ?_⟩;have eP:(((LwB.plc ns).getD i []).getD k 0==0)=decide (V.int ((pq[k]:Nat):Int)=V.int 0):=by
     rw[vS];have g1:(LwB.plc ns).getD i []=pq:=by rw[uR,hpq];rfl
     have g2:pq.getD k 0=pq[k]:=by rw[uR,uW hkp];rfl
     rw[g1,g2];by_cases z:pq[k]=0
     ·rw[z];rfl
     ·rw[mR (by omega)];exact beq_false_of_ne z
    have tw:qA ((List.range (i+1)).filter λa=>((LwB.plc ns).getD a []).getD k 0==0)=ys++if decide (V.int ((pq[k]:Nat):Int)=V.int 0)then [.int (i:Int)]else []:=by
     rw[SY,KD,<-y5,eP];cases decide (V.int ((pq[k]:Nat):Int)=V.int 0)<;>rfl
    refine⟨rfl,_,rfl, ?_⟩;dsimp only;cases hb:decide (V.int ((pq[k]:Nat):Int)=V.int 0)with
    | true=>
     rw[hb]at tw;rw[tI rfl];refine⟨_,rfl,s6 _ _ e5,QK hx hm ⟨jZ (s5.trans s6) m4,jG, ?_⟩⟩;rw[tw];rfl
    | false=>
     rw[hb]at tw;rw[tH gT];refine QK hx hm ⟨s5.trans s6,s6 _ _ e5, ?_⟩;rw[tw];exact(List.append_nil _).symm
   ·rintro ys H5 ⟨s5,e5,y5⟩;rw[lx]at y5;have ys1:ys=qA (LwB.startsL ns k):=y5;subst ys1;clear y5;try dsimp only[jP]
    refine⟨_,rfl,q,rfl,⟨_,SqL.of e5⟩,λp H6 n6 s6 e6=>?_⟩;have sl:(LwB.startsL ns k).length<=200:=nK (KZ _ _) h200;have hnk:ns[k]? = some ns[k]:=uW hk;have gD:ns.getD k 0=ns[k]:=by rw[uR,hnk];rfl
    have nk:ns[k]<=200:=nK (NO h1 (mM hk)) h200;have s06:Same H H6:=(s.trans s3).trans (s5.trans s6);refine qX (K:=K) (a:=q) (xs:=qA (LwB.startsL ns k)) (LcI H H5 p (qO ns k)) (by rw[kP,sizeLine_eq];omega) ⟨s6,e6,.nil⟩ (λi ys H7 h=>⟨SqL.of (h.s _ _ e5),h.e⟩) ?_ ?_
    ·rintro i mm ys x H7 hx hm hyl ⟨s7,e7,y7⟩;obtain⟨st,hst,rfl⟩:=yA hx;have st2:st<200:=by
      have:=mW.mp (List.mem_filter.mp (gH hst)).1;omega
     have s57:Same H H7:=((s.trans s3).trans s5).trans s7;refine⟨yN,_,rfl,_,rfl,l,_,_,_,rfl,rfl,SqL.of (s57 _ _ hl),qS (HP hnk),(ns[k]:Int),rfl,by omega,by omega, ?_⟩;rw[mG];intro l2 H8 n8 s8 e8;refine vU (n:=ns[k]) (CmI (λj=>qA (((List.range ns[k]).map λj=>st+j*LwB.strd ns k).take j)) l2 H7) (by rw[sizeLine_eq];omega) ⟨s8,e8,rfl⟩ (λj ys H9 h=>h.e) ?_ ?_
     ·rintro j m2 zs x H9 hx2 hm2 hy2 ⟨s9,e9,y9⟩;have hj:j<ns[k]:=(xM hx2).2;refine⟨yN,_,rfl,_,rfl,_,rfl,_,_,rfl,rfl,⟨gU (show(0+(j:Int)).natAbs<2^10 by omega) (gJ (by decide) (by decide)),gU (show((LwB.strd ns k:Nat):Int).natAbs<2^10 by omega) (gJ (by decide) (by decide))⟩,_,_,rfl,rfl, ?_⟩;refine kF hx2 hm2 hy2 e9 ⟨jZ s9 n8,jG, ?_⟩;have:((List.range ns[k]).map λj=>st+j*LwB.strd ns k)[j]? = some (st+j*LwB.strd ns k):=by rw[hJ,gP hj];rfl
      rw[EY this,y9,Int.zero_add,Int.natCast_add,Int.natCast_mul]
     ·rintro zs H9 hy2 ⟨s9,e9,y9⟩;rw[gA (by rw[mP,mC];exact nW _)]at y9;have n82:l2≠p:=λz=>by rw[z,e7]at n8;cases n8
      refine kF hx hm hyl (s9 _ _ e7) ⟨jZ (s7.trans s9) n6,jG, ?_⟩;have:(qO ns k)[i]? = some ((List.range ns[k]).map λj=>st+j*LwB.strd ns k):=by
       unfold qO;rw[hJ,hst,gD]
       rfl
      rw[hW,this];refine Paired.app (y7.same s9).put (.cons ⟨l2,rfl,n82,s57.free n8, ?_⟩ .nil);rw[jM n82,e9,y9]
    ·rintro ys H7 hyl ⟨s7,e7,y7⟩;rw[kP,show(LwB.startsL ns k).length=(qO ns k).length by unfold qO;rw[mP],mK]at y7;exact go p ys H7 (((s.trans s3).trans s5).free n6) (((s.trans s3).trans s5).trans s7) e7 y7
def vL(R:List Int)(zs:List (Nat×Int)):List Int:=zs.foldl (λR z=>R.set z.1 z.2) R
theorem xQ:∀(zs:List (Nat×Int)) (R:List Int),(vL R zs).length=R.length
 | [],_=>rfl
 | z::zs,R=>by show(vL (R.set z.1 z.2) zs).length=_;rw[xQ zs,List.length_set]
theorem wL{a:Nat} :∀(zs:List (Nat×Int)) (R:List Int),(∀z∈zs,z.1≠a)->(vL R zs).getD a 0=R.getD a 0
 | [],_,_=>rfl
 | z::zs,R,h=>by
  show(vL (R.set z.1 z.2) zs).getD a 0=_;rw[wL zs _ λy hy=>h y (gI _ hy),uR,List.getElem?_set_ne (h z (gY ..)),<-uR]
theorem GV{a:Nat}{v:Int} :∀(zs:List (Nat×Int)) (R:List Int),(zs.map (·.1)).Nodup->(a,v)∈zs->a<R.length->(vL R zs).getD a 0=v
 | [],_,_,h,_=>nomatch h
 | z::zs,R,nd,h,l=>by
  show(vL (R.set z.1 z.2) zs).getD a 0=v;rw[nC,List.nodup_cons]at nd;rcases nF.mp h with e | h
  ·rw[wL zs _ λy hy e2=>nd.1 (nN.mpr ⟨y,hy,by rw[e2,<-e]⟩),<-e,uR,List.getElem?_set_self l]
   rfl
  ·exact GV zs _ nd.2 h (by rw[List.length_set];exact l)
theorem uN(R:List Int)(zs:List (Nat×Int))(z:Nat×Int):vL R (zs++[z])=(vL R zs).set z.1 z.2:=by
 unfold vL;rw[mE]
 rfl
def yM(low high u:Int)(R:List Int)(line:List Nat):List Int:=vL R (line.zip (lnZ (line.map λa=>R.getD a 0) low high u))
def jY(ns:List Nat)(k s:Nat):List Nat:=(List.range (ns.getD k 0)).map λj=>s+j*LwB.strd ns k
theorem vM(ns:List Nat)(k s:Nat):(jY ns k s).length=ns.getD k 0:=by unfold jY;rw[mP,mC]
theorem uB{ns:List Nat}{k s j:Nat}(h:j<ns.getD k 0):(jY ns k s)[j]? = some (s+j*LwB.strd ns k):=by unfold jY;rw[hJ,gP h];rfl
def RQ(low high u:Int)(ns:List Nat)(k:Nat)(R:List Int):List Int:=(qO ns k).foldl (yM low high u) R
theorem UF{ns:List Nat}{k s:Nat}(h:s∈LwB.startsL ns k):∃q,(LwB.plc ns)[s]? = some q/\q.getD k 0=0:=by
 obtain⟨h1,h2⟩:=List.mem_filter.mp h;have hs:=mW.mp h1;rw[<-LwB.plc_len]at hs;refine⟨_,uW hs, ?_⟩;have e:(LwB.plc ns).getD s []=(LwB.plc ns)[s]:=by rw[uR,uW hs];rfl
 rw[e]at h2;exact eq_of_beq h2
theorem HV{ns:List Nat}{k n s j:Nat}(hn:ns[k]? = some n)(hs:s∈LwB.startsL ns k)(hj:j<n):∃q,(LwB.plc ns)[s]? = some q/\q.getD k 0=0/\(LwB.plc ns)[s+j*LwB.strd ns k]? = some (q.set k j):=by
 obtain⟨q,hq,z⟩:=UF hs;exact⟨q,hq,z,LwB.plc_line ns k hq hn z hj⟩
theorem yD{ns:List Nat}{k n s j:Nat}(hn:ns[k]? = some n)(hs:s∈LwB.startsL ns k)(hj:j<n):s+j*LwB.strd ns k<LwB.szP ns:=by
 obtain⟨q,_,_,h⟩:=HV hn hs hj;rw[<-LwB.plc_len];exact(uU.mp h).1
theorem JB{p:List Nat}{k:Nat}(h:k<p.length):p.set k (p.getD k 0)=p:=by
 refine mH λi=>?_;rw[List.getElem?_set];by_cases c:k=i
 ·subst c;rw[tI rfl,tI h,uR,uW h]
  rfl
 ·rw[tH c]
theorem xP{p:List Nat}{k j:Nat}(h:k<p.length):(p.set k j).getD k 0=j:=by
 rw[uR,List.getElem?_set_self h]
 rfl
theorem zM{ns:List Nat}{k n s s' j j':Nat}(hn:ns[k]? = some n)(hs:s∈LwB.startsL ns k)(hs':s'∈LwB.startsL ns k)(hj:j<n)(hj':j'<n)(e:s+j*LwB.strd ns k=s'+j'*LwB.strd ns k):s=s'/\j=j':=by
 obtain⟨q,h1,z1,g1⟩:=HV hn hs hj;obtain⟨q',h2,z2,g2⟩:=HV hn hs' hj';have hk:k<ns.length:=(uU.mp hn).1;have l1:k<q.length:=by rw[((LwB.plc_in ns).mp (gH h1)).1];exact hk
 have l2:k<q'.length:=by rw[((LwB.plc_in ns).mp (gH h2)).1];exact hk
 rw[e,g2]at g1;have g:=Option.some.inj g1;have ej:j=j':=by
  have h:(q'.set k j').getD k 0=(q.set k j).getD k 0:=congrArg (λ(l:List Nat)=>l.getD k 0) g;rw[xP l1,xP l2]at h;exact h.symm
 refine⟨?_,ej⟩;have h:(q'.set k j').set k 0=(q.set k j).set k 0:=congrArg (λ(l:List Nat)=>l.set k 0) g;rw[List.set_set,List.set_set]at h;have a1:q.set k 0=q:=by conv=>rhs;rw[<-JB l1,z1]
 have a2:q'.set k 0=q':=by conv=>rhs;rw[<-JB l2,z2]
 rw[a1,a2]at h;rw[h]at h2;exact LwB.plc_inj ns h1 h2
theorem YH{ns:List Nat}{k n s:Nat}{low high u:Int}{R:List Int}(hn:ns[k]? = some n)(hs:s∈LwB.startsL ns k)(hR:R.length=LwB.szP ns) :
  (yM low high u R (jY ns k s)).length=LwB.szP ns/\∀s' j,s'∈LwB.startsL ns k->j<n->(yM low high u R (jY ns k s)).getD (s'+j*LwB.strd ns k) 0=if s'=s then(lnZ ((jY ns k s).map λa=>R.getD a 0) low high u).getD j 0 else R.getD (s'+j*LwB.strd ns k) 0:=by
 have gD:ns.getD k 0=n:=by rw[uR,hn];rfl
 have ll:(jY ns k s).length=n:=by rw[vM,gD]
 have vl:(lnZ ((jY ns k s).map λa=>R.getD a 0) low high u).length=n:=by rw[HR,mP,ll]
 refine⟨by unfold yM;rw[xQ];exact hR,λs' j hs' hj=>?_⟩;have ndl:(jY ns k s).Nodup:=by
  unfold jY;rw[gD];refine List.pairwise_map.mpr (List.Pairwise.imp_of_mem ?_ (List.nodup_range (n:=n)));intro a b ha hb hab z;exact hab (zM hn hs hs (mW.mp ha) (mW.mp hb) z).2
 by_cases c:s'=s
 ·subst c;rw[tI rfl];unfold yM;refine GV _ _ (by rw[List.map_fst_zip (by omega)];exact ndl) ?_ (by rw[hR];exact yD hn hs hj);refine gH (i:=j) ?_;rw[List.getElem?_zip_eq_some];refine⟨uB (by rw[gD];exact hj), ?_⟩;rw[uR,uW (by rw[vl];exact hj)]
  rfl
 ·rw[tH c];unfold yM;refine wL _ _ λz hz e=>c ?_;have:=(List.of_mem_zip (show(z.1,z.2)∈_ from hz)).1;unfold jY at this;obtain⟨i,hi,ei⟩:=nN.mp this;rw[gD]at hi;exact(zM hn hs hs' (mW.mp hi) hj (ei.trans e)).1.symm
def AD(low high u:Int)(ns:List Nat)(k:Nat)(S:List Nat)(R:List Int):List Int:=S.foldl (λR s=>yM low high u R (jY ns k s)) R
theorem wR{ns:List Nat}{k n:Nat}{low high u:Int}(hn:ns[k]? = some n):∀(S:List Nat),S.Nodup->(∀s∈S,s∈LwB.startsL ns k)->∀R:List Int,R.length=LwB.szP ns->
  (AD low high u ns k S R).length=LwB.szP ns/\∀s j,s∈LwB.startsL ns k->j<n->(AD low high u ns k S R).getD (s+j*LwB.strd ns k) 0=if s∈S then(lnZ ((jY ns k s).map λa=>R.getD a 0) low high u).getD j 0 else R.getD (s+j*LwB.strd ns k) 0
 | [],_,_,R,hR=>⟨hR,λs j _ _=>by rw[tH (by simp)];rfl⟩
 | s0::S,nd,hS,R,hR=>by
  rw[List.nodup_cons]at nd;have h0:=hS s0 (gY ..);obtain⟨l1,st⟩:=YH (low:=low) (high:=high) (u:=u) hn h0 hR;obtain⟨l2,ih⟩:=wR (low:=low) (high:=high) (u:=u) hn S nd.2 (λs hs=>hS s (gI _ hs)) _ l1;have gD:ns.getD k 0=n:=by rw[uR,hn];rfl
  refine⟨l2,λs j hs hj=>?_⟩;show(AD low high u ns k S (yM low high u R (jY ns k s0))).getD (s+j*LwB.strd ns k) 0=_;rw[ih s j hs hj];by_cases c:s=s0
  ·subst c;rw[tH nd.1,tI (gY ..),st s j hs hj,tI rfl]
  ·have e:(s∈s0::S)↔s∈S:=by simp [c]
   by_cases d:s∈S
   ·rw[tI d,tI (e.mpr d)]
    congr 2
    unfold jY;rw[nP,nP];refine List.map_congr_left λi hi=>?_;rw[gD]at hi;show(yM low high u R (jY ns k s0)).getD (s+i*LwB.strd ns k) 0=R.getD (s+i*LwB.strd ns k) 0;rw[st s i hs (mW.mp hi),tH c]
   ·rw[tH d,tH λz=>d (e.mp z),st s j hs hj,tH c]
theorem xW(ns:List Nat)(k:Nat):(LwB.startsL ns k).Nodup:=List.Pairwise.filter _ List.nodup_range
theorem ME(low high u:Int)(ns:List Nat)(k:Nat)(R:List Int):RQ low high u ns k R=AD low high u ns k (LwB.startsL ns k) R:=by
 unfold RQ AD qO;rw[List.foldl_map]
 rfl
def RowF(ns:List Nat)(R:List Int)(T:List Nat->Rat):Prop:=R.length=LwB.szP ns/\∀a p,(LwB.plc ns)[a]? = some p->((R.getD a 0:Int):Rat)=T p
theorem FA{u low high:Rat}{m k:Nat}{a b:Nat->Rat}(hk:k<=m)(h:∀i,i<=m->a i=b i):LwB.lnN u low high m a k=LwB.lnN u low high m b k:=by
 unfold LwB.lnN;refine zO _ _ _ _ 0 λi hi=>?_;have tl:(LwB.twoT low high m k).length=m:=by
  unfold LwB.twoT;rw[gS,gC,gC];omega
 rw[tl]at hi;unfold LwB.lnG;rw[h i (by omega)]
theorem RM{ns:List Nat}{k m:Nat}{low high u:Int}{R:List Int}{T:List Nat->Rat}(hn:ns[k]? = some (m+1))(h:RowF ns R T):RowF ns (RQ low high u ns k R) (LwB.bxT (u:Rat) (low:Rat) (high:Rat) m k T):=by
 obtain⟨hR,hT⟩:=h;obtain⟨l,f⟩:=wR (low:=low) (high:=high) (u:=u) hn (LwB.startsL ns k) (xW ns k) (λ_ h=>h) R hR;rw[ME];refine⟨l,λa p ha=>?_⟩;obtain⟨s,hs,hps,ea⟩:=LwB.start_of hn ha;have gD:ns.getD k 0=m+1:=by rw[uR,hn];rfl
 have hk:k<ns.length:=(uU.mp hn).1;have pm:=(LwB.plc_in ns).mp (gH ha);have pk:=pm.2 k hk;rw[gD]at pk;have ll:((jY ns k s).map λa=>R.getD a 0).length=m+1:=by rw[mP,vM,gD]
 rw[ea,f s (p.getD k 0) hs pk,tI hs,lnZ_val ll (by omega)];unfold LwB.bxT;refine FA (by omega) λi hi=>?_;have z:(p.set k 0).getD k 0=0:=xP (by rw[pm.1];exact hk);have:=hT _ _ (LwB.plc_line ns k hps hn z (show i<m+1 by omega));rw[List.set_set]at this;rw[<-this]
 congr 1
 have gi:(jY ns k s)[i]? = some (s+i*LwB.strd ns k):=uB (by rw[gD];omega);rw[uR,hJ,gi]
 rfl
def RowB(ns:List Nat)(R:List Int)(B:Nat):Prop:=∀a,a<LwB.szP ns->(R.getD a 0).natAbs<2^B
theorem RO{ns:List Nat}{k m β B:Nat}{low high u:Int}{R:List Int}(hn:ns[k]? = some (m+1))(m24:m<=24)(hR:R.length=LwB.szP ns)(hB:RowB ns R B)(hu:u.natAbs<2^β)(hl:low.natAbs<2^β)(hh:high.natAbs<2^β):RowB ns (RQ low high u ns k R) (B+242+m*(β+1)):=by
 obtain⟨l,f⟩:=wR (low:=low) (high:=high) (u:=u) hn (LwB.startsL ns k) (xW ns k) (λ_ h=>h) R hR;rw[ME];intro a ha;rw[<-LwB.plc_len]at ha;obtain⟨s,hs,hps,ea⟩:=LwB.start_of hn (uW ha);have gD:ns.getD k 0=m+1:=by rw[uR,hn];rfl
 have hk:k<ns.length:=(uU.mp hn).1;have pm:=(LwB.plc_in ns).mp (mM ha);have pk:=pm.2 k hk;rw[gD]at pk;have ll:((jY ns k s).map λa=>R.getD a 0).length=m+1:=by rw[mP,vM,gD]
 rw[ea,f s _ hs pk,tI hs];refine lnZ_bd ll m24 hu hl hh (λz hz=>?_) _ ?_
 ·obtain⟨b,hb,rfl⟩:=nN.mp hz;unfold jY at hb;obtain⟨i,hi,rfl⟩:=nN.mp hb;rw[gD]at hi;exact hB _ (yD hn hs (mW.mp hi))
 ·rw[uR,uW (by rw[HR,ll];exact pk)];exact mM _
theorem fo1_mul(u a c:Rat)(g:Nat->Rat):LwB.fo1 u a (λi=>c*g i)=λi=>c*LwB.fo1 u a g i:=by
 funext j
 unfold LwB.fo1
 grind
theorem IH(u c:Rat):∀(tops:List Rat) (g:Nat->Rat),LwB.foF u tops (λi=>c*g i)=λi=>c*LwB.foF u tops g i
 | [],_=>rfl
 | a::tops,g=>by
  show LwB.foF u tops (LwB.fo1 u a λi=>c*g i)=λi=>c*LwB.foF u tops (LwB.fo1 u a g) i;rw[fo1_mul,IH u c tops]
theorem QB(u:Rat):∀(tops:List Rat) (g:Nat->Rat),LwB.foF u (tops.map λa=>u*a) g=λi=>u^tops.length*LwB.foF 1 tops g i
 | [],g=>by funext i;show g i=u^0*g i;rw[Rat.pow_zero,Rat.one_mul]
 | a::tops,g=>by
  show LwB.foF u (tops.map λa=>u*a) (LwB.fo1 u (u*a) g)=λi=>u^(tops.length+1)*LwB.foF 1 tops (LwB.fo1 1 a g) i;have:LwB.fo1 u (u*a) g=λi=>u*LwB.fo1 1 a g i:=by
   funext j
   unfold LwB.fo1
   grind
  rw[this,IH,QB u tops]
  funext i
  rw[Rat.pow_succ]
  grind
theorem OW(u low high c:Rat)(m:Nat)(a:Nat->Rat)(k:Nat):LwB.lnN u low high m (λi=>c*a i) k=c*LwB.lnN u low high m a k:=by
 unfold LwB.lnN;have:LwB.lnG m (λi=>c*a i)=λi=>c*LwB.lnG m a i:=by
  funext i
  unfold LwB.lnG
  grind
 rw[this,IH]
theorem lnN_hom{u lo hi:Rat}{m k:Nat}(a:Nat->Rat)(hk:k<=m):LwB.lnN u (u*lo) (u*hi) m a k=u^m*LwB.lnN 1 lo hi m a k:=by
 unfold LwB.lnN;have e:LwB.twoT (u*lo) (u*hi) m k=(LwB.twoT lo hi m k).map λa=>u*a:=by
  unfold LwB.twoT;rw[mQ,List.map_replicate,List.map_replicate]
 have tl:(LwB.twoT lo hi m k).length=m:=by
  unfold LwB.twoT;rw[gS,gC,gC];omega
 rw[e,QB,tl]
def nT(lo hi:Rat)(m k:Nat)(T:List Nat->Rat):List Nat->Rat:=λp=>LwB.bxT 1 lo hi m k T p/((LwB.fct m:Int):Rat)
theorem zP:∀m,0<LwB.fct m
 | 0=>by decide
 | m+1=>by
  show 0<LwB.fct m*((m:Int)+1);exact nY (zP m) (by omega)
theorem bxT_nT{u lo hi c:Rat}{m k:Nat}{T:List Nat->Rat}{p:List Nat}(hp:p.getD k 0<=m):LwB.bxT u (u*lo) (u*hi) m k (λp=>c*T p) p=(c*((LwB.fct m:Int):Rat)*u^m)*nT lo hi m k T p:=by
 unfold nT LwB.bxT;rw[OW,lnN_hom _ hp];have:((LwB.fct m:Int):Rat)≠0:=cne (zP m)
 grind
def bzT(ends:List (Rat×Rat))(ns:List Nat)(T:List Nat->Rat):Nat->List Nat->Rat
 | 0=>T
 | i+1=>nT (ends.getD i (0,0)).1 (ends.getD i (0,0)).2 (ns.getD i 0-1) i (bzT ends ns T i)
def phi(ns:List Nat)(tt ss xx:Nat->Rat)(i:Nat):List (Nat->Rat):=(List.range ns.length).map λj=>if j<i then LwB.wt (tt j) (ss j) (ns.getD j 0-1)else λk=>xx j^k
theorem AG{ns:List Nat}{tt ss xx:Nat->Rat}{i j:Nat}(h:j<ns.length):(phi ns tt ss xx i)[j]? = some (if j<i then LwB.wt (tt j) (ss j) (ns.getD j 0-1)else λk=>xx j^k):=by
 unfold phi;rw[hJ,gP h]
 rfl
theorem xX(ns:List Nat)(tt ss xx:Nat->Rat)(i:Nat):(phi ns tt ss xx i).length=ns.length:=by unfold phi;rw[mP,mC]
theorem UV{ns:List Nat}{tt ss xx:Nat->Rat}{i:Nat}(h:i<ns.length):(phi ns tt ss xx i).set i (λk=>xx i^k)=phi ns tt ss xx i:=by
 refine mH λj=>?_;rw[List.getElem?_set];by_cases c:i=j
 ·subst c;rw[tI rfl,tI (by rw[xX];exact h),AG h,tH (nH _)]
 ·rw[tH c]
theorem UU{ns:List Nat}{tt ss xx:Nat->Rat}{i:Nat}(h:i<ns.length):(phi ns tt ss xx i).set i (LwB.wt (tt i) (ss i) (ns.getD i 0-1))=phi ns tt ss xx (i+1):=by
 refine mH λj=>?_;rw[List.getElem?_set];by_cases c:i=j
 ·subst c;rw[tI rfl,tI (by rw[xX];exact h),AG h,tI (mO _)]
 ·rw[tH c];by_cases d:j<ns.length
  ·rw[AG d,AG d];by_cases e:j<i
   ·rw[tI e,tI (by omega)]
   ·rw[tH e,tH (by omega)]
  ·rw[gE (by rw[xX];omega),gE (by rw[xX];omega)]
theorem XY{ends:List (Rat×Rat)}{ns:List Nat}{T:List Nat->Rat}{tt ss xx:Nat->Rat}(h1:∀n∈ns,1<=n)(hs:∀i,i<ns.length->ss i+tt i=1)(hx:∀i,i<ns.length->ss i*(ends.getD i (0,0)).1+tt i*(ends.getD i (0,0)).2=xx i) :
  ∀i,i<=ns.length->LwB.smP ns (λp=>bzT ends ns T i p*LwB.wtP (phi ns tt ss xx i) p)=LwB.smP ns (λp=>T p*LwB.wtP (phi ns tt ss xx 0) p)
 | 0,_=>rfl
 | i+1,hi=>by
  rw[<-XY h1 hs hx i (by omega)];have hni:ns[i]? = some (ns.getD i 0-1+1):=by
   have e:ns[i]? = some ns[i]:=uW (by omega);have g:ns.getD i 0=ns[i]:=by rw[uR,e];rfl
   have:=h1 ns[i] (mM (by omega));rw[g,e]
   congr 1
   omega
  have t:=LwB.turn_sum (u:=1) (hs i (by omega)) ((hx i (by omega)).trans (Rat.one_mul _).symm) ns (phi ns tt ss xx i) i (ns.getD i 0-1) (bzT ends ns T i) hni (xX ..);rw[UV (by omega),UU (by omega)]at t;have f0:((LwB.fct (ns.getD i 0-1):Int):Rat)≠0:=cne (zP _);have one:∀n:Nat,(1:Rat)^n=1:=λn=>by
   induction n with
   | zero=>exact Rat.pow_zero ..
   | succ n ih=>rw[Rat.pow_succ,ih,Rat.one_mul]
  rw[one,nZ]at t;have e:LwB.smP ns (λp=>bzT ends ns T (i+1) p*LwB.wtP (phi ns tt ss xx (i+1)) p)=LwB.smP ns (λp=>(1/((LwB.fct (ns.getD i 0-1):Int):Rat))*(LwB.bxT 1 (ends.getD i (0,0)).1 (ends.getD i (0,0)).2 (ns.getD i 0-1) i (bzT ends ns T i) p*LwB.wtP (phi ns tt ss xx (i+1)) p)):=LwB.smP_congr ns λp _ _=>by
   show nT _ _ _ i (bzT ends ns T i) p*_=_;unfold nT
   grind
  rw[e,LwB.smP_mul,t]
  grind
def Ngt(K:tJ)(mg:Str->Option Value):Prop:=∃a,mg "NOUGHT" = some (.ref a)/\∀H,SqT K H a (([0,1]:List Int).map V.int)
theorem SW{K:tJ}{a b:Addr}{xs ys:List V}{g:TG}{tb:TS}{D:Ends}{σ:L2.St}{H:Hp}(Pv:Nat->L2.St->Hp->Prop)(le:xs.length=ys.length)(h0:Pv 0 σ H)(hl:∀i σ H,i<=xs.length->Pv i σ H->SqL K H a xs/\SqL K H b ys)
  (hs:∀i x y p σ H,xs[i]? = some x->ys[i]? = some y->H p=none->Pv i σ H->g (.ref p) σ (upd H p (.tup [x,y])) fun σ2 H2=>tb { D with nx:=Pv (i+1),ct:=Pv (i+1),bk:=D.nx } σ2 H2) (hd:∀σ H,Pv xs.length σ H->D.nx σ H) :
  ∃W:Nat->Nat->L2.St->Hp->Prop,(∃m,W 0 m σ H)/\∀i m σ H,W i m σ H->
   ((ItzL K a b).stop i H/\D.nx σ H)∨((ItzL K a b).go i H/\∃N:L2.St->Hp->Prop,(∀σ' H',N σ' H'->∃m',m'<m/\W (i+1) m' σ' H')/\∀x H',(ItzL K a b).yld i H x H'->g x σ H' fun σ2 H2=>tb { D with nx:=N,ct:=N,bk:=D.nx } σ2 H2):=by
 refine⟨λi m σ H=>m=xs.length-i/\i<=xs.length/\Pv i σ H,⟨xs.length,by simp,nX _,h0⟩, ?_⟩;rintro i m σ H ⟨rfl,hi,p⟩;obtain⟨q1,q2⟩:=hl i σ H hi p;by_cases hlt:i<xs.length
 ·refine .inr ⟨⟨xs,ys,xs[i],ys[i]'(by omega),q1,q2,by simp [hlt],by simp [le▸hlt]⟩,Pv (i+1),fun σ' H' p'=>⟨xs.length-(i+1),by omega,rfl,hlt,p'⟩,λv H' y=>?_⟩;obtain⟨r,x,y,hr,rfl,rfl,hx,hy⟩:=y;exact hs i x y r σ H (hx xs q1) (hy ys q2) hr p
 ·have ei:i=xs.length:=by omega
  subst ei;exact .inl ⟨⟨xs,ys,q1,q2,.inl uO⟩,hd σ H p⟩
theorem Poly.ents{H:Hp}{p:Addr}{many:Nat}{z:Sz}{ts:List Trm}(h:Poly H p many z ts):∃(q:Addr) (o:Obj) (xs:List V) (E:List Ent),H p=some (.tup [.int many,.ref q])/\H q=some (.frz o (.tup xs))/\o.dict=none/\LwD.PairsIn H xs (E.map Ent.kv)/\DB H many z E/\pl E=tl ts/\E.map Ent.ns=ts.map Trm.ns/\∀e∈E,Int.gcd e.t e.b=1:=by
 obtain⟨q,o,xs,e1,e2,e3,e4⟩:=h.ex;have key:∀{xs:List V} {ts:List Trm},Paired (TrmV H) xs ts->(∀x∈ts,TmOk many z.D z.v x)->∃E:List Ent,LwD.PairsIn H xs (E.map Ent.kv)/\(∀e∈E,EntOk H many z.D z.v e)/\pl E=tl ts/\E.map Ent.ns=ts.map Trm.ns/\E.map Ent.k=ts.map Trm.k/\∀e∈E,Int.gcd e.t e.b=1:=by
  intro xs ts hp;induction hp with
  | nil=>exact λ_=>⟨[],.nil,(λe h=>nomatch h),rfl,rfl,rfl,λe h=>nomatch h⟩
  | @cons v x vs xs' h t ih=>
   intro each;obtain⟨E,a1,a2,a3,a4,a5,a6⟩:=ih λy hy=>each y (by simp [hy]);obtain⟨r,b,c,rfl,t1,t2,t3⟩:=h.ex;have ok:=each x (by simp);refine⟨⟨x.ns,c,x.t,x.b,x.k⟩::E,.cons ⟨r,b,rfl,.inl t1,by rw[show(Ent.kv ⟨x.ns,c,x.t,x.b,x.k⟩).1=LwD.ik x.ns from rfl,LwD.yX];exact t2⟩ a1,λe he=>?_, ?_, ?_, ?_,λe he=>?_⟩
   ·rcases nF.mp he with rfl | he
    ·exact⟨ok.len,ok.nn,ok.deg,t3,ok.pos,ok.nz,ok.sb,ok.st⟩
    ·exact a2 e he
   ·show _::pl E=_::tl xs';rw[a3]
    rfl
   ·rw[nC,nC,a4]
   ·rw[nC,nC,a5]
   ·rcases nF.mp he with rfl | he
    ·exact ok.low
    ·exact a6 e he
 obtain⟨E,a1,a2,a3,a4,a5,a6⟩:=key e4 h.each;refine⟨q,o,xs,E,e1,e2,e3,a1,⟨by rw[a4];exact h.nd,a2,by rw[a5];exact h.sum, ?_⟩,a3,a4,a6⟩;have:E.length=ts.length:=by
  have:=congrArg List.length a4
  rwa [mP,mP]at this
 rw[this];exact h.few
theorem SM{E:List Ent}(h:(E.map Ent.ns).Nodup):((E.map Ent.kv).map (·.1)).Nodup:=by
 rw[nP];have h':=List.pairwise_map.mp h;exact List.pairwise_map.mpr (h'.imp fun {a b} n z=>n (IC z))
theorem frz_new{H H1:Hp}{p:Addr}{many:Nat}{z:Sz}{E:List Ent}{o:Obj}(n:H p=none)(s:Same H H1)(db:DB H1 many z E)(e:H1 p=some (.dT (E.map Ent.kv))):Same H (upd H1 p (.frz o (.dT (E.map Ent.kv))))/\FQ (upd H1 p (.frz o (.dT (E.map Ent.kv)))) p many z E:=
 ⟨jZ s n,⟨o,jG⟩,db.kp (Kp.upd e trivial)⟩
def ipw(p:List Nat):List Int:=p.map λ(n:Nat)=>(n:Int)
def cfN(L:Pl)(p:List Nat):Rat:=cf L (ipw p)
theorem VY(p:List Nat):qA p=(ipw p).map V.int:=SH p
theorem DB.cf{H:Hp}{many:Nat}{z:Sz}{E:List Ent}(h:DB H many z E){e:Ent}(he:e∈E):LwV.cf (pl E) e.ns=(e.t:Rat)/(e.b:Rat):=cf_one (P:=pl E) (by rw[wV];exact h.nd) (x:=e.pr) (List.mem_map_of_mem he)
def LN(E:List Ent):Int:=E.foldr (λe m=>e.b*m) 1
theorem LL{H:Hp}{many D v:Nat} :∀{E:List Ent},(∀e∈E,EntOk H many D v e)->0<LN E
 | [],_=>by decide
 | e::E,h=>nY (h e (gY ..)).pos (LL λx hx=>h x (gI _ hx))
theorem QN{H:Hp}{many D v:Nat} :∀{E:List Ent},(∀e∈E,EntOk H many D v e)->(LN E).natAbs<=2^(E.map Ent.k).sum
 | [],_=>by decide
 | e::E,h=>by
  show(e.b*LN E).natAbs<=2^(e.k+(E.map Ent.k).sum);rw[mV,tD];exact mX (h e (gY ..)).sb (QN λx hx=>h x (gI _ hx))
theorem LM:∀{E:List Ent} {e:Ent},e∈E->e.b∣LN E
 | x::E,e,h=>by
  rcases nF.mp h with rfl | h
  ·exact Int.dvd_mul_right ..
  ·exact Int.dvd_trans (LM h) (Int.dvd_mul_left ..)
theorem get_num{K:tJ}{H:Hp}{d b nA:Addr}{many:Nat}{z:Sz}{E:List Ent}{ns:List Int}(fq:FQ H d many z E)(low:∀e∈E,Int.gcd e.t e.b=1)(hN:SqT K H nA (([0,1]:List Int).map V.int))(hb:H b=some (.tup (ns.map V.int))):∃o:Option V,DGet H d (.ref b) o/\NumQ K H (o.getD (.ref nA)) (cf (pl E) ns):=by
 by_cases hin:ns∈E.map Ent.ns
 ·obtain⟨e,he,rfl⟩:=nN.mp hin;have kE:=fq.db.each e he;refine⟨_,fq.get he hb,e.c,rfl, ?_⟩;rw[fq.db.cf he];obtain⟨h1,h2⟩:=VU kE.pos (low e he);unfold fv at h1 h2;rw[h1,h2];exact SqT.of kE.at'
 ·refine⟨none,.inr ⟨_,LwD.ik ns,b,fq.rd,rfl,by rw[LwD.yX];exact hb,(NH (yE hin)).symm⟩,nA,rfl, ?_⟩;rw[IN λx hx e=>hin (by rw[<-wV];exact nN.mpr ⟨x,hx,e⟩)];exact hN
theorem LH{H:Hp}{many:Nat}{z:Sz}{E:List Ent}(h:DB H many z E)(ns:List Int):((cf (pl E) ns).den:Int)∣LN E/\(cf (pl E) ns).num.natAbs<2^(z.v+z.S+1):=by
 by_cases hin:ns∈E.map Ent.ns
 ·obtain⟨e,he,rfl⟩:=nN.mp hin;have kE:=h.each e he;obtain⟨d1,d2⟩:=zQ kE.pos (show cf (pl E) e.ns=fv e.t e.b from h.cf he);refine⟨Int.dvd_trans d1 (LM he),gR d2 ?_⟩;have ke:=h.k he;have h1:e.t.natAbs<=2^(z.v+z.S):=by
   rw[tD];exact nK kE.st (gQ _ (nK kE.sb (gJ (by decide) ke)))
  exact gR h1 (gK (by decide) (by omega))
 ·rw[IN λx hx e=>hin (by rw[<-wV];exact nN.mpr ⟨x,hx,e⟩)];exact⟨Int.one_dvd _,Nat.two_pow_pos _⟩
structure EndV(K:tJ)(H:Hp)(v:V)(e:Rat×Rat):Prop where
 ex:∃(r:Addr) (x y:V),v=.ref r/\SqT K H r [x,y]/\NumQ K H x e.1/\NumQ K H y e.2
structure EndOk(e:Rat×Rat):Prop where
 D:∃D:Int,0<D/\D.natAbs<=2^40/\(e.1.den:Int)∣D/\(e.2.den:Int)∣D
 n1:e.1.num.natAbs<2^60
 n2:e.2.num.natAbs<2^60
theorem But.same{H H1 H2:Hp}{q:Addr}(s:Same H H1)(b:But q H1 H2)(n:H q=none):Same H H2:=λc o h=>b c o (s c o h) λz=>by rw[z,n]at h;cases h
theorem HZ{n a:Nat}(h:a<n):ixN n (a:Int)=some a:=by
 unfold ixN;rw[tI (by omega),tI (by omega),mG]
theorem KH{R:List Int}{a:Nat}(h:a<R.length):(R.map V.int)[a]? = some (.int (R.getD a 0)):=by
 rw[hJ,uW h,uR,uW h]
 rfl
theorem ET{ns:List Nat}{k i:Nat}{line:List Nat}(h:(qO ns k)[i]? = some line):∃s,(LwB.startsL ns k)[i]? = some s/\s∈LwB.startsL ns k/\line=jY ns k s:=by
 unfold qO at h;rw[hJ]at h;obtain⟨s,hs,rfl⟩:=Option.map_eq_some_iff.mp h;exact⟨s,hs,gH hs,rfl⟩
theorem RL{low high u:Int}{ns:List Nat}{k i s:Nat}{R:List Int}(h:(LwB.startsL ns k)[i]? = some s):AD low high u ns k ((LwB.startsL ns k).take (i+1)) R=yM low high u (AD low high u ns k ((LwB.startsL ns k).take i) R) (jY ns k s):=by
 unfold AD;rw[hW,h,mE]
 rfl
theorem WO{ns:List Nat}{k n i s:Nat}{low high u:Int}{R:List Int}(hn:ns[k]? = some n)(hR:R.length=LwB.szP ns)(hs:(LwB.startsL ns k)[i]? = some s):(AD low high u ns k ((LwB.startsL ns k).take i) R).length=LwB.szP ns/\∀a∈jY ns k s,a<LwB.szP ns/\(AD low high u ns k ((LwB.startsL ns k).take i) R).getD a 0=R.getD a 0:=by
 have nd:=xW ns k;have hm:=gH hs;obtain⟨l,f⟩:=wR (low:=low) (high:=high) (u:=u) hn ((LwB.startsL ns k).take i) (nd.sublist (List.take_sublist ..)) (λs h=>gN h) R hR;refine⟨l,λa ha=>?_⟩;have gD:ns.getD k 0=n:=by rw[uR,hn];rfl
 unfold jY at ha;obtain⟨j,hj,rfl⟩:=nN.mp ha;rw[gD]at hj;have hj:=mW.mp hj;refine⟨yD hn hm hj, ?_⟩;rw[f s j hm hj,tH];intro z;obtain⟨b,hb⟩:=gF.mp z;have bi:b<i:=by
  have:=(uU.mp hb).1;rw[mI]at this;omega
 rw[List.getElem?_take,tI bi]at hb;obtain⟨l1,h1⟩:=uU.mp hb;obtain⟨l2,h2⟩:=uU.mp hs;exact List.pairwise_iff_getElem.mp nd b i l1 l2 bi (h1.trans h2.symm)
theorem gT3{K:tJ}{H:Hp}{a q:Addr}{x y z:V}{n m i j k:Nat}{σ:L2.St}{Q:L2.St->Hp->Prop}(h:SqT K H a [.ref q,z])(h':SqL K H q [x,y])(hn:2=n)(hm:2=m)(c:Q (((σ.set i (some x)).set j (some y)).set k (some z)) H):AM K n (qI (gTupL K m (qI (jP i) (qI (jP j) gNil))) (qI (jP k) gNil)) (.ref a) σ H Q:=⟨a,_,rfl,h,hn,_,_,rfl,q,_,rfl,h',hm,_,_,rfl,_,_,rfl,rfl,_,_,rfl,rfl,c⟩
structure BrO(q:Addr)(ns:List Nat)(ends:List (Rat×Rat))(T0:List Nat->Rat)(i:Nat)(R:List Int)(bot:Int)(H1:Hp):Prop where
 er:H1 q=some (.lst (R.map V.int))
 f:RowF ns R (λp=>(bot:Rat)*bzT ends ns T0 i p)
 hb:0<bot
 bb:bot.natAbs<2^(1300+i*700)
 bs:bot.natAbs<=2^(400+i*165)
 rb:RowB ns R (1300+i*700)
inductive BrI(H:Hp)(p b sz tb q:Addr)(ns:List Nat)(ends:List (Rat×Rat))(T0:List Nat->Rat)(i:Nat):L2.St->Hp->Prop where
 | mk {R:List Int} {bot:Int} {u6 u7 u8 u9 u10 u11 u12 u13 u14 u15:Option V} {H1:Hp} (s:Same H H1) (esz:H1 sz=some (.lst (qA ns))) (o:BrO q ns ends T0 i R bot H1):BrI H p b sz tb q ns ends T0 i [some (.ref p),some (.ref b),some (.ref sz),some (.ref tb),some (.ref q),some (.int bot),u6,u7,u8,u9,u10,u11,u12,u13,u14,u15] H1
inductive BlI(σ:L2.St)(H5:Hp)(q:Addr)(low high u:Int)(ns:List Nat)(k:Nat)(R:List Int)(j:Nat):L2.St->Hp->Prop where
 | mk {u11 u12 u13 u14:Option V} {H1:Hp} (b:But q H5 H1) (er:H1 q=some (.lst ((AD low high u ns k ((LwB.startsL ns k).take j) R).map V.int))):BlI σ H5 q low high u ns k R j ((((σ.set 11 u11).set 12 u12).set 13 u13).set 14 u14) H1
inductive BcI(σ:L2.St)(H5:Hp)(q:Addr)(R:List Int)(zs:List (Nat×Int))(j:Nat):L2.St->Hp->Prop where
 | mk {u12 u14:Option V} {H1:Hp} (b:But q H5 H1) (er:H1 q=some (.lst ((vL R (zs.take j)).map V.int))):BcI σ H5 q R zs j ((σ.set 12 u12).set 14 u14) H1
def wK(K:tJ):Sp:=λvs H Q _=>∃(p b:Addr) (many:Nat) (z:Sz) (ts:List Trm) (bx:List V) (ends:List (Rat×Rat)),vs=[.ref p,.ref b]/\Poly H p many z ts/\z.S<=400/\z.v<=400/\ts.length<=63/\SqL K H b bx/\(∀H',Same H H'->SqL K H' b bx)/\Paired (EndV K H) bx ends/\(∀e∈ends,EndOk e)/\ends.length=many/\many<=4/\LwB.szP (szT many (ts.map Trm.ns))<=200/\(∀n∈szT many (ts.map Trm.ns),n<=5)/\
 ∀(r q:Addr) (R:List Int) (bot:Int) (H':Hp),H r=none->H q=none->Same H H'->H' r=some (.tup [.ref q,.int bot])->H' q=some (.lst (R.map V.int))->0<bot->bot.natAbs<=2^(400+many*165)->RowB (szT many (ts.map Trm.ns)) R (1300+many*700)->RowF (szT many (ts.map Trm.ns)) R (λp=>(bot:Rat)*bzT ends (szT many (ts.map Trm.ns)) (cfN (tl ts)) many p)->Q (.ref r) H'
theorem zB(many:Nat)(ks:List (List Int)):∀n∈szT many ks,1<=n:=λn hn=>by
 unfold szT at hn;obtain⟨i,_,rfl⟩:=nN.mp hn;omega
theorem EV{H:Hp}{many:Nat}{z:Sz}{E:List Ent}{ns:List Nat}{bz:List (Rat×Rat)}{q:Addr}{rs:List Rat}(db:DB H many z E)(hS:z.S<=400)(hv:z.v<=400)(hrs:rs=(LwB.plc ns).map λp=>cfN (pl E) p):(∃D:Int,0<D/\D.natAbs<=2^2400/\∀r∈rs,(r.den:Int)∣D)/\(∀r∈rs,r.num.natAbs<2^4000)/\∀H1:Hp,H1 q=some (.lst ((lvT rs).map V.int))->BrO q ns bz (cfN (pl E)) 0 (lvT rs) (lvD rs) H1:=by
 have mem:∀r∈rs,∃p,p∈LwB.plc ns/\r=cf (pl E) (ipw p):=λr hr=>by
  rw[hrs]at hr;obtain⟨p,hp,rfl⟩:=nN.mp hr;exact⟨p,hp,rfl⟩
 have dD:∀r∈rs,(r.den:Int)∣LN E:=λr hr=>by
  obtain⟨p,_,rfl⟩:=mem r hr;exact(LH db _).1
 have dn:∀r∈rs,r.num.natAbs<2^801:=λr hr=>by
  obtain⟨p,_,rfl⟩:=mem r hr;exact jJ (LH db _).2 (by omega)
 have bp:=LL db.each;have bl:(LN E).natAbs<=2^400:=nK (QN db.each) (gJ (by decide) (nK db.sum hS));have lD:=wY bp bl dD;refine⟨⟨LN E,bp,nK bl (gJ (by decide) (by decide)),dD⟩,λr hr=>jJ (dn r hr) (by decide),λH1 e1=>⟨e1,⟨?_,λa p ha=>?_⟩,yB rs,gR lD (gK (by decide) (by omega)),lD,λa ha=>?_⟩⟩
 ·rw[BE,hrs,mP,LwB.plc_len]
 ·have hr:rs[a]? = some (cfN (pl E) p):=by rw[hrs,hJ,ha];rfl
  have e:(lvT rs)[a]? = some ((cfN (pl E) p).num*(lvD rs/((cfN (pl E) p).den:Int))):=by
   unfold lvT;rw[hJ,hr]
   rfl
  rw[uR,e];show(((cfN (pl E) p).num*(lvD rs/((cfN (pl E) p).den:Int)):Int):Rat)=_;rw[MR (gH hr),Rat.mul_comm]
  rfl
 ·have hl:a<(lvT rs).length:=by rw[BE,hrs,mP,LwB.plc_len];exact ha
  rw[uR,uW hl];exact jJ (WH lD dn _ (mM hl)) (by omega)
theorem fct_5:∀{m:Nat},m<=4->(LwB.fct m).natAbs<=2^5
 | 0,_=>by decide
 | 1,_=>by decide
 | 2,_=>by decide
 | 3,_=>by decide
 | 4,_=>by decide
 | m+5,h=>by omega
theorem UN{q:Addr}{ns:List Nat}{ends:List (Rat×Rat)}{T0:List Nat->Rat}{k m:Nat}{R:List Int}{bot:Int}{H1 H2:Hp}{e:Rat×Rat}(o:BrO q ns ends T0 k R bot H1)(hn:ns[k]? = some (m+1))(m4:m<=4)(he:ends[k]? = some e)(eo:EndOk e)(low high u:Int)(hu:u=lvD [e.1,e.2])(hl:(low:Rat)=e.1*(u:Rat))(hh:(high:Rat)=e.2*(u:Rat))(bl:low.natAbs<2^100)(bh:high.natAbs<2^100)(h2:H2 q=some (.lst ((RQ low high u ns k R).map V.int))):BrO q ns ends T0 (k+1) (RQ low high u ns k R) (bot*LwB.fct m*u^m) H2:=by
 have up:0<u:=by rw[hu];exact yB _
 obtain⟨D,dp,db,d1,d2⟩:=eo.D;have ub:u.natAbs<=2^40:=by
  rw[hu];refine wY dp db λr hr=>?_;rcases nF.mp hr with rfl | hr
  ·exact d1
  ·rw[gW.mp hr];exact d2
 have ub':u.natAbs<2^100:=gR ub (gK (by decide) (by decide));have upw:∀j,(u^j).natAbs<=2^(40*j):=λj=>by
  rw[Int.natAbs_pow,Nat.pow_mul];exact Nat.pow_le_pow_left ub j
 refine⟨h2, ?_,nY (nY o.hb (zP m)) (Int.pow_pos up), ?_, ?_, ?_⟩
 ·obtain⟨l,f⟩:=RM (low:=low) (high:=high) (u:=u) hn o.f;refine⟨l,λa p ha=>?_⟩;have pm:=(LwB.plc_in ns).mp (gH ha);have gD:ns.getD k 0=m+1:=by rw[uR,hn];rfl
  have pk:=pm.2 k (uU.mp hn).1;rw[gD]at pk;rw[f a p ha,hl,hh,Rat.mul_comm e.1,Rat.mul_comm e.2,bxT_nT (by omega)];have eE:ends.getD k (0,0)=e:=by rw[uR,he];rfl
  show _=_*nT (ends.getD k (0,0)).1 (ends.getD k (0,0)).2 (ns.getD k 0-1) k (bzT ends ns T0 k) p;rw[eE,gD,mT,mT,Rat.intCast_pow]
  rfl
 ·have h1:=kT (kT o.bb (wD (n:=m) (by omega))) (show(u^m).natAbs<2^161 from gR (upw m) (gK (by decide) (by omega)));exact jJ h1 (by omega)
 ·have h1:(bot*LwB.fct m*u^m).natAbs<=2^(400+k*165)*2^5*2^(40*m):=by
   rw[mV,mV];exact mX (mX o.bs (fct_5 m4)) (upw m)
  rw[<-tD,<-tD]at h1;exact nK h1 (gJ (by decide) (by omega))
 ·have:=RO (low:=low) (high:=high) (u:=u) hn (by omega) o.f.1 o.rb ub' bl bh;intro a ha;have h3:m*(100+1)<=4*101:=gL _ m4;exact jJ (this a ha) (by omega)
theorem scBr:FnScope ["one","box","sizes","table","row","bottom","letter","ends","first","last","under","line","at","found","top","turn"] ["one","box"] (jQ zI):=⟨rfl,rfl,rfl,by decide +kernel,rfl,by decide +kernel,by decide +kernel⟩
theorem SD{fS fP fL fA fN fF:Addr}{fdS fdP fdL fdA fdN fdF:FuncData}(F:Fun K "box_row" "box_row" zI f fd)(T:Txt mg)(N:Ngt K mg)(DS:Df K mg "sizes_of" AA ["one"] fS fdS)(GS:FnOk P w K mg base CX0 1 fS fdS ["one"] spSizes)(DP:Df K mg "all_places" wO ["sizes"] fP fdP)(GP:FnOk P w K mg base CX0 1 fP fdP ["sizes"] spPlaces)
  (DL:Df K mg "level" UL ["some"] fL fdL) (GL:FnOk P w K mg base CX0 4 fL fdL ["some"] (NP K)) (GT:FnOk P w K mg base CX0 4 fL fdL ["some"] (IY K)) (DA:Df K mg "lines_along" CB ["sizes","letter"] fA fdA) (GA:FnOk P w K mg base CX0 2 fA fdA ["sizes","letter"] spLines) (DN:Df K mg "line_numbers" NZ ["line","low","high","under"] fN fdN) (GN:FnOk P w K mg base CX0 2 fN fdN ["line","low","high","under"] (UG K)) (DF:Df K mg "factorial" UM ["many"] fF fdF) (GF:FnOk P w K mg base CX0 1 fF fdF ["many"] spFact):FnOk P w K mg base CX0 5 f fd ["one","box"] (wK K):=by
 obtain⟨nA,hnA,hN⟩:=N;refine F.ok scBr (λvs H Q E h=>?_) (λcdv A outer s H vs Q E hr h=>?_)
 ·obtain⟨p,b,many,z,ts,bx,ends,rfl,_⟩:=h
  rfl
 ·obtain⟨p,b,many,z,ts,bx,ends,rfl,hP,zS,zv,t63,hb,hbk,hE,hEo,el,m4,h200,h5,go⟩:=h;have hr1:Room 1 _:=hr.mono (by decide);have hr2:Room 2 _:=hr.mono (by decide);have hu:_+1<cLine:=gR (Nat.add_le_add_left (by decide:1<=64) _) hr.units;have hu2:_+2<cLine:=gR (Nat.add_le_add_left (by decide:2<=64) _) hr.units;refine⟨_,jB (jN (i:=2) scBr.nd rfl (Or.inl rfl) (jH GS hr1 rfl DS.m DS.F.kp DS.b .nil jR (jA (pv 0) jC))) (jB (jN (i:=3) scBr.nd rfl (Or.inr rfl) (LwD.MJ (qB (LwD.NE rfl hu2) (by rfl) T.dct boot_dict (jA (jT jV (pv 0) jD (λ_ _=>rfl)) jC)))) (jB (kU (jH GL hr rfl DL.m DL.F.kp DL.b .nil jR (jA (kX (own:=1) (idx:=[3]) (N:=["place","table"]) rfl rfl rfl (by decide +kernel) (by decide +kernel) (qW (by intro y hy;simp only[nF,mJ,or_false]at hy;rcases hy with rfl;rfl)) (qJ rfl) rfl (qU rfl ⟨rfl,rfl,rfl,rfl⟩) (kZ (jH GP hr1 rfl DP.m DP.F.kp DP.b .nil jR (jA (pv 2) jC))) (λC fp s2 H2=>(jF (i:=0) (show List.Nodup (["place","table"]:List Str) by decide +kernel) rfl (Or.inl rfl) (Or.inr rfl))) (λC fp s2 H2=>JO hu (pv 1) (pv 0) (OG (v:=.ref nA) (by rfl) hnA rfl) ⟨rfl,rfl,rfl,rfl⟩)) jC)) (kJ rfl (jI (jF (i:=4) scBr.nd rfl (Or.inr rfl)) (jI (jF (i:=5) scBr.nd rfl (Or.inl rfl)) kC)))) (jB (kO PassesOwn.never rfl (CJ (by rfl) T.enum (jA (pv 1) jC)) (kJ rfl (jI (jF (i:=6) scBr.nd rfl (Or.inl rfl)) (jI (jF (i:=7) scBr.nd rfl (Or.inl rfl)) kC))) (jB (kU (jH GT hr rfl DL.m DL.F.kp DL.b .nil jR (jA (pv 7) jC)) (kJ rfl (jI (YX rfl (jI (jF (i:=8) scBr.nd rfl (Or.inl rfl)) (jI (jF (i:=9) scBr.nd rfl (Or.inl rfl)) kC))) (jI (jF (i:=10) scBr.nd rfl (Or.inl rfl)) kC)))) (jB (kO PassesOwn.never rfl (kZ (jH GA hr2 rfl DA.m DA.F.kp DA.b .nil jR (jA (pv 2) (jA (pv 6) jC)))) (jF (i:=11) scBr.nd rfl (Or.inl rfl)) (jB (jN (i:=13) scBr.nd rfl (Or.inl rfl) (jH GN hr2 rfl DN.m DN.F.kp DN.b .nil jR (jA (kX (own:=1) (idx:=[4]) (N:=["at","row"]) rfl rfl rfl (by decide +kernel) (by decide +kernel) (qW (by intro y hy;simp only[nF,mJ,or_false]at hy;rcases hy with rfl;rfl)) (qJ rfl) rfl (qU rfl ⟨rfl,rfl,rfl,rfl⟩) (kZ (pv 11)) (λC fp s2 H2=>(jF (i:=0) (show List.Nodup (["at","row"]:List Str) by decide +kernel) rfl (Or.inl rfl) (Or.inr rfl))) (λC fp s2 H2=>jT (show IxR (jO _ ["at","row"] _ _ C fp s2 H2) (EI K)from kK) (pv 1) (pv 0) (λ_ _=>rfl))) (jA (pv 8) (jA (pv 9) (jA (pv 10) jC)))))) (jE (kO PassesOwn.never rfl (HK (by rfl) T.zip (jA (pv 11) (jA (pv 13) jC))) (kJ rfl (jI (jF (i:=12) scBr.nd rfl (Or.inl rfl)) (jI (jF (i:=14) scBr.nd rfl (Or.inl rfl)) kC))) (jE (kU (pv 14) (xY (pv 4) (pv 12) vC))))))) (jB (jN (i:=5) scBr.nd rfl (Or.inl rfl) (jK kH (pv 5) (jH GF hr1 rfl DF.m DF.F.kp DF.b .nil jR (jA (jK qL (jT kK (pv 2) (pv 6) (λ_ _=>rfl)) jD) jC)))) (jE (kO PassesOwn.never rfl (kQ (by rfl) T.rng (jA (jK qL (jT kK (pv 2) (pv 6) (λ_ _=>rfl)) jD) jC)) (jF (i:=15) scBr.nd rfl (Or.inl rfl)) (jE (jN (i:=5) scBr.nd rfl (Or.inl rfl) (jK kH (pv 5) (pv 10)))))))))) (jE (jS (jW (jA (pv 4) (jA (pv 5) jC)))))))), ?_⟩
  try dsimp only[cxK]
  have szp:=zB many (ts.map Trm.ns);have szl:=vO many (ts.map Trm.ns);refine⟨_,rfl,p,many,z,ts,rfl,hP,m4,t63,λsz H1 n1 s1 e1=>?_⟩;generalize hns:szT many (ts.map Trm.ns)=ns at *;have h0n1:H sz=none:=n1;try dsimp only[jP]
  obtain⟨q0,oq,tx,EE,a1,a2,a3,hpi,db,epl,ens,elow⟩:=(hP.kp (Kp.of s1)).ents;refine rvT rfl (SqT.of a1) rfl ⟨q0,oq,tx,_,rfl,a2,a3,hpi,SM db.nd,λtb H2 n2 s2 e2=>⟨tb,_,rfl,e2,λo3=>?_⟩⟩;obtain⟨s3,FW⟩:=frz_new (o:=o3) n2 s2 (db.kp (Kp.of s2)) e2;generalize upd H2 tb (.frz o3 (.dT (EE.map Ent.kv)))=H3 at s3 FW;try dsimp only[jP]
  clear e2 s2 n2 H2;refine⟨_,rfl,sz,ns,rfl,s3 _ _ e1,szp,h200,by omega,λpp xs H4 n4 s4 e4 t4=>?_⟩;have lx:=t4.len;rw[LwB.plc_len]at lx;refine⟨pp,rfl,⟨_,SqL.of e4⟩,λl H5 n5 s5 e5=>?_⟩;refine qX (K:=K) (a:=pp) (xs:=xs) (λi ys H6=>Same H4 H6/\H6 l=some (.lst ys)/\NumsQ K H6 ys (((LwB.plc ns).take i).map λp=>cfN (pl EE) p)) (by rw[lx,sizeLine_eq];omega) ⟨s5,e5,.nil⟩ (λi ys H6 h=>⟨SqL.of (h.1 _ _ e4),h.2.1⟩) ?_ ?_
  ·rintro i m ys x H6 hx hm hyl ⟨s6,e6,y6⟩;obtain⟨pq,hpq,a,rfl,ha⟩:=Paired.at t4 hx;rw[VY]at ha;have FW6:=FW.kp (Kp.of (s4.trans s6));obtain⟨o,g,nq⟩:=get_num (K:=K) FW6 elow (hN H6) (s6 _ _ ha);refine⟨yN,_,rfl,tb,rfl,.inr ⟨_,FW6.rd⟩,_,rfl,o,g, ?_⟩;refine kF hx hm hyl e6 ⟨jZ s6 n5,jG, ?_⟩;have sp:Same H6 H6:=Same.refl _;have pn:∀v r,NumQ K H6 v r->NumQ K (upd H6 l (.lst (ys++[o.getD (.ref nA)]))) v r:=λv r ⟨a,e,q⟩=>⟨a,e,by
    rcases q with(q | ⟨o,q⟩) | q
    ·exact .inl (.inl (by rw[jM λz=>by rw[z,e6]at q;cases q];exact q))
    ·exact .inl (.inr ⟨o,by rw[jM λz=>by rw[z,e6]at q;cases q];exact q⟩)
    ·exact .inr q⟩
   rw[hW,hpq,mQ];exact Paired.app (Paired.to pn y6) (.cons (pn _ _ nq) .nil)
  rintro ys H6 hyl ⟨s6,e6,y6⟩;rw[lx,<-LwB.plc_len,mK]at y6;obtain⟨rf1,rf2,rf3⟩:=EV (bz:=ends) (ns:=ns) (q:=q0) FW.db zS zv rfl;have l200:((LwB.plc ns).map λp=>cfN (pl EE) p).length<=200:=by rw[mP,LwB.plc_len];exact h200
  refine⟨l,ys,_,rfl,SqL.of e6,λH' s'=>SqL.of (s' _ _ e6),y6,l200,rf1,rf2,λr1 q H7 n7 m7 s7 e7 g7=>?_⟩;obtain⟨_,_,rf3⟩:=EV (bz:=ends) (ns:=ns) (q:=q) FW.db zS zv rfl;have O:=rf3 H7 g7;generalize lvT ((LwB.plc ns).map λp=>cfN (pl EE) p)=R0 at O g7;generalize lvD ((LwB.plc ns).map λp=>cfN (pl EE) p)=bot0 at O e7;refine gT2 (SqT.of e7) rfl ?_;have s07:Same H H7:=((s1.trans s3).trans (s4.trans s6)).trans s7;have esz7:H7 sz=some (.lst (qA ns)):=((s3.trans (s4.trans s6)).trans s7) _ _ e1;have nq0:H q=none:=((s1.trans s3).trans (s4.trans s6)).free m7;have nsq:sz≠q:=λz=>by
   have:=((s3.trans (s4.trans s6))) _ _ e1;rw[z,m7]at this;cases this
  have lb:bx.length=many:=by rw[Paired.length hE,el]
  rw[epl]at O;clear rf1 rf2 rf3 y6 e6 t4 e4 e5 n5 n4 lx hyl FW l200 e7 g7;try dsimp only[jP]
  refine⟨_,rfl,b,rfl,⟨bx,hbk _ s07⟩,SX (K:=K) (a:=b) (xs:=bx) (BrI H p b sz tb q ns ends (cfN (tl ts))) (.mk s07 esz7 O) (λi σ H8 _ h=>?_) (λi x c σ H8 hx hc h=>?_) (fun σ H8 h=>?_)⟩
  ·cases h with
   | mk s8 _ _=>exact hbk _ s8
  ·cases h with
   | @mk R bot u6 u7 u8 u9 u10 u11 u12 u13 u14 u15 _ s8 esz O8=>
   obtain⟨e,he,r,x1,x2,rfl,sq,nq1,nq2⟩:∃e,ends[i]? = some e/\∃(r:Addr) (x1 x2:V),x=.ref r/\SqT K H r [x1,x2]/\NumQ K H x1 e.1/\NumQ K H x2 e.2:=by
    obtain⟨e,he,h⟩:=Paired.at hE hx;exact⟨e,he,h.ex⟩
   have eo:=hEo e (gH he);have s9:Same H8 (upd H8 c (.tup [.int (i:Int),.ref r])):=kD _ hc;have e9:(upd H8 c (.tup [.int (i:Int),.ref r])) c=some (.tup [.int (i:Int),.ref r]):=jG;generalize upd H8 c (.tup [.int (i:Int),.ref r])=H9 at s9 e9;refine gT2 (SqT.of e9) rfl ?_;have s09:=s8.trans s9;have him:i<many:=by rw[<-lb];exact(uU.mp hx).1
   obtain⟨m,hm⟩:∃m,ns[i]? = some (m+1):=by
    rw[<-hns,LW _ him];exact⟨_,rfl⟩
   have m4':m<=4:=by have:=h5 _ (gH hm);omega
   obtain⟨D,dp,dbd,d1,d2⟩:=eo.D;have dE:∀x∈[e.1,e.2],(x.den:Int)∣D:=λx hx=>by
    rcases nF.mp hx with rfl | hx
    ·exact d1
    ·rw[gW.mp hx];exact d2
   have nE:∀x∈[e.1,e.2],x.num.natAbs<2^60:=λx hx=>by
    rcases nF.mp hx with rfl | hx
    ·exact eo.n1
    ·rw[gW.mp hx];exact eo.n2
   refine⟨_,rfl,r,[x1,x2],[e.1,e.2],rfl,qZ s09 sq,λH' s'=>qZ (s09.trans s') sq,.cons (nq1.same s09) (.cons (nq2.same s09) .nil),by show 2<=200;decide,⟨D,dp,nK dbd (gJ (by decide) (by decide)),dE⟩,λx hx=>jJ (nE x hx) (by decide),λr2 q2 H10 n10 m10 s10 e10 g10=>?_⟩;have lvb:=wY dp dbd dE;have lvt:=WH lvb nE;obtain⟨low,high,elh,vl,vh⟩:∃low high:Int,lvT [e.1,e.2]=[low,high]/\(low:Rat)=e.1*(lvD [e.1,e.2]:Rat)/\(high:Rat)=e.2*(lvD [e.1,e.2]:Rat):=⟨_,_,rfl,MR (gY ..),MR (gI _ (gY ..))⟩;rw[elh]at g10 lvt;have bl:=lvt low (gY ..);have bh:=lvt high (gI _ (gY ..));have up:=yB [e.1,e.2];generalize hlu:lvD [e.1,e.2]=u at e10 lvb vl vh up;refine gT3 (SqT.of e10) (SqL.of g10) rfl rfl ?_;have esz10:=(s9.trans s10) _ _ esz;have eq10:=(s9.trans s10) _ _ O8.er;have s010:=s09.trans s10;clear e9 e10 g10 n10 m10 lvt elh nq1 nq2 sq hc;refine⟨_,rfl,_,rfl,sz,ns,i,rfl,esz10,szp,h200,by omega,by omega,λpl' ls H11 n11 s11 e11 t11=>?_⟩;have hR:R.length=LwB.szP ns:=O8.f.1;have s011:=s010.trans s11;have eq11:=s11 _ _ eq10;have nplq:pl'≠q:=λz=>by rw[z,eq10]at n11;cases n11
   have ub:u.natAbs<2^101:=gR lvb (gK (by decide) (by decide));have iB:1300+i*700<=4100:=by omega
   have ll:ls.length=(LwB.startsL ns i).length:=by rw[Paired.length t11];unfold qO;rw[mP]
   refine⟨pl',rfl,⟨_,SqL.of e11⟩,qT (K:=K) (a:=pl') (xs:=ls) (BlI _ H11 q low high u ns i R) (BlI.mk (σ:=[some (.ref p),some (.ref b),some (.ref sz),some (.ref tb),some (.ref q),some (.int bot),some (.int (i:Int)),some (.ref r),some (.int low),some (.int high),some (.int u),u11,u12,u13,u14,u15]) (u11:=u11) (u12:=u12) (u13:=u13) (u14:=u14) (But.refl _ _) eq11) (λj σ H12 _ h=>?_) (λj x σ H12 hx h=>?_) (fun σ H12 h=>?_)⟩
   ·cases h with
    | mk b12 _=>exact SqL.of (b12 _ _ e11 nplq)
   ·cases h with
    | @mk v11 v12 v13 v14 _ b12 er12=>
    obtain⟨line,hline,a,rfl,hapl,ha0,ha⟩:=Paired.at t11 hx;obtain⟨st,hst,hstm,rfl⟩:=ET hline;have naq:a≠q:=λz=>by rw[z,eq10]at ha0;cases ha0
    obtain⟨lR,old⟩:=WO (low:=low) (high:=high) (u:=u) hm hR hst;have ha12:=b12 _ _ ha naq;have gD:ns.getD i 0=m+1:=by rw[uR,hm];rfl
    have lo:(jY ns i st).length=m+1:=by rw[vM,gD]
    have nxt:=RL (low:=low) (high:=high) (u:=u) (R:=R) hst;have valO:(jY ns i st).map (λa=>(AD low high u ns i ((LwB.startsL ns i).take j) R).getD a 0)=(jY ns i st).map λa=>R.getD a 0:=List.map_congr_left λa h=>(old a h).2;generalize hRj:AD low high u ns i ((LwB.startsL ns i).take j) R=Rj at er12 lR old nxt valO;try dsimp only[jP]
    refine⟨_,rfl,a,rfl,⟨_,SqL.of ha12⟩,λl2 H13 n13 s13 e13=>?_⟩;refine qX (K:=K) (a:=a) (xs:=qA (jY ns i st)) (CmI (λt=>(((jY ns i st).map λa=>R.getD a 0).take t).map V.int) l2 H12) (by rw[kP,lo,sizeLine_eq];omega) ⟨s13,e13,rfl⟩ (λt ys H14 h=>⟨SqL.of (h.s _ _ ha12),h.e⟩) ?_ ?_
    ·rintro t m2 ys x H14 hx2 hm2 hy2 ⟨s14,e14,y14⟩;obtain⟨at',hat,rfl⟩:=yA hx2;obtain⟨h1,h2⟩:=old at' (gH hat);refine⟨yN,_,rfl,_,rfl,q,_,_,_,rfl,rfl,SqL.of (s14 _ _ er12),qS (KH (by rw[lR];exact h1)), ?_⟩;refine kF hx2 hm2 hy2 e14 ⟨jZ s14 n13,jG, ?_⟩;rw[y14,hW,mQ,hJ,hat,h2]
     rfl
    rintro ys H14 hy2 ⟨s14,e14,y14⟩;rw[kP,<-show((jY ns i st).map λa=>R.getD a 0).length=(jY ns i st).length from mP ..,mK]at y14;subst y14;have vlen:((jY ns i st).map λa=>R.getD a 0).length=m+1:=by rw[mP,lo]
    refine⟨_,rfl,_,rfl,_,rfl,l2,_,low,high,u,101,1300+i*700,rfl,e14,by omega,by omega,ub,jJ bl (by decide),jJ bh (by decide),λzz hz=>?_,by omega,by decide,λfl H15 n15 s15 e15=>?_⟩
    ·obtain⟨a',ha',rfl⟩:=nN.mp hz;exact O8.rb _ (old a' ha').1
    have b15:But q H11 H15:=b12.trans (But.of (s14.trans s15));have er15:=(s14.trans s15) _ _ er12;have ha15:=(s14.trans s15) _ _ ha12;have nfq:fl≠q:=λz=>by rw[z,s14 _ _ er12]at n15;cases n15
    have zl:(lnZ ((jY ns i st).map λa=>R.getD a 0) low high u).length=m+1:=by rw[HR,vlen]
    have stp:yM low high u Rj (jY ns i st)=vL Rj ((jY ns i st).zip (lnZ ((jY ns i st).map λa=>R.getD a 0) low high u)):=by unfold yM;rw[valO]
    generalize hz:(lnZ ((jY ns i st).map λa=>R.getD a 0) low high u)=zs at e15 zl stp;try dsimp only[jP]
    refine⟨_,rfl,_,rfl,a,fl,rfl,⟨_,SqL.of ha15⟩,⟨_,SqL.of e15⟩,SW (K:=K) (a:=a) (b:=fl) (xs:=qA (jY ns i st)) (ys:=zs.map V.int) (BcI _ H15 q Rj ((jY ns i st).zip zs)) (by rw[kP,mP,lo,zl]) (BcI.mk (σ:=[some (.ref p),some (.ref b),some (.ref sz),some (.ref tb),some (.ref q),some (.int bot),some (.int (i:Int)),some (.ref r),some (.int low),some (.int high),some (.int u),some (.ref a),v12,some (.ref fl),v14,u15]) (u12:=v12) (u14:=v14) (But.refl _ _) er15) (λt σ H16 _ h=>?_) (λt x y c σ H16 hx3 hy3 hc h=>?_) (fun σ H16 h=>?_)⟩
    ·cases h with
     | mk b16 _=>exact⟨SqL.of (b16 _ _ ha15 naq),SqL.of (b16 _ _ e15 nfq)⟩
    ·cases h with
     | @mk w12 w14 _ b16 er16=>
     obtain⟨at',hat,rfl⟩:=yA hx3;rw[hJ]at hy3;obtain⟨zv',hzv,rfl⟩:=Option.map_eq_some_iff.mp hy3;have s17:Same H16 (upd H16 c (.tup [.int (at':Int),.int zv'])):=kD _ hc;have e17:(upd H16 c (.tup [.int (at':Int),.int zv'])) c=some (.tup [.int (at':Int),.int zv']):=jG;generalize upd H16 c (.tup [.int (at':Int),.int zv'])=H17 at s17 e17;refine gT2 (SqT.of e17) rfl ?_;have la:at'<(vL Rj (((jY ns i st).zip zs).take t)).length:=by rw[xQ,lR];exact(old at' (gH hat)).1
     refine⟨_,rfl,_,rfl,_,rfl,q,_,_,at',rfl,rfl,s17 _ _ er16,HZ (by rw[mP];exact la), ?_⟩;have hzt:((jY ns i st).zip zs)[t]? = some (at',zv'):=by rw[List.getElem?_zip_eq_some];exact⟨hat,hzv⟩
     refine BcI.mk (u12:=some (.int (at':Int))) (u14:=some (.int zv')) ((b16.trans (But.of s17)).trans (But.upd _ _ _)) ?_;rw[jG,hW,hzt];show _=some (HO.lst ((vL Rj (_++[(at',zv')])).map V.int));rw[uN,List.map_set]
    ·cases h with
     | @mk w12 w14 _ b16 er16=>
     rw[kP,gA (by rw[List.length_zip];exact Nat.min_le_left ..),<-stp,<-nxt]at er16;exact BlI.mk (u11:=some (.ref a)) (u12:=w12) (u13:=some (.ref fl)) (u14:=w14) (b15.trans b16) er16
   ·cases h with
    | @mk v11 v12 v13 v14 _ b12 er12=>
    rw[ll,mK,<-ME]at er12;have ON:=UN O8 hm m4' he eo low high u hlu.symm vl vh bl bh er12;have esz12:=b12 _ _ (s11 _ _ esz10) nsq;have s012:Same H H12:=But.same s011 b12 nq0;have gm:atI (qA ns) (i:Int)=some (.int ((m+1:Nat):Int)):=qS (HP hm);have bB:=jJ O8.bb (show 1300+i*700<=20000 by omega);have fB:=jJ (wD (n:=m) (by omega)) (show 121<=20000 by decide);try dsimp only[jP]
    refine⟨_,rfl,_,rfl,_,rfl,sz,_,_,_,rfl,rfl,SqL.of esz12,gm,_,_,rfl,rfl,m,by show [V.int (((m+1:Nat):Int)-1)]=_;rw[show((m+1:Nat):Int)-1=(m:Int) by omega],by omega,_,_,rfl,rfl,⟨jJ bB (by decide),jJ fB (by decide)⟩, ?_⟩;try dsimp only[jP]
    refine⟨_,rfl,_,rfl,sz,_,_,_,rfl,rfl,SqL.of esz12,gm,_,_,rfl,rfl,(m:Int),by show [V.int (((m+1:Nat):Int)-1)]=_;rw[show((m+1:Nat):Int)-1=(m:Int) by omega],by omega,by omega, ?_⟩;rw[mG];refine qR (n:=m) (λt σ Hx=>Hx=H12/\∃w15,σ=[some (.ref p),some (.ref b),some (.ref sz),some (.ref tb),some (.ref q),some (.int (bot*LwB.fct m*u^t)),some (.int (i:Int)),some (.ref r),some (.int low),some (.int high),some (.int u),v11,v12,v13,v14,w15]) ⟨rfl,u15,by rw[Int.pow_zero,Int.mul_one];rfl⟩ (λt σ Hx ht h=>?_) (fun σ Hx h=>?_)
    ·obtain⟨rfl,w15,rfl⟩:=h;have pb:(bot*LwB.fct m*u^t).natAbs<2^20000:=by
      have h1:(u^t).natAbs<=2^(40*t):=by rw[Int.natAbs_pow,Nat.pow_mul];exact Nat.pow_le_pow_left lvb t
      exact jJ (kT (kT O8.bb (wD (n:=m) (by omega))) (show(u^t).natAbs<2^161 from gR h1 (gK (by decide) (by omega)))) (by omega)
     refine oVV rfl rfl ⟨jJ pb (by decide),jJ ub (by decide)⟩ ⟨rfl,some (.int (0+(t:Int))), ?_⟩;rw[Int.pow_succ,<-nI]
     rfl
    ·obtain⟨rfl,w15,rfl⟩:=h;exact .mk s012 esz12 ON
  ·cases h with
   | @mk R bot u6 u7 u8 u9 u10 u11 u12 u13 u14 u15 _ s8 esz O8=>
   rw[lb]at O8;refine⟨_,rfl,_,rfl,by show 2<=sizeLine;decide,λr H9 n9 s9 e9=>?_⟩;exact go r q R bot H9 (s8.free n9) nq0 (s8.trans s9) e9 (s9 _ _ O8.er) O8.hb O8.bs O8.rb O8.f
def NumH(H:Hp)(v:V)(r:Rat):Prop:=∃a,v=.ref a/\At2 H a r.num r.den
def NumsH(H:Hp)(xs:List V)(rs:List Rat):Prop:=Paired (NumH H) xs rs
theorem NumH.kp{H H':Hp}{v:V}{r:Rat}(h:NumH H v r)(k:Kp H H'):NumH H' v r:=let ⟨a,e,q⟩:=h;⟨a,e,k.tup _ _ q⟩
theorem NumsH.kp{H H':Hp}{xs:List V}{rs:List Rat}(h:NumsH H xs rs)(k:Kp H H'):NumsH H' xs rs:=Paired.to (λ_ _ y=>y.kp k) h
def ER(many:Nat)(L:Pl)(ks:List (List Int))(ends:List (Rat×Rat)):List Rat:=(LwB.plc (szT many ks)).map λp=>bzT ends (szT many ks) (cfN L) many p
def UI(K:tJ):Sp:=λvs H Q _=>∃(p b:Addr) (many:Nat) (z:Sz) (ts:List Trm) (bx:List V) (ends:List (Rat×Rat)),vs=[.ref p,.ref b]/\Poly H p many z ts/\z.S<=400/\z.v<=400/\ts.length<=63/\SqL K H b bx/\(∀H',Same H H'->SqL K H' b bx)/\Paired (EndV K H) bx ends/\(∀e∈ends,EndOk e)/\ends.length=many/\many<=4/\LwB.szP (szT many (ts.map Trm.ns))<=200/\(∀n∈szT many (ts.map Trm.ns),n<=5)/\
 ∀(l:Addr) (xs:List V) (H':Hp),H l=none->Same H H'->H' l=some (.lst xs)->NumsH H' xs (ER many (tl ts) (ts.map Trm.ns) ends)->(∀r∈ER many (tl ts) (ts.map Trm.ns) ends,r.den<=2^(400+many*165)/\r.num.natAbs<2^(1300+many*700))->Q (.ref l) H'
theorem ZY{H:Hp}{l:Addr}{ys zs:List V}{xs:List V}{rs:List Rat}(h:NumsH H xs rs)(e:H l=some (.lst ys)):NumsH (upd H l (.lst zs)) xs rs:=h.kp (Kp.upd e trivial)
theorem scBn:FnScope ["one","box","row","bottom"] ["one","box"] (jQ OB):=⟨rfl,rfl,rfl,by decide +kernel,rfl,by decide +kernel,by decide +kernel⟩
theorem ZS{fR fD:Addr}{fdR fdD:FuncData}(F:Fun K "box_numbers" "box_numbers" OB f fd)(T:Txt mg)(DR:Df K mg "box_row" zI ["one","box"] fR fdR)(GR:FnOk P w K mg base CX0 5 fR fdR ["one","box"] (wK K))(DD:Df K mg "divided" RK ["one","other"] fD fdD)(GD:FnOk P w K mg base CX0 3 fD fdD ["one","other"] (FZ K)):FnOk P w K mg base CX0 6 f fd ["one","box"] (UI K):=by
 refine F.ok scBn (λvs H Q E h=>?_) (λcdv A outer s H vs Q E hr h=>?_)
 ·obtain⟨p,b,many,z,ts,bx,ends,rfl,_⟩:=h
  rfl
 ·obtain⟨p,b,many,z,ts,bx,ends,rfl,hP,zS,zv,t63,hb,hbk,hE,hEo,el,m4,h200,h5,go⟩:=h;have hr3:Room 3 _:=hr.mono (by decide);refine⟨_,jB (kU (jH GR hr rfl DR.m DR.F.kp DR.b .nil jR (jA (pv 0) (jA (pv 1) jC))) (kJ rfl (jI (jF (i:=2) scBn.nd rfl (Or.inl rfl)) (jI (jF (i:=3) scBn.nd rfl (Or.inr rfl)) kC)))) (jE (jS (kX (own:=1) (idx:=[3]) (N:=["top","bottom"]) rfl rfl rfl (by decide +kernel) (by decide +kernel) (qW (by intro y hy;simp only[nF,mJ,or_false]at hy;rcases hy with rfl;rfl)) (qJ rfl) rfl (qU rfl ⟨rfl,rfl,rfl,rfl⟩) (kZ (pv 2)) (λC fp s2 H2=>(jF (i:=0) (show List.Nodup (["top","bottom"]:List Str) by decide +kernel) rfl (Or.inl rfl) (Or.inr rfl))) (λC fp s2 H2=>jH GD hr3 rfl DD.m DD.F.kp DD.b .nil jR (jA (jW (jA (pv 0) (jA jD jC))) (jA (jW (jA (pv 1) (jA jD jC))) jC)))))), ?_⟩;try dsimp only[cxK]
  refine⟨_,rfl,_,rfl,p,b,many,z,ts,bx,ends,rfl,hP,zS,zv,t63,hb,hbk,hE,hEo,el,m4,h200,h5,λr q R bot H1 n1 m1 s1 e1 g1 pb bb rb rf=>?_⟩;refine gT2 (SqT.of e1) rfl ?_;try dsimp only[jP]
  refine⟨_,rfl,q,rfl,⟨_,SqL.of g1⟩,λl H2 n2 s2 e2=>?_⟩;have lb:(ER many (tl ts) (ts.map Trm.ns) ends).length=R.length:=by
   unfold ER;rw[mP,LwB.plc_len,rf.1]
  have two:2<=sizeLine:=by decide
  have bb':bot.natAbs<2^1100:=gR bb (gK (by decide) (by omega));have val:∀a,a<R.length->∃x,(ER many (tl ts) (ts.map Trm.ns) ends)[a]? = some x/\x=fv (R.getD a 0) bot/\(R.getD a 0).natAbs<2^(1300+many*700):=λa ha=>by
   have hl:a<(LwB.plc (szT many (ts.map Trm.ns))).length:=by rw[LwB.plc_len,<-rf.1];exact ha
   have hp:=uW hl;refine⟨_,by unfold ER;rw[hJ,hp];rfl, ?_,rb a (by rw[<-rf.1];exact ha)⟩;have:=rf.2 _ _ hp;unfold fv;rw[this];have:=cne pb
   grind
  refine qX (K:=K) (a:=q) (xs:=R.map V.int) (λi ys H3=>Same H1 H3/\H3 l=some (.lst ys)/\NumsH H3 ys ((ER many (tl ts) (ts.map Trm.ns) ends).take i)) (by rw[mP,rf.1,sizeLine_eq];omega) ⟨s2,e2,.nil⟩ (λi ys H3 h=>⟨SqL.of (h.1 _ _ g1),h.2.1⟩) ?_ ?_
  ·rintro i m ys x H3 hx hm hyl ⟨s3,e3,y3⟩;rw[hJ]at hx;obtain⟨t,ht,rfl⟩:=Option.map_eq_some_iff.mp hx;have hi:i<R.length:=(uU.mp ht).1;have gd:R.getD i 0=t:=by rw[uR,ht];rfl
   obtain⟨xr,hxr,ex,bx'⟩:=val i hi;rw[gd]at ex bx';refine⟨yN,_,rfl,two,λa1 H4 n4 s4 e4=>⟨_,rfl,two,λa2 H5 n5 s5 e5=>?_⟩⟩;refine⟨a1,a2,t,1,bot,1,rfl,SqT.of (s5 _ _ e4),SqT.of e5,AN (jJ bx' (by omega)) (by decide),AN (jJ bb' (by decide)) (by decide),by omega,λc H6 n6 s6 e6=>?_⟩;rw[Int.mul_one,Int.one_mul]at e6;have s36:=s4.trans (s5.trans s6);have e6':=wE e6 pb ex.symm;refine kF (by rw[hJ,ht];rfl) hm hyl (s36 _ _ e3) ⟨jZ (s3.trans s36) n2,jG, ?_⟩;rw[hW,hxr];exact ZY (Paired.app (NumsH.kp y3 (Kp.of s36)) (.cons ⟨c,rfl,e6'⟩ .nil)) (s36 _ _ e3)
  ·rintro ys H3 hyl ⟨s3,e3,y3⟩;rw[mP,<-lb,mK]at y3;refine go l ys H3 (s1.free n2) (s1.trans s3) e3 y3 λr hr=>?_;obtain⟨a,ha⟩:=gF.mp hr;have hl:a<R.length:=by rw[<-lb];exact(uU.mp ha).1
   obtain⟨x,hx,ex,bx'⟩:=val a hl;rw[ha]at hx;cases hx;obtain⟨d1,d2⟩:=zQ pb ex;refine⟨nK ?_ bb,gR d2 bx'⟩;have:=Int.le_of_dvd pb d1;omega
theorem IT{t b:Int}{v v':Nat}(h:t.natAbs<=2^v*b.natAbs)(k:v<=v'):t.natAbs<=2^v'*b.natAbs:=nK h (gL _ (gJ (by decide) k))
theorem CN{a b c d x y:Nat}(h1:a<=2^x*b)(h2:c<=2^y*d):a*c<=2^(x+y)*(b*d):=by
 rw[tD]
 calc a*c<=2^x*b*(2^y*d):=mX h1 h2
  _=2^x*2^y*(b*d):=by grind
theorem LX:∀l:List Int,(∀n∈l,0<=n)->0<=l.sum
 | [],_=>by decide
 | b::l,h=>by rw[List.sum_cons];have:=h b (by simp);have:=LX l λn hn=>h n (by simp [hn]);omega
def AF(g:List Int->Rat)(P:Pl):Rat:=(P.map λy=>y.2*g y.1).sum
theorem RS(g:List Int->Rat)(y:List Int×Rat)(P:Pl):AF g (y::P)=y.2*g y.1+AF g P:=by unfold AF;rw[nC,List.sum_cons]
def pw:List Rat->List Int->Rat
 | s::S,n::ns=>s^n.toNat*pw S ns
 | _,_=>1
theorem HG:∀{S:List Rat} {ns:List Int} {j:Nat} {s:Rat} {n:Int},S[j]? = some s->ns[j]? = some n->pw (S.take (j+1)) (ns.take (j+1))=pw (S.take j) (ns.take j)*s^n.toNat
 | a::S,b::ns,0,s,n,h1,h2=>by
  cases (Option.some.inj h1);cases (Option.some.inj h2);show _*pw [] []=1*_;show _*1=1*_;rw[nZ,Rat.one_mul]
 | a::S,b::ns,j+1,s,n,h1,h2=>by
  show a^b.toNat*pw (S.take (j+1)) (ns.take (j+1))=a^b.toNat*pw (S.take j) (ns.take j)*s^n.toNat;rw[HG (j:=j) h1 h2,nG]
 | [],_,_,_,_,h1,_=>by simp at h1
 | _::_,[],_,_,_,_,h2=>by simp at h2
theorem uM{ns:List Int}(hn:∀n∈ns,0<=n)(j:Nat):0<=(ns.take j).sum/\(ns.take j).sum<=ns.sum:=by
 have h1:=LX (ns.take j) λn h=>hn n (gN h);have h2:=LX (ns.drop j) λn h=>hn n (List.mem_of_mem_drop h);have h3:ns.sum=(ns.take j).sum+(ns.drop j).sum:=by rw[<-List.sum_append,List.take_append_drop]
 omega
theorem NL{ns:List Int}{j:Nat}{n:Int}(h:ns[j]? = some n):(ns.take (j+1)).sum=(ns.take j).sum+n:=by
 rw[hW,h,List.sum_append];show _+(n+0)=_;omega
structure Sp2 where
 t:Int
 b:Int
def Sp2.v(s:Sp2):Rat:=fv s.t s.b
def SpV(H:Hp)(v:V)(s:Sp2):Prop:=∃a,v=.ref a/\At2 H a s.t s.b
theorem SpV.kp{H H':Hp}{v:V}{s:Sp2}(h:SpV H v s)(k:Kp H H'):SpV H' v s:=let ⟨a,e,q⟩:=h;⟨a,e,k.tup _ _ q⟩
structure SpB(S:List Sp2)(c x:Nat):Prop where
 p:∀s∈S,0<s.b
 d:∀s∈S,s.b.natAbs<=2^c
 n:∀s∈S,s.t.natAbs<=2^x*s.b.natAbs
def AtP(Ok:Hp->Addr->List V->Prop):Sp:=λvs H Q _=>∃(d sp:Addr) (many c x:Nat) (z:Sz) (E:List Ent) (us:List V) (S:List Sp2),vs=[.ref d,.ref sp]/\FQ H d many z E/\Ok H sp us/\Paired (SpV H) us S/\S.length=many/\SpB S c x/\z.D<=100/\z.S+z.n*(c*z.D)+(z.v+x*z.D+z.n)<=40000/\z.S+c*z.D<=7900/\(z.v+x*z.D)+(z.S+c*z.D)<=40000/\c+x<=20000/\
 ∀(r:Addr) (T B:Int) (H':Hp),H r=none->Same H H'->At2 H' r T B->0<B->B.natAbs<=2^(z.S+z.n*(c*z.D))->T.natAbs<=2^(z.v+x*z.D+z.n)*B.natAbs->fv T B=AF (pw (S.map Sp2.v)) (pl E)->Q (.ref r) H'
abbrev spAtT:Sp:=AtP λH sp us=>H sp=some (.tup us)
abbrev spAtL:Sp:=AtP λH sp us=>H sp=some (.lst us)
structure NB(H:Hp)(nr:Addr)(t u:Int)(k c v x g:Nat)(y:Rat):Prop where
 at':At2 H nr t u
 pos:0<u
 sb:u.natAbs<=2^(k+c*g)
 st:t.natAbs<=2^(v+x*g)*u.natAbs
 val:fv t u=y
inductive AtI(H H1:Hp)(d sp:Addr)(c x v:Nat)(E:List Ent)(S:List Rat)(i:Nat):L2.St->Hp->Prop where
 | mk {H':Hp} {tr:Addr} {T B:Int} {u3 u4 u5 u6 u7:Option V} (s:Same H1 H') (nw:H tr=none) (a:At2 H' tr T B) (pos:0<B) (sb:B.natAbs<=2^(((E.take i).map Ent.k).sum+i*c)) (st:T.natAbs<=2^(v+x+i)*B.natAbs) (val:fv T B=AF (pw S) (pl (E.take i))):AtI H H1 d sp c x v E S i [some (.ref d),some (.ref sp),some (.ref tr),u3,u4,u5,u6,u7] H'
inductive AtZ(H:Hp)(d sp tr b:Addr)(c x v:Nat)(e:Ent)(S:List Rat)(j:Nat):L2.St->Hp->Prop where
 | mk {H':Hp} {nr:Addr} {t u:Int} {u5 u6 u7:Option V} (s:Same H H') (nb:NB H' nr t u e.k c v x (e.ns.take j).sum.toNat (fv e.t e.b*pw (S.take j) (e.ns.take j))):AtZ H d sp tr b c x v e S j [some (.ref d),some (.ref sp),some (.ref tr),some (.ref b),some (.ref nr),u5,u6,u7] H'
inductive AtR(H:Hp)(d sp tr b:Addr)(n:Int)(cc:Addr)(c x v:Nat)(e:Ent)(g:Nat)(y s:Rat)(q:Nat):L2.St->Hp->Prop where
 | mk {H':Hp} {nr:Addr} {t u:Int} {u7:Option V} (s':Same H H') (nb:NB H' nr t u e.k c v x (g+q) (y*s^q)):AtR H d sp tr b n cc c x v e g y s q [some (.ref d),some (.ref sp),some (.ref tr),some (.ref b),some (.ref nr),some (.int n),some (.ref cc),u7] H'
theorem EW{g:List Int->Rat}{E:List Ent}{i:Nat}{e:Ent}(he:E[i]? = some e):AF g (pl (E.take (i+1)))=AF g (pl (E.take i))+fv e.t e.b*g e.ns:=by
 rw[YT he];unfold AF;rw[mQ,List.sum_append];show _+(_+0)=_;rw[nO]
 rfl
theorem vP{a b:Nat}(h:a<=b):2^a<=2^b:=gJ (by decide) h
theorem BC{a b:Nat}(h:a<b):2^a<2^b:=gK (by decide) h
theorem scAt:FnScope ["one","spot","total","powers","number","power","place","turn"] ["one","spot"] (jQ sAt):=⟨rfl,rfl,rfl,by decide +kernel,rfl,by decide +kernel,by decide +kernel⟩
theorem ok_atT{fP fM:Addr}{fdP fdM:FuncData}(F:Fun K "_law_at" "_law_at" sAt f fd)(T:Txt mg)(DP:Df K mg "_law_plus" wN ["one","other"] fP fdP)(GP:FnOk P w K mg base CX0 1 fP fdP ["one","other"] spPlus)(DM:Df K mg "_law_mul" CC ["one","other"] fM fdM)(GM:FnOk P w K mg base CX0 1 fM fdM ["one","other"] (BV K)):FnOk P w K mg base CX0 2 f fd ["one","spot"] spAtT:=by
 refine F.ok scAt (λvs H Q E h=>?_) (λcdv A outer s H vs Q E hr h=>?_)
 ·obtain⟨d,sp,many,c,x,z,E',us,S,rfl,_⟩:=h
  rfl
 ·obtain⟨d,sp,many,c,x,z,EE,us,S,rfl,fq,hsp,pS,lS,sB,zD,big,big2,big4,big3,go⟩:=h;have hu:_+1<cLine:=gR (Nat.add_le_add_left (by decide:1<=64) _) hr.units;refine⟨_,jB (jN (i:=2) scAt.nd rfl (Or.inl rfl) (jW (jA jD (jA jD jC)))) (jB (kO PassesOwn.never rfl (LwD.BD (pv 0)) (jF (i:=3) scAt.nd rfl (Or.inl rfl)) (jB (jN (i:=4) scAt.nd rfl (Or.inl rfl) (xZ hu (pv 0) (pv 3) (λ_ _=>rfl))) (jB (kO PassesOwn.never rfl (OF (by rfl) T.zip (jA (pv 3) (jA (pv 1) jC))) (kJ rfl (jI (jF (i:=5) scAt.nd rfl (Or.inl rfl)) (jI (jF (i:=6) scAt.nd rfl (Or.inl rfl)) kC))) (jE (kO PassesOwn.never rfl (kQ (by rfl) T.rng (jA (pv 5) jC)) (jF (i:=7) scAt.nd rfl (Or.inl rfl)) (jE (jN (i:=4) scAt.nd rfl (Or.inl rfl) (jH GM hr rfl DM.m DM.F.kp DM.b .nil jR (jA (pv 4) (jA (pv 6) jC)))))))) (jE (jN (i:=2) scAt.nd rfl (Or.inl rfl) (jH GP hr rfl DP.m DP.F.kp DP.b .nil jR (jA (pv 2) (jA (pv 4) jC)))))))) (jE (jS (pv 2)))), ?_⟩;try dsimp only[cxK]
  refine⟨uQ,λz0 H1 n1 s1 e1=>?_⟩;have lu:us.length=S.length:=Paired.length pS;obtain⟨o2,f2⟩:=(fq.kp (Kp.of s1)).fr;refine⟨_,rfl,d,o2,_,rfl,f2,BH EE,λks hks=>?_⟩;refine uH hks (AtI H H1 d sp (c*z.D) (x*z.D) z.v EE (S.map Sp2.v)) (.mk (Same.refl _) n1 e1 (by decide) (by show(1:Nat)<=2^(0+0*(c*z.D));rw[Nat.zero_mul];decide) (nX _) PZ) (λi σ H2 h=>?_) (λi e b σ H2 he eM hb h=>?_) (fun σ H2 h=>?_)
  ·obtain⟨s2,_⟩:=h;exact⟨s2 _ _ f2,Kp.of s2⟩
  ·obtain⟨s2,nw,a2,pB,bB,bT,vT⟩:=h;rename_i tr T0 B0 u3 u4 u5 u6 u7;have s12:=s1.trans s2;have fq2:=fq.kp (Kp.of s12);have eo:=fq2.db.each e eM;have ek:=fq.db.k eM;have ss:=BI he;have sl:=nK (PH EE (i+1)) fq.db.sum;have hi:i<EE.length:=(uU.mp he).1;have few:=fq.db.few;have ic:(i+1)*(c*z.D)<=z.n*(c*z.D):=gL _ (by omega);rw[nQ]at ic;refine⟨_,rfl,_,rfl,d,_,rfl,fq2.get eM hb, ?_⟩;refine⟨_,rfl,_,rfl,b,sp,rfl,⟨_,SqT.of hb⟩,⟨us,SqT.of (s12 _ _ hsp)⟩, ?_⟩;have ly:(e.ns.map V.int).length=us.length:=by rw[mP,eo.len,lu,lS]
   refine XE (K:=K) (a:=b) (b:=sp) (xs:=e.ns.map V.int) (ys:=us) (AtZ H2 d sp tr b c x z.v e (S.map Sp2.v)) ly (.mk (Same.refl _) ⟨eo.at',eo.pos,by show _<=2^(e.k+c*0);rw[Nat.mul_zero];exact eo.sb,by show _<=2^(z.v+x*0)*_;rw[Nat.mul_zero];exact eo.st,by show _=_*1;rw[nZ]⟩) (λj σ H3 _ h=>?_) (λj xv yv pr σ H3 hxj hyj hpr h=>?_) (fun σ H3 h=>?_)
   ·obtain⟨s3,_⟩:=h;exact⟨SqT.of (s3 _ _ hb),SqT.of ((s12.trans s3) _ _ hsp)⟩
   ·obtain⟨s3,nb⟩:=h;rename_i nr t u v5 v6 v7;rw[hJ]at hxj;obtain⟨n,hn,rfl⟩:=Option.map_eq_some_iff.mp hxj;obtain⟨sv,hsv,cc,rfl,atc⟩:=Paired.at pS hyj;have n0:=eo.nn n (gH hn);obtain⟨nn,rfl⟩:=uX n0;have c0:=uM eo.nn j;have c1:=uM eo.nn (j+1);have cs:=NL hn;have dg:=eo.deg;have s4:Same H3 (upd H3 pr (.tup [.int (nn:Int),.ref cc])):=kD _ hpr;have at4:(upd H3 pr (.tup [.int (nn:Int),.ref cc])) pr=some (.tup [.int (nn:Int),.ref cc]):=jG;generalize upd H3 pr (.tup [.int (nn:Int),.ref cc])=H4 at s4 at4;have s24:=s3.trans s4;have sm:=gH hsv;have sp':=sB.p sv sm;have sd:=sB.d sv sm;have sn:=sB.n sv sm;have nb5:sv.b.natAbs<2^50000:=gR sd (BC (by omega));have nn5:sv.t.natAbs<2^50000:=by
     refine gR (nK sn (gQ _ sd)) ?_;rw[<-tD];exact BC (by omega)
    have hsv':(S.map Sp2.v)[j]? = some sv.v:=by rw[hJ,hsv];rfl
    generalize hg:(e.ns.take j).sum=cj at c0 cs nb;refine⟨pr,_,rfl,SqT.of at4,rfl,_,_,rfl,_,_,rfl,rfl, ?_⟩;refine⟨_,rfl,nn,rfl,by omega,by omega, ?_⟩;refine qR (n:=nn) (AtR H4 d sp tr b (nn:Int) cc c x z.v e cj.toNat (fv e.t e.b*pw ((S.map Sp2.v).take j) (e.ns.take j)) sv.v) (.mk (Same.refl _) ⟨s4 _ _ nb.at',nb.pos,nb.sb,nb.st,by rw[nb.val,Rat.pow_zero,nZ]⟩) (λq σ H5 hq h=>?_) (fun σ H5 h=>?_)
    ·obtain⟨s5,nb5'⟩:=h;rename_i nr2 t2 u2 w7;have gq:cj.toNat+q<=z.D:=by omega
     have b1:=nb5'.sb;have b2:=nb5'.st;have g1:=gQ c gq;have g2:=gQ x gq;refine⟨_,rfl,_,rfl,nr2,cc,t2,u2,sv.t,sv.b,rfl,SqT.of nb5'.at',SqT.of ((s12.trans (s24.trans s5)) _ _ atc),vN b2 b1 (by omega),vI b1 (by omega),nn5,nb5,λr H6 n6 s6 e6=>?_⟩;refine .mk (s5.trans s6) ⟨e6,nY nb5'.pos sp', ?_, ?_, ?_⟩
     ·rw[<-Nat.add_assoc,Nat.mul_succ,<-Nat.add_assoc,mV,tD];exact mX b1 sd
     ·rw[<-Nat.add_assoc,Nat.mul_succ,<-Nat.add_assoc,mV,mV];exact CN b2 sn
     ·rw[IE nb5'.pos sp',nb5'.val,Rat.pow_succ,nG]
      rfl
    ·obtain⟨s5,nb5'⟩:=h;have ec:(e.ns.take (j+1)).sum.toNat=cj.toNat+nn:=by omega
     refine .mk (s24.trans s5) (t:=_) (u:=_) (by
      rw[ec,HG hsv' hn,mG,<-nG];exact nb5')
   ·obtain⟨s3,nb⟩:=h;rename_i nr t u v5 v6 v7;rw[mP]at nb;have c0:=uM eo.nn e.ns.length;rw[mK]at nb c0;rw[show(S.map Sp2.v).take e.ns.length=S.map Sp2.v by rw[eo.len,<-lS,<-mP (f:=Sp2.v)];exact mK]at nb;have dg:=eo.deg;have g1:e.ns.sum.toNat<=z.D:=by omega
    have b1:u.natAbs<=2^(e.k+c*z.D):=nK nb.sb (vP (by have:=gQ c g1;omega));have b2:t.natAbs<=2^(z.v+x*z.D)*u.natAbs:=nK nb.st (gL _ (vP (by have:=gQ x g1;omega)));refine⟨_,rfl,_,rfl,tr,nr,T0,B0,t,u,rfl,s3 _ _ a2,nb.at',pB,nb.pos,vN bT bB (by omega),vI bB (by omega),vN b2 b1 (by omega),vI b1 (by omega),λr T' B' H4 n4 s4 e4 pB' lB' eq=>?_⟩;refine .mk (s2.trans (s3.trans s4)) ((s12.trans s3).free n4) e4 pB' ?_ ?_ ?_
    ·refine nK lB' (nK (mX bB b1) ?_);rw[<-tD];exact vP (by rw[ss,nQ];omega)
    ·exact AE pB nb.pos eq bT (IT b2 (Nat.le_add_right ..))
    ·rw[zN pB nb.pos pB' eq,vT,EW he,nb.val]
  ·obtain⟨s2,nw,a2,pB,bB,bT,vT⟩:=h;rw[mK]at bB vT;have few:=fq.db.few;have sm:=fq.db.sum;have lc:=gL (c*z.D) few;refine⟨_,rfl,go _ _ _ H2 nw (s1.trans s2) a2 pB (nK bB (vP (by omega))) (nK bT (gL _ (vP (by omega)))) vT⟩
theorem ok_atL{fP fM:Addr}{fdP fdM:FuncData}(F:Fun K "_law_at" "_law_at" sAt f fd)(T:Txt mg)(DP:Df K mg "_law_plus" wN ["one","other"] fP fdP)(GP:FnOk P w K mg base CX0 1 fP fdP ["one","other"] spPlus)(DM:Df K mg "_law_mul" CC ["one","other"] fM fdM)(GM:FnOk P w K mg base CX0 1 fM fdM ["one","other"] (BV K)):FnOk P w K mg base CX0 2 f fd ["one","spot"] spAtL:=by
 refine F.ok scAt (λvs H Q E h=>?_) (λcdv A outer s H vs Q E hr h=>?_)
 ·obtain⟨d,sp,many,c,x,z,E',us,S,rfl,_⟩:=h
  rfl
 ·obtain⟨d,sp,many,c,x,z,EE,us,S,rfl,fq,hsp,pS,lS,sB,zD,big,big2,big4,big3,go⟩:=h;have hu:_+1<cLine:=gR (Nat.add_le_add_left (by decide:1<=64) _) hr.units;refine⟨_,jB (jN (i:=2) scAt.nd rfl (Or.inl rfl) (jW (jA jD (jA jD jC)))) (jB (kO PassesOwn.never rfl (LwD.BD (pv 0)) (jF (i:=3) scAt.nd rfl (Or.inl rfl)) (jB (jN (i:=4) scAt.nd rfl (Or.inl rfl) (xZ hu (pv 0) (pv 3) (λ_ _=>rfl))) (jB (kO PassesOwn.never rfl (YW (by rfl) T.zip (jA (pv 3) (jA (pv 1) jC))) (kJ rfl (jI (jF (i:=5) scAt.nd rfl (Or.inl rfl)) (jI (jF (i:=6) scAt.nd rfl (Or.inl rfl)) kC))) (jE (kO PassesOwn.never rfl (kQ (by rfl) T.rng (jA (pv 5) jC)) (jF (i:=7) scAt.nd rfl (Or.inl rfl)) (jE (jN (i:=4) scAt.nd rfl (Or.inl rfl) (jH GM hr rfl DM.m DM.F.kp DM.b .nil jR (jA (pv 4) (jA (pv 6) jC)))))))) (jE (jN (i:=2) scAt.nd rfl (Or.inl rfl) (jH GP hr rfl DP.m DP.F.kp DP.b .nil jR (jA (pv 2) (jA (pv 4) jC)))))))) (jE (jS (pv 2)))), ?_⟩;try dsimp only[cxK]
  refine⟨uQ,λz0 H1 n1 s1 e1=>?_⟩;have lu:us.length=S.length:=Paired.length pS;obtain⟨o2,f2⟩:=(fq.kp (Kp.of s1)).fr;refine⟨_,rfl,d,o2,_,rfl,f2,BH EE,λks hks=>?_⟩;refine uH hks (AtI H H1 d sp (c*z.D) (x*z.D) z.v EE (S.map Sp2.v)) (.mk (Same.refl _) n1 e1 (by decide) (by show(1:Nat)<=2^(0+0*(c*z.D));rw[Nat.zero_mul];decide) (nX _) PZ) (λi σ H2 h=>?_) (λi e b σ H2 he eM hb h=>?_) (fun σ H2 h=>?_)
  ·obtain⟨s2,_⟩:=h;exact⟨s2 _ _ f2,Kp.of s2⟩
  ·obtain⟨s2,nw,a2,pB,bB,bT,vT⟩:=h;rename_i tr T0 B0 u3 u4 u5 u6 u7;have s12:=s1.trans s2;have fq2:=fq.kp (Kp.of s12);have eo:=fq2.db.each e eM;have ek:=fq.db.k eM;have ss:=BI he;have sl:=nK (PH EE (i+1)) fq.db.sum;have hi:i<EE.length:=(uU.mp he).1;have few:=fq.db.few;have ic:(i+1)*(c*z.D)<=z.n*(c*z.D):=gL _ (by omega);rw[nQ]at ic;refine⟨_,rfl,_,rfl,d,_,rfl,fq2.get eM hb, ?_⟩;refine⟨_,rfl,_,rfl,b,sp,rfl,⟨_,SqT.of hb⟩,⟨us,SqL.of (s12 _ _ hsp)⟩, ?_⟩;have ly:(e.ns.map V.int).length=us.length:=by rw[mP,eo.len,lu,lS]
   refine XD (K:=K) (a:=b) (b:=sp) (xs:=e.ns.map V.int) (ys:=us) (AtZ H2 d sp tr b c x z.v e (S.map Sp2.v)) ly (.mk (Same.refl _) ⟨eo.at',eo.pos,by show _<=2^(e.k+c*0);rw[Nat.mul_zero];exact eo.sb,by show _<=2^(z.v+x*0)*_;rw[Nat.mul_zero];exact eo.st,by show _=_*1;rw[nZ]⟩) (λj σ H3 _ h=>?_) (λj xv yv pr σ H3 hxj hyj hpr h=>?_) (fun σ H3 h=>?_)
   ·obtain⟨s3,_⟩:=h;exact⟨SqT.of (s3 _ _ hb),SqL.of ((s12.trans s3) _ _ hsp)⟩
   ·obtain⟨s3,nb⟩:=h;rename_i nr t u v5 v6 v7;rw[hJ]at hxj;obtain⟨n,hn,rfl⟩:=Option.map_eq_some_iff.mp hxj;obtain⟨sv,hsv,cc,rfl,atc⟩:=Paired.at pS hyj;have n0:=eo.nn n (gH hn);obtain⟨nn,rfl⟩:=uX n0;have c0:=uM eo.nn j;have c1:=uM eo.nn (j+1);have cs:=NL hn;have dg:=eo.deg;have s4:Same H3 (upd H3 pr (.tup [.int (nn:Int),.ref cc])):=kD _ hpr;have at4:(upd H3 pr (.tup [.int (nn:Int),.ref cc])) pr=some (.tup [.int (nn:Int),.ref cc]):=jG;generalize upd H3 pr (.tup [.int (nn:Int),.ref cc])=H4 at s4 at4;have s24:=s3.trans s4;have sm:=gH hsv;have sp':=sB.p sv sm;have sd:=sB.d sv sm;have sn:=sB.n sv sm;have nb5:sv.b.natAbs<2^50000:=gR sd (BC (by omega));have nn5:sv.t.natAbs<2^50000:=by
     refine gR (nK sn (gQ _ sd)) ?_;rw[<-tD];exact BC (by omega)
    have hsv':(S.map Sp2.v)[j]? = some sv.v:=by rw[hJ,hsv];rfl
    generalize hg:(e.ns.take j).sum=cj at c0 cs nb;refine⟨pr,_,rfl,SqT.of at4,rfl,_,_,rfl,_,_,rfl,rfl, ?_⟩;refine⟨_,rfl,nn,rfl,by omega,by omega, ?_⟩;refine qR (n:=nn) (AtR H4 d sp tr b (nn:Int) cc c x z.v e cj.toNat (fv e.t e.b*pw ((S.map Sp2.v).take j) (e.ns.take j)) sv.v) (.mk (Same.refl _) ⟨s4 _ _ nb.at',nb.pos,nb.sb,nb.st,by rw[nb.val,Rat.pow_zero,nZ]⟩) (λq σ H5 hq h=>?_) (fun σ H5 h=>?_)
    ·obtain⟨s5,nb5'⟩:=h;rename_i nr2 t2 u2 w7;have gq:cj.toNat+q<=z.D:=by omega
     have b1:=nb5'.sb;have b2:=nb5'.st;have g1:=gQ c gq;have g2:=gQ x gq;refine⟨_,rfl,_,rfl,nr2,cc,t2,u2,sv.t,sv.b,rfl,SqT.of nb5'.at',SqT.of ((s12.trans (s24.trans s5)) _ _ atc),vN b2 b1 (by omega),vI b1 (by omega),nn5,nb5,λr H6 n6 s6 e6=>?_⟩;refine .mk (s5.trans s6) ⟨e6,nY nb5'.pos sp', ?_, ?_, ?_⟩
     ·rw[<-Nat.add_assoc,Nat.mul_succ,<-Nat.add_assoc,mV,tD];exact mX b1 sd
     ·rw[<-Nat.add_assoc,Nat.mul_succ,<-Nat.add_assoc,mV,mV];exact CN b2 sn
     ·rw[IE nb5'.pos sp',nb5'.val,Rat.pow_succ,nG]
      rfl
    ·obtain⟨s5,nb5'⟩:=h;have ec:(e.ns.take (j+1)).sum.toNat=cj.toNat+nn:=by omega
     refine .mk (s24.trans s5) (t:=_) (u:=_) (by
      rw[ec,HG hsv' hn,mG,<-nG];exact nb5')
   ·obtain⟨s3,nb⟩:=h;rename_i nr t u v5 v6 v7;rw[mP]at nb;have c0:=uM eo.nn e.ns.length;rw[mK]at nb c0;rw[show(S.map Sp2.v).take e.ns.length=S.map Sp2.v by rw[eo.len,<-lS,<-mP (f:=Sp2.v)];exact mK]at nb;have dg:=eo.deg;have g1:e.ns.sum.toNat<=z.D:=by omega
    have b1:u.natAbs<=2^(e.k+c*z.D):=nK nb.sb (vP (by have:=gQ c g1;omega));have b2:t.natAbs<=2^(z.v+x*z.D)*u.natAbs:=nK nb.st (gL _ (vP (by have:=gQ x g1;omega)));refine⟨_,rfl,_,rfl,tr,nr,T0,B0,t,u,rfl,s3 _ _ a2,nb.at',pB,nb.pos,vN bT bB (by omega),vI bB (by omega),vN b2 b1 (by omega),vI b1 (by omega),λr T' B' H4 n4 s4 e4 pB' lB' eq=>?_⟩;refine .mk (s2.trans (s3.trans s4)) ((s12.trans s3).free n4) e4 pB' ?_ ?_ ?_
    ·refine nK lB' (nK (mX bB b1) ?_);rw[<-tD];exact vP (by rw[ss,nQ];omega)
    ·exact AE pB nb.pos eq bT (IT b2 (Nat.le_add_right ..))
    ·rw[zN pB nb.pos pB' eq,vT,EW he,nb.val]
  ·obtain⟨s2,nw,a2,pB,bB,bT,vT⟩:=h;rw[mK]at bB vT;have few:=fq.db.few;have sm:=fq.db.sum;have lc:=gL (c*z.D) few;refine⟨_,rfl,go _ _ _ H2 nw (s1.trans s2) a2 pB (nK bB (vP (by omega))) (nK bT (gL _ (vP (by omega)))) vT⟩
theorem Tape.ne{cl:Addr}{H:Hp}{tp:Addr}{B:Int}(T:Tape cl H tp B){d:Addr}{o:HO}(e:H d=some o)(ho:∀xs,o≠.lst xs):d≠tp/\d≠cl:=by
 obtain⟨ns,spot,rest,left,h1,h2,_⟩:=T;refine⟨λz=>?_,λz=>?_⟩
 ·rw[z,h1]at e;cases e;exact ho _ rfl
 ·rw[z,h2]at e;cases e;exact ho _ rfl
theorem Tape.off{cl:Addr}{H:Hp}{tp:Addr}{B:Int}(T:Tape cl H tp B){d:Addr}(e:H d=none):d≠tp/\d≠cl:=by
 obtain⟨ns,spot,rest,left,h1,h2,_⟩:=T;refine⟨λz=>?_,λz=>?_⟩
 ·rw[z,h1]at e;cases e
 ·rw[z,h2]at e;cases e
theorem Tape.upd{cl:Addr}{H:Hp}{tp:Addr}{B B':Int}(T:Tape cl H tp B){l:Addr}(o:HO)(h1:l≠tp)(h2:l≠cl)(hB:B<=B'):Tape cl (upd H l o) tp B':=by
 obtain⟨ns,spot,rest,left,e1,e2,e3,e4,e5⟩:=T;exact⟨ns,spot,rest,left,by rw[jM (Ne.symm h1)];exact e1,by rw[jM (Ne.symm h2)];exact e2,e3,e4,by omega⟩
theorem uK{p l:Addr}{H H':Hp}{o:HO}(b:But p H H')(n:H l=none):But p H (upd H' l o):=λc u h hc=>by
 rw[jM (kL h n)];exact b c u h hc
theorem Tape.aside{cl:Addr}{H H':Hp}{tp d:Addr}{B:Int}(T:Tape cl H tp B)(b:But d H H')(h1:d≠tp)(h2:d≠cl):Tape cl H' tp B:=by
 obtain⟨ns,spot,rest,left,e1,e2,e3⟩:=T;exact⟨ns,spot,rest,left,b _ _ e1 (Ne.symm h1),b _ _ e2 (Ne.symm h2),e3⟩
structure Nb(x:Rat):Prop where
 d:x.den<=9
 n:x.num.natAbs<=6
def spNb:Sp:=λvs H Q _=>∃(tp:Addr) (B:Int),vs=[.ref tp]/\∃cl,Tape cl H tp B/\B<2^39/\
 ∀(r:Addr) (x:Rat) (H':Hp),Nb x->At2 H' r x.num x.den->Tape cl H' tp (B+3)->But tp H H'->Q (.ref r) H'
def spMore:Sp:=λvs H Q _=>∃(p q:Addr) (x y:Rat),vs=[.ref p,.ref q]/\At2 H p x.num x.den/\At2 H q y.num y.den/\SzR 3900 x/\SzR 3900 y/\
 ∀(r:Addr) (H':Hp),H r=none->Same H H'->At2 H' r (x+y).num (x+y).den->Q (.ref r) H'
theorem scNb:FnScope ["tape","top"] ["tape"] (jQ wP):=⟨rfl,rfl,rfl,by decide +kernel,rfl,by decide +kernel,by decide +kernel⟩
theorem ok_nb{fD fL:Addr}{fdD fdL:FuncData}(F:Fun K "_law_number" "_law_number" wP f fd)(T:Txt mg)(DD:Df K mg "_law_draw" wQ ["tape","many"] fD fdD)(GD:FnOk P w K mg base CX0 1 fD fdD ["tape","many"] spDraw)(DL:Df K mg "_law_low" EH ["top","bottom"] fL fdL)(GL:FnOk P w K mg base CX0 1 fL fdL ["top","bottom"] spLow):FnOk P w K mg base CX0 2 f fd ["tape"] spNb:=by
 refine F.ok scNb (λvs H Q E h=>?_) (λcdv A outer s H vs Q E hr h=>?_)
 ·obtain⟨tp,B,rfl,_⟩:=h
  rfl
 ·obtain⟨tp,B,rfl,cl,hT,hB,go⟩:=h;refine⟨_,jB (jN (i:=1) scNb.nd rfl (Or.inl rfl) (jK qL (jH GD hr rfl DD.m DD.F.kp DD.b .nil jR (jA (pv 0) (jA jD jC))) jD)) (jB (kN (jU zV (jH GD hr rfl DD.m DD.F.kp DD.b .nil jR (jA (pv 0) (jA jD jC))) jD (jX _)) (jE (jS (jW (jA (pv 1) (jA jD jC))))) kA) (jE (jS (jH GL hr rfl DL.m DL.F.kp DL.b .nil jR (jA (pv 1) (jA (jK kW jD (jH GD hr rfl DD.m DD.F.kp DD.b .nil jR (jA (pv 0) (jA jD jC)))) jC)))))), ?_⟩;try dsimp only[cxK]
  have p39:(2:Int)^39+10<2^40:=by decide
  refine zW rfl hT (by omega) (by decide) (by decide) λt H1 t0 t1 T1 b1=>⟨_,_,rfl,rfl, ?_⟩;try dsimp only[jP]
  refine zW rfl T1 (by omega) (by decide) (by decide) λc H2 c0 c1 T2 b2=>⟨_,_,rfl,rfl,_,rfl,AV (λ_=>?_) (λ_=>?_)⟩
  ·refine⟨_,rfl,uQ,λr H3 n3 s3 e3=>?_⟩;have i1:=int_num (t-6);refine go r ((t-6:Int):Rat) H3 ⟨by have:=i1.2;omega,by rw[i1.1];omega⟩ (by unfold At2;rw[i1.1,i1.2];exact e3) (T2.mono s3 (by omega)) ((b1.trans b2).trans (But.of s3))
  ·refine⟨_,rfl, ?_⟩;refine zW rfl T2 (by omega) (by decide) (by decide) λd H3 d0 d1 T3 b3=>⟨_,_,rfl,rfl,t-6,1+d,rfl,by omega,.inl ?_,λr H4 n4 s4 e4=>?_⟩
   ·exact gU (show(1+d).natAbs<2^4 by omega) (gJ (by decide) (by decide))
   ·have bp:0<1+d:=by omega
    obtain⟨g1,g2⟩:=zQ (x:=fv (t-6) (1+d)) bp rfl;have:=Int.le_of_dvd bp g1;exact go r (fv (t-6) (1+d)) H4 ⟨by omega,by omega⟩ (wE e4 bp rfl) (T3.mono s4 (by omega)) (((b1.trans b2).trans b3).trans (But.of s4))
theorem scMr:FnScope ["one","other","some"] ["one","other"] (jQ NW):=⟨rfl,rfl,rfl,by decide +kernel,rfl,by decide +kernel,by decide +kernel⟩
theorem ZI{fP fL:Addr}{fdP fdL:FuncData}(F:Fun K "_law_more" "_law_more" NW f fd)(T:Txt mg)(DP:Df K mg "_law_plus" wN ["one","other"] fP fdP)(GP:FnOk P w K mg base CX0 1 fP fdP ["one","other"] spPlus)(DL:Df K mg "_law_low" EH ["top","bottom"] fL fdL)(GL:FnOk P w K mg base CX0 1 fL fdL ["top","bottom"] spLow):FnOk P w K mg base CX0 2 f fd ["one","other"] spMore:=by
 refine F.ok scMr (λvs H Q E h=>?_) (λcdv A outer s H vs Q E hr h=>?_)
 ·obtain⟨p,q,x,y,rfl,_⟩:=h
  rfl
 ·obtain⟨p,q,x,y,rfl,hp,hq,zx,zy,go⟩:=h;refine⟨_,jB (jN (i:=2) scMr.nd rfl (Or.inl rfl) (jH GP hr rfl DP.m DP.F.kp DP.b .nil jR (jA (pv 0) (jA (pv 1) jC)))) (jE (jS (jH GL hr rfl DL.m DL.F.kp DL.b .nil jR (jA (jT jV (pv 2) jD (λ_ _=>rfl)) (jA (jT jV (pv 2) jD (λ_ _=>rfl)) jC))))), ?_⟩;try dsimp only[cxK]
  have px:=x.den_pos;have py:=y.den_pos;have bx:((x.den:Int)).natAbs<2^3900:=by rw[gX];exact zx.2
  have by':((y.den:Int)).natAbs<2^3900:=by rw[gX];exact zy.2
  refine⟨_,rfl,_,rfl,p,q,x.num,x.den,y.num,y.den,rfl,hp,hq,by omega,by omega,jJ zx.1 (by decide),jJ bx (by decide),jJ zy.1 (by decide),jJ by' (by decide),λr t b H1 n1 s1 e1 pb lb eq=>?_⟩;try dsimp only[jP]
  refine rvT rfl (SqT.of e1) rfl (rvT rfl (SqT.of e1) rfl ⟨t,b,rfl,by omega,.inl ?_,λr2 H2 n2 s2 e2=>?_⟩)
  ·have:=kT bx by';rw[mV]at this;exact gR lb (gU this (gJ (by decide) (by decide)))
  ·refine go r2 H2 (s1.free n2) (s1.trans s2) (wE e2 pb ?_);rw[zN (by omega) (by omega) pb eq,qH,qH]
theorem UQ{H:Hp}{many:Nat}{z:Sz}{E E':List Ent}{ns:List Int}{x:Rat}(db:DB H many z E')(c:∀m,cf (pl E') m=cf (pl E) m+if ns=m then x else 0){e:Ent}(he:e∈E'):e.ns∈E.map Ent.ns∨e.ns=ns:=by
 have k:=db.each e he;have v:=db.cf he;by_cases h:ns=e.ns
 ·exact .inr h.symm
 ·left
  have:=c e.ns;rw[tH h,nO,v]at this;have nz:cf (pl E) e.ns≠0:=λz=>by
   rw[z]at this;have hb:=cne k.pos;have ht:((e.t:Int):Rat)=0:=by grind
   exact k.nz (by simpa using ht)
  have:=cf_in nz
  rwa [wV]at this
def KyB(M:Nat)(E:List Ent):Prop:=∀e∈E,∀n∈e.ns,n<=(M:Int)
theorem KyB.put{H:Hp}{many M:Nat}{z:Sz}{E E':List Ent}{ns:List Int}{x:Rat}(k:KyB M E)(db:DB H many z E')(c:∀m,cf (pl E') m=cf (pl E) m+if ns=m then x else 0)(h:∀n∈ns,n<=(M:Int)):KyB M E':=λe he n hn=>by
 rcases UQ db c he with h1 | h1
 ·obtain⟨y,hy,e2⟩:=nN.mp h1;exact k y hy n (by rw[e2];exact hn)
 ·rw[h1]at hn;exact h n hn
theorem UD:∀(l:List Int) (M:Nat),(∀n∈l,n<=(M:Int))->l.sum<=((l.length*M:Nat):Int)
 | [],M,_=>by simp
 | a::l,M,h=>by
  rw[List.sum_cons,mL,nQ];have h1:=h a (gY ..);have h2:=UD l M λn hn=>h n (gI _ hn);omega
def spMany:Sp:=λvs H Q _=>∃(tp:Addr) (many most:Nat) (B:Int),vs=[.ref tp,.int many,.int most]/\1<=many/\many<=3/\most<=4/\many*most<=6/\∃cl,Tape cl H tp B/\B<2^31/\
 ∀(d:Addr) (E:List Ent) (H':Hp),H d=none->But tp H H'->Tape cl H' tp (B+40)->H' d=some (.dT (E.map Ent.kv))->DB H' many ⟨many*most,8,20,5⟩ E->KyB most E->Q (.ref d) H'
inductive MnI(H:Hp)(cl tp d:Addr)(many most:Nat)(B:Int)(i:Nat):L2.St->Hp->Prop where
 | mk {u v:Option V} {H':Hp} {E:List Ent} (b:But tp H H') (T:Tape cl H' tp (B+1+7*i)) (e:H' d=some (.dT (E.map Ent.kv))) (db:DB H' many ⟨many*most,3+i,4*i,i⟩ E) (ky:KyB most E):MnI H cl tp d many most B i [some (.ref tp),some (.int (many:Int)),some (.int (most:Int)),some (.ref d),u,v] H'
structure MpI(H:Hp)(cl tp q:Addr)(most:Nat)(B:Int)(i:Nat)(ys:List V)(H2:Hp):Prop where
 b:But tp H H2
 T:Tape cl H2 tp (B+i)
 e:H2 q=some (.lst ys)
 y:∃ns:List Int,ys=ns.map V.int/\ns.length=i/\∀n∈ns,0<=n/\n<=(most:Int)
theorem scMn:FnScope ["tape","many","most","found","k","powers"] ["tape","many","most"] (jQ NX):=⟨rfl,rfl,rfl,by decide +kernel,rfl,by decide +kernel,by decide +kernel⟩
theorem dDrawE{tp:Addr}{many B:Int}{cl:Addr}{H:Hp}{Q:VK}{σ:L2.St}{a:Nat}{tm:TE}(e:σ[a]? = some (some (.ref tp)))(hm:∀R:VK,R (.int many) H->tm σ H R)(hT:Tape cl H tp B)(h1:B<2^40)(h2:0<many)(h3:many<2^100)(k:∀(r:Int) (H':Hp),0<=r->r<many->Tape cl H' tp (B+1)->But tp H H'->Q (.int r) H'):NN spDraw [] E0 (vJ (kI a) (vJ tm tNil)) σ H Q:=⟨_,e,hm _ ⟨tp,many,B,rfl,cl,hT,h1,h2,h3,k⟩⟩
theorem ZJ{fD fN fP:Addr}{fdD fdN fdP:FuncData}(F:Fun K "_law_many" "_law_many" NX f fd)(T:Txt mg)(DD:Df K mg "_law_draw" wQ ["tape","many"] fD fdD)(GD:FnOk P w K mg base CX0 1 fD fdD ["tape","many"] spDraw)
  (DN:Df K mg "_law_number" wP ["tape"] fN fdN) (GN:FnOk P w K mg base CX0 2 fN fdN ["tape"] spNb) (DP:Df K mg "_law_put" RI ["found","powers","number"] fP fdP) (GP:FnOk P w K mg base CX0 2 fP fdP ["found","powers","number"] spPut):FnOk P w K mg base CX0 3 f fd ["tape","many","most"] spMany:=by
 refine F.ok scMn (λvs H Q E h=>?_) (λcdv A outer s H vs Q E hr h=>?_)
 ·obtain⟨tp,many,most,B,rfl,_⟩:=h
  rfl
 ·obtain⟨tp,many,most,B,rfl,m1,m3,mo4,mm,cl,hT,hB,go⟩:=h;have hr1:Room 1 _:=hr.mono (by decide);refine⟨_,jB (jN (i:=3) scMn.nd rfl (Or.inl rfl) (JN)) (jB (kO PassesOwn.never rfl (kQ (by rfl) T.rng (jA (jK kW jD (jH GD hr1 rfl DD.m DD.F.kp DD.b .nil jR (jA (pv 0) (jA jD jC)))) jC)) (jF (i:=4) scMn.nd rfl (Or.inl rfl)) (jB (jN (i:=5) scMn.nd rfl (Or.inl rfl) (qB xL (by rfl) T.tup boot_tuple (jA (kX (own:=1) (idx:=[0,2]) (N:=["k","tape","most"]) rfl rfl rfl (by decide +kernel) (by decide +kernel) (qW (by intro y hy;simp only[nF,mJ,or_false]at hy;rcases hy with rfl | rfl<;>rfl)) (qJ rfl) rfl (FT rfl rfl ⟨rfl,rfl,rfl,rfl⟩ ⟨rfl,rfl,rfl,rfl⟩) (kQ (by rfl) T.rng (jA (pv 1) jC)) (λC fp s2 H2=>(jF (i:=0) (show List.Nodup (["k","tape","most"]:List Str) by decide +kernel) rfl (Or.inl rfl) (Or.inr rfl))) (λC fp s2 H2=>jH GD hr1 rfl DD.m DD.F.kp DD.b .nil jR (jA (pv 1) (jA (jK kW (pv 2) jD) jC)))) jC))) (jE (qQ (jH GP hr rfl DP.m DP.F.kp DP.b .nil jR (jA (pv 3) (jA (pv 5) (jA (jH GN hr rfl DN.m DN.F.kp DN.b .nil jR (jA (pv 0) jC)) jC)))))))) (jE (jS (pv 3)))), ?_⟩;try dsimp only[cxK]
  intro d nd;have od:=hT.off nd;have T0:Tape cl (upd H d (.dT [])) tp B:=hT.upd _ od.1 od.2 uP ;have d0:(upd H d (.dT [])) d=some (.dT []):=jG;have b0:But tp H (upd H d (.dT [])):=uK (But.refl tp H) nd;generalize upd H d (.dT [])=H0 at T0 d0 b0;have p31:(2:Int)^31+300<2^37:=by decide
  have p37:(2:Int)^37<2^39:=by decide
  try dsimp only[jP]
  refine zW rfl T0 (by omega) (by decide) (by decide) λc H1 c0 c1 T1 b1=>⟨_,_,rfl,rfl,1+c,rfl,by omega,by omega, ?_⟩;obtain⟨cn,hcn⟩:∃n:Nat,1+c=(n:Int):=⟨(1+c).toNat,by omega⟩;rw[hcn,mG];have d1:=b1 _ _ d0 od.1;refine qR (n:=cn) (MnI H cl tp d many most B) (.mk (E:=[]) (b0.trans b1) (T1.mono (Same.refl _) (by omega)) d1 ⟨List.nodup_nil,(λe h=>nomatch h),nW _,nW _⟩ (λe h=>nomatch h)) (λi σ H2 hi h=>?_) (fun σ H2 h=>?_)
  ·cases h with
   | @mk u v _ E b2 T2 e2 db ky=>
   try dsimp only[jP]
   refine⟨_,rfl,many,rfl,by omega,by omega,λq H3 n3 s3 e3=>?_⟩;have T3:=T2.mono s3 uP ;have oq:=T2.off n3;refine vU (n:=many) (MpI H2 cl tp q most (B+1+7*i)) (by rw[sizeLine_eq];omega) ⟨But.of s3,T3.mono (Same.refl _) (by omega),e3,[],rfl,rfl,λn h=>nomatch h⟩ (λ_ _ _ h=>h.e) ?_ ?_
   ·rintro k m' ys x H4 hx hm hy ⟨b4,T4,e4,ns,rfl,nl,nb⟩;have hk:=(xM hx).2;refine⟨yN, ?_⟩;refine dDrawE (many:=(most:Int)+1) rfl (λR hR=>⟨_,rfl,_,_,rfl,rfl,hR⟩) T4 (by omega) (by omega) (Int.lt_trans (show(most:Int)+1<100 by omega) (by decide)) λr H5 r0 r1 T5 b5=>?_;have e5:=b5 _ _ e4 oq.1;have eq':ns.map V.int++[V.int r]=(ns++[r]).map V.int:=by rw[mQ];rfl
    refine kF hx hm hy e5 ⟨uK (b4.trans b5) n3,T5.upd _ oq.1 oq.2 (by omega),jG,ns++[r],eq',by simp [nl],λn hn=>?_⟩;rcases mS.mp hn with hn | hn
    ·exact nb n hn
    ·rw[gW.mp hn];exact⟨r0,by omega⟩
   ·rintro ys H4 hy ⟨b4,T4,e4,ns,rfl,nl,nb⟩;refine⟨q,_,rfl,.inl ⟨SqL.of e4,λb nb'=>?_⟩⟩;have sb:Same H4 (upd H4 b (.tup (ns.map V.int))):=kD _ nb';have eb:(upd H4 b (.tup (ns.map V.int))) b=some (.tup (ns.map V.int)):=jG;generalize upd H4 b (.tup (ns.map V.int))=H5 at sb eb;have T5:=T4.mono sb uP ;have dn2:=T2.ne e2 (λ_ z=>by cases z);have d5:=(b4.trans (But.of sb)) _ _ e2 dn2.1;have k5:Kp H2 H5:=(Kp.butT b4 T2).trans (Kp.of sb);try dsimp only[jP]
    refine⟨_,rfl,_,rfl,_,rfl,tp,_,rfl,cl,T5,by omega,λr x H6 hx e6 T6 b6=>?_⟩;have dn5:=T5.ne d5 (λ_ z=>by cases z);have d6:=b6 _ _ d5 dn5.1;have k6:=k5.trans (Kp.butT b6 T5);have eb6:=(Kp.butT b6 T5).tup _ _ eb;have xp:=x.den_pos;have sl:=UD ns most λn hn=>(nb n hn).2;rw[nl]at sl;have hxn:=hx.n;have hxd:=hx.d;refine⟨d,b,r,ns,x.num,x.den,many,4,⟨many*most,3+i,4*i,i⟩,E,λ_=>4*i,rfl,d6,db.kp k6,(db.kp k6).kb,by show 4*i<=40000;omega,by omega,by show 3+i<=4000;omega,by show i<=1000;omega,eb6,nl,λn hn=>(nb n hn).1,sl,e6,by omega,by show((x.den:Int)).natAbs<=2^4;omega, ?_,λE' H7 b7 e7 db7 kb7 cf7=>?_⟩
    ·rw[gX];refine nK (show x.num.natAbs<=2^3*1 by omega) (mX (gJ (by decide) (show 3<=3+i by omega)) xp)
    ·have dn6:=T6.ne d6 (λ_ z=>by cases z);have b06:=b2.trans ((b4.trans (But.of sb)).trans b6);refine .mk (λc o h hc=>b7 _ _ (b06 c o h hc) (kL h nd)) ((T6.aside b7 dn6.1 dn6.2).mono (Same.refl _) (by omega)) e7 (db7.up uO (by show 3+i+1<=3+(i+1);omega) (by show 4*i+4<=4*(i+1);omega) uO) (ky.put db7 cf7 λn hn=>(nb n hn).2)
  ·cases h with
   | @mk u v _ E b2 T2 e2 db ky=>
   refine⟨_,rfl,go d E H2 nd b2 (T2.mono (Same.refl _) (by omega)) e2 (db.up uO (by show 3+cn<=8;omega) (by show 4*cn<=20;omega) (by show cn<=5;omega)) ky⟩
def spProd:Sp:=λvs H Q _=>∃(d1 d2:Addr) (many M:Nat) (z y:Sz) (E1 E2:List Ent),vs=[.ref d1,.ref d2]/\FQ H d1 many z E1/\FQ H d2 many y E2/\many<=4/\z.n<=5/\y.n<=5/\z.S<=20/\y.S<=20/\z.v<=8/\y.v<=8/\KyB M E1/\KyB M E2/\
 ∀(d:Addr) (E:List Ent) (H':Hp),H d=none->Same H H'->H' d=some (.dT (E.map Ent.kv))->DB H' many ⟨z.D+y.D,41,200,25⟩ E->KyB (M+M) E->Q (.ref d) H'
inductive PrI(H H0:Hp)(d1 d2 d:Addr)(many M2 D n2 S2:Nat)(E1:List Ent)(i:Nat):L2.St->Hp->Prop where
 | mk {u3 u4 u5:Option V} {H':Hp} {E:List Ent} (s:Same H H') (k:Kp H0 H') (e:H' d=some (.dT (E.map Ent.kv))) (db:DB H' many ⟨D,16+i*n2,n2*((E1.take i).map Ent.k).sum+i*S2,i*n2⟩ E) (ky:KyB M2 E):PrI H H0 d1 d2 d many M2 D n2 S2 E1 i [some (.ref d1),some (.ref d2),some (.ref d),u3,u4,u5] H'
inductive PsI(H H0:Hp)(d1 d2 d b1:Addr)(many M2 D v S n k:Nat)(E2:List Ent)(j:Nat):L2.St->Hp->Prop where
 | mk {u4 u5:Option V} {H':Hp} {E:List Ent} (s:Same H H') (kp:Kp H0 H') (e:H' d=some (.dT (E.map Ent.kv))) (db:DB H' many ⟨D,v+j,S+j*k+((E2.take j).map Ent.k).sum,n+j⟩ E) (ky:KyB M2 E):PsI H H0 d1 d2 d b1 many M2 D v S n k E2 j [some (.ref d1),some (.ref d2),some (.ref d),some (.ref b1),u4,u5] H'
theorem ZB{as bs:List Int}{m n:Nat}(ha:∀x∈as,x<=(m:Int))(hb:∀x∈bs,x<=(n:Int)):∀x∈wA as bs,x<=((m+n:Nat):Int):=λx hx=>by
 obtain⟨i,hi⟩:=gF.mp hx;unfold wA at hi;rw[List.getElem?_zipWith]at hi;split at hi
 ·rename_i p q h1 h2;cases hi;have:=ha p (gH h1);have:=hb q (gH h2);omega
 ·cases hi
theorem scPd:FnScope ["one","other","found","powers","more","both"] ["one","other"] (jQ NV):=⟨rfl,rfl,rfl,by decide +kernel,rfl,by decide +kernel,by decide +kernel⟩
theorem ZH{fM fP:Addr}{fdM fdP:FuncData}(F:Fun K "_law_product" "_law_product" NV f fd)(T:Txt mg)(DM:Df K mg "_law_mul" CC ["one","other"] fM fdM)(GM:FnOk P w K mg base CX0 1 fM fdM ["one","other"] (BV K))(DP:Df K mg "_law_put" RI ["found","powers","number"] fP fdP)(GP:FnOk P w K mg base CX0 2 fP fdP ["found","powers","number"] spPut):FnOk P w K mg base CX0 3 f fd ["one","other"] spProd:=by
 refine F.ok scPd (λvs H Q E h=>?_) (λcdv A outer s H vs Q E hr h=>?_)
 ·obtain⟨d1,d2,many,M,z,y,E1,E2,rfl,_⟩:=h
  rfl
 ·obtain⟨d1,d2,many,M,z,y,E1,E2,rfl,f1,f2,m4,zn,yn,zS,yS,zv,yv,k1,k2,go⟩:=h;have hr1:Room 1 _:=hr.mono (by decide);have hu:_+1<cLine:=gR (Nat.add_le_add_left (by decide:1<=64) _) hr.units;refine⟨_,jB (jN (i:=2) scPd.nd rfl (Or.inl rfl) (JN)) (jB (kO PassesOwn.never rfl (LwD.BD (pv 0)) (jF (i:=3) scPd.nd rfl (Or.inl rfl)) (jE (kO PassesOwn.never rfl (LwD.BD (pv 1)) (jF (i:=4) scPd.nd rfl (Or.inl rfl)) (jB (jN (i:=5) scPd.nd rfl (Or.inl rfl) (qB xL (by rfl) T.tup boot_tuple (jA (kX (own:=2) (idx:=[]) (N:=["a","b"]) rfl rfl rfl (by decide +kernel) (by decide +kernel) (λ_ _ h=>nomatch h) (qJ rfl) rfl (λ_ _ _ h=>nomatch h) (OF (by rfl) T.zip (jA (pv 3) (jA (pv 4) jC))) (λC fp s2 H2=>show PG (jO _ ["a","b"] _ _ C fp s2 H2) _ (AM K 2 (qI (jP 0) (qI (jP 1) gNil)))from kJ (X:=jO _ ["a","b"] _ _ C fp s2 H2) rfl (jI (jF (i:=0) (show List.Nodup (["a","b"]:List Str) by decide +kernel) rfl (Or.inl rfl) (Or.inr rfl)) (jI (jF (i:=1) (show List.Nodup (["a","b"]:List Str) by decide +kernel) rfl (Or.inl rfl) (Or.inr rfl)) kC))) (λC fp s2 H2=>jK kW (pv 0) (pv 1))) jC))) (jE (qQ (jH GP hr rfl DP.m DP.F.kp DP.b .nil jR (jA (pv 2) (jA (pv 5) (jA (jH GM hr1 rfl DM.m DM.F.kp DM.b .nil jR (jA (xZ hu (pv 0) (pv 3) (λ_ _=>rfl)) (jA (xZ hu (pv 1) (pv 4) (λ_ _=>rfl)) jC))) jC)))))))))) (jE (jS (pv 2)))), ?_⟩
  try dsimp only[cxK]
  intro d nd;have s0:Same H (upd H d (.dT [])):=kD _ nd;have d0:(upd H d (.dT [])) d=some (.dT []):=jG;generalize upd H d (.dT [])=H0 at s0 d0;have l1:E1.length<=5:=nK f1.db.few zn;have l2:E2.length<=5:=nK f2.db.few yn;have S1:(E1.map Ent.k).sum<=20:=nK f1.db.sum zS;have S2:(E2.map Ent.k).sum<=20:=nK f2.db.sum yS;obtain⟨o1,g1⟩:=(f1.kp (Kp.of s0)).fr;try dsimp only[jP]
  refine⟨_,rfl,d1,o1,_,rfl,g1,BH E1,λks hks=>?_⟩;refine uH hks (PrI H H0 d1 d2 d many (M+M) (z.D+y.D) E2.length (E2.map Ent.k).sum E1) (.mk (E:=[]) s0 (Kp.of (Same.refl _)) d0 ⟨List.nodup_nil,(λe h=>nomatch h),nX _,nX _⟩ (λe h=>nomatch h)) (λi σ H2 h=>?_) (λi e b1 σ H2 he eM hb h=>?_) (fun σ H2 h=>?_)
  ·cases h with
   | mk s2 k2 _ _ _=>exact⟨k2.frz _ _ _ g1,k2⟩
  ·cases h with
   | @mk u3 u4 u5 _ E s2 kp2 e2 db ky=>
   obtain⟨o2,g2⟩:=(f2.kp (Kp.of s2)).fr;have eo:=f1.db.each e eM;have hi:i<E1.length:=(uU.mp he).1;have ss:=BI he;have tot:=nK (PH E1 (i+1)) S1;have in5:(i+1)*E2.length<=25:=mX (show i+1<=5 by omega) l2;have iS:(i+1)*(E2.map Ent.k).sum<=100:=mX (show i+1<=5 by omega) S2;have nS:E2.length*((E1.take (i+1)).map Ent.k).sum<=100:=mX l2 tot;rw[nQ]at in5 iS;rw[ss,Nat.mul_add]at nS;refine⟨_,rfl,d2,o2,_,rfl,g2,BH E2,λks2 hks2=>?_⟩;refine uH hks2 (PsI H H2 d1 d2 d b1 many (M+M) (z.D+y.D) (16+i*E2.length) (E2.length*((E1.take i).map Ent.k).sum+i*(E2.map Ent.k).sum) (i*E2.length) e.k E2) (.mk s2 (Kp.of (Same.refl _)) e2 (db.up uO uO (by show E2.length*((E1.take i).map Ent.k).sum+i*(E2.map Ent.k).sum<=E2.length*((E1.take i).map Ent.k).sum+i*(E2.map Ent.k).sum+0*e.k+0;omega) uO) ky) (λj σ H3 h=>?_) (λj g b2 σ H3 hg gM hb2 h=>?_) (fun σ H3 h=>?_)
   ·cases h with
    | mk s3 k3 _ _ _=>exact⟨k3.frz _ _ _ g2,k3⟩
   ·cases h with
    | @mk w4 w5 _ E3 s3 kp3 e3 db3 ky3=>
    have go':=f2.db.each g gM;have hj:j<E2.length:=(uU.mp hg).1;have ss2:=BI hg;have tot2:=PH E2 (j+1);have hb3:=kp3.tup _ _ hb;have jk:(j+1)*e.k<=E2.length*e.k:=gL _ hj;rw[nQ]at jk;dsimp only[jP,qM,xO];refine dBoth (a:=b1) (b:=b2) (as:=e.ns) (bs:=g.ns) rfl rfl hb3 hb2 (by rw[eo.len,go'.len]) (by rw[go'.len];exact m4) λc H4 n4 s4 e4=>?_;have F1:=f1.kp (Kp.of (s3.trans s4));have F2:=f2.kp (Kp.of (s3.trans s4));have q1:=F1.db.each e eM;have q2:=F2.db.each g gM;have ek:=F1.db.k eM;have gk:=F2.db.k gM;refine⟨_,rfl,_,rfl,_,rfl,_,rfl,d1,_,rfl,F1.get eM (s4 _ _ hb3),_,rfl,_,rfl,d2,_,rfl,F2.get gM (s4 _ _ hb2),e.c,g.c,e.t,e.b,g.t,g.b,rfl,SqT.of q1.at',SqT.of q2.at',vN q1.st q1.sb (by omega),vI q1.sb (by omega),vN q2.st q2.sb (by omega),vI q2.sb (by omega),λr H5 n5 s5 e5=>?_⟩;have s45:=s4.trans s5;have ln:(wA e.ns g.ns).length=many:=by unfold wA;rw[List.length_zipWith,eo.len,go'.len,Nat.min_self]
    have sm:=JQ (show e.ns.length=g.ns.length by rw[eo.len,go'.len]);have dg1:=eo.deg;have dg2:=go'.deg;refine⟨d,c,r,wA e.ns g.ns,e.t*g.t,e.b*g.b,many,e.k+g.k,_,E3,_,rfl,s45 _ _ e3,db3.kp (Kp.of s45),(db3.kp (Kp.of s45)).kb,by show _+j*e.k+_<=40000;omega,by omega,by show 16+i*E2.length+j<=4000;omega,by show i*E2.length+j<=1000;omega,s5 _ _ e4,ln,YZ eo.nn go'.nn,by rw[sm];show _<=((z.D+y.D:Nat):Int);omega,e5,nY eo.pos go'.pos, ?_, ?_,λE' H6 b6 e6 db6 kb6 cf6=>?_⟩
    ·rw[mV,tD];exact mX eo.sb go'.sb
    ·rw[mV,mV];refine nK (CN eo.st go'.st) (gL _ (gJ (by decide) ?_));show z.v+y.v<=16+i*E2.length+j;omega
    ·refine .mk (λc' o h=>b6 _ _ ((s3.trans s45) _ _ h) (kL h nd)) ((kp3.trans (Kp.of s45)).trans (Kp.but b6 (s45 _ _ e3) trivial)) e6 (db6.up uO (by show 16+i*E2.length+j+1<=_+(j+1);omega) ?_ (by show i*E2.length+j+1<=_+(j+1);omega)) (ky3.put db6 cf6 (ZB (k1 e eM) (k2 g gM)));show _+j*e.k+((E2.take j).map Ent.k).sum+(e.k+g.k)<=_+(j+1)*e.k+((E2.take (j+1)).map Ent.k).sum;rw[ss2,nQ];omega
   ·cases h with
    | @mk w4 w5 _ E3 s3 kp3 e3 db3 ky3=>
    rw[mK]at db3;refine .mk s3 (kp2.trans kp3) e3 (db3.up uO (by show 16+i*E2.length+E2.length<=16+(i+1)*E2.length;rw[nQ];omega) ?_ (by show i*E2.length+E2.length<=(i+1)*E2.length;rw[nQ];omega)) ky3;show _+E2.length*e.k+(E2.map Ent.k).sum<=E2.length*((E1.take (i+1)).map Ent.k).sum+(i+1)*(E2.map Ent.k).sum;rw[ss,Nat.mul_add,nQ];omega
  ·cases h with
   | @mk u3 u4 u5 _ E s2 kp2 e2 db ky=>
   rw[mK]at db;have a1:E1.length*E2.length<=25:=mX l1 l2;have a2:E2.length*(E1.map Ent.k).sum<=100:=mX l2 S1;have a3:E1.length*(E2.map Ent.k).sum<=100:=mX l1 S2;exact⟨_,rfl,go d E H2 nd s2 e2 (db.up uO (by show 16+E1.length*E2.length<=41;omega) (by show E2.length*(E1.map Ent.k).sum+E1.length*(E2.map Ent.k).sum<=200;omega) a1) ky⟩
structure EndH(H:Hp)(v:V)(e:Rat×Rat):Prop where
 ex:∃r a b:Addr,v=.ref r/\H r=some (.tup [.ref a,.ref b])/\At2 H a e.1.num e.1.den/\At2 H b e.2.num e.2.den
theorem EndH.kp{H H':Hp}{v:V}{e:Rat×Rat}(h:EndH H v e)(k:Kp H H'):EndH H' v e:=by
 obtain⟨r,a,b,e1,e2,e3,e4⟩:=h.ex;exact⟨r,a,b,e1,k.tup _ _ e2,k.tup _ _ e3,k.tup _ _ e4⟩
theorem EndH.toV{K:tJ}{H:Hp}{v:V}{e:Rat×Rat}(h:EndH H v e):EndV K H v e:=by
 obtain⟨r,a,b,e1,e2,e3,e4⟩:=h.ex;exact⟨r,.ref a,.ref b,e1,SqT.of e2,⟨a,rfl,SqT.of e3⟩,⟨b,rfl,SqT.of e4⟩⟩
structure EndC(k:Nat)(e:Rat×Rat):Prop where
 D:∃D:Int,0<D/\D<=81/\Wh (D*2^k) e.1/\Wh (D*2^k) e.2
 b1:Bd 16 e.1
 b2:Bd 16 e.2
theorem Wh.den{D:Int}{x:Rat}(h:Wh D x):(x.den:Int)∣D:=by
 have:=vX x;exact Wh.dvd this.1 this.2 (by rw[qH];exact h)
theorem p2pos(k:Nat):0<(2:Int)^k:=Int.pow_pos (by decide)
theorem bd_nb{x:Rat}(h:Nb x):Bd 6 x:=by
 have:=h.n;have:=x.den_pos;unfold Bd;exact nK h.n (uY _ x.den_pos)
def spBox:Sp:=λvs H Q _=>∃(tp:Addr) (many:Nat) (B:Int),vs=[.ref tp,.int many]/\many<=3/\∃cl,Tape cl H tp B/\B<2^31/\
 ∀(b:Addr) (bx:List V) (ends:List (Rat×Rat)) (H':Hp),H b=none->But tp H H'->Tape cl H' tp (B+18)->H' b=some (.lst bx)->Paired (EndH H') bx ends->(∀e∈ends,EndC 0 e)->ends.length=many->Q (.ref b) H'
inductive BxI(H:Hp)(cl tp b:Addr)(many:Nat)(B:Int)(i:Nat):L2.St->Hp->Prop where
 | mk {u3 u4 u5:Option V} {H':Hp} {bx:List V} {ends:List (Rat×Rat)} (bt:But tp H H') (T:Tape cl H' tp (B+6*i)) (e:H' b=some (.lst bx)) (p:Paired (EndH H') bx ends) (c:∀e∈ends,EndC 0 e) (l:ends.length=i):BxI H cl tp b many B i [some (.ref tp),some (.int (many:Int)),some (.ref b),u3,u4,u5] H'
inductive ByJ(H:Hp)(cl tp b:Addr)(many:Nat)(B:Int)(k:Int)(lo:Addr)(x:Rat)(bx:List V):L2.St->Hp->Prop where
 | mk {H':Hp} {wd:Addr} {y:Rat} (s:Same H H') (e:At2 H' wd y.num y.den) (d:y.den<=9) (n:y.num.natAbs<=7) (p:0<y.num):ByJ H cl tp b many B k lo x bx [some (.ref tp),some (.int (many:Int)),some (.ref b),some (.int k),some (.ref lo),some (.ref wd)] H'
theorem scBx:FnScope ["tape","many","box","k","low","width"] ["tape","many"] (jQ YK):=⟨rfl,rfl,rfl,by decide +kernel,rfl,by decide +kernel,by decide +kernel⟩
theorem ok_box{fN fL fM:Addr}{fdN fdL fdM:FuncData}(F:Fun K "_law_box" "_law_box" YK f fd)(T:Txt mg)(DN:Df K mg "_law_number" wP ["tape"] fN fdN)(GN:FnOk P w K mg base CX0 2 fN fdN ["tape"] spNb)(DL:Df K mg "_law_low" EH ["top","bottom"] fL fdL)(GL:FnOk P w K mg base CX0 1 fL fdL ["top","bottom"] spLow)(DM:Df K mg "_law_more" NW ["one","other"] fM fdM)(GM:FnOk P w K mg base CX0 2 fM fdM ["one","other"] spMore):FnOk P w K mg base CX0 3 f fd ["tape","many"] spBox:=by
 refine F.ok scBx (λvs H Q E h=>?_) (λcdv A outer s H vs Q E hr h=>?_)
 ·obtain⟨tp,many,B,rfl,_⟩:=h
  rfl
 ·obtain⟨tp,many,B,rfl,m3,cl,hT,hB,go⟩:=h;have hr1:Room 1 _:=hr.mono (by decide);refine⟨_,jB (jN (i:=2) scBx.nd rfl (Or.inl rfl) (qC jC)) (jB (kO PassesOwn.never rfl (kQ (by rfl) T.rng (jA (pv 1) jC)) (jF (i:=3) scBx.nd rfl (Or.inl rfl)) (jB (jN (i:=4) scBx.nd rfl (Or.inl rfl) (jH GN hr rfl DN.m DN.F.kp DN.b .nil jR (jA (pv 0) jC))) (jB (jN (i:=5) scBx.nd rfl (Or.inl rfl) (jH GN hr rfl DN.m DN.F.kp DN.b .nil jR (jA (pv 0) jC))) (jB (kN (jU op_le (jT jV (pv 5) jD (λ_ _=>rfl)) jD (jX _)) (jE (jN (i:=5) scBx.nd rfl (Or.inl rfl) (jH GL hr1 rfl DL.m DL.F.kp DL.b .nil jR (jA (jK qL jD (jT jV (pv 5) jD (λ_ _=>rfl))) (jA (jT jV (pv 5) jD (λ_ _=>rfl)) jC))))) kA) (jE (qQ (wW PySem.F.plainAttrs_list PySem.F.slot_list_append PySem.F.type_list_append kR (pv 2) (jA (jW (jA (pv 4) (jA (jH GM hr rfl DM.m DM.F.kp DM.b .nil jR (jA (pv 4) (jA (pv 5) jC))) jC))) jC)))))))) (jE (jS (pv 2)))), ?_⟩;try dsimp only[cxK]
  have p39:(2:Int)^31+300<2^39:=by decide
  have two:2<=sizeLine:=by decide
  refine⟨nX _,λb H1 n1 s1 e1=>?_⟩;have ob:=hT.off n1;try dsimp only[jP]
  refine⟨_,rfl,(many:Int),rfl,by omega,by omega, ?_⟩;rw[mG];refine qR (n:=many) (BxI H cl tp b many B) (.mk (ends:=[]) (But.of s1) (hT.mono s1 (by omega)) e1 .nil (λe h=>nomatch h) rfl) (λi σ H2 hi h=>?_) (fun σ H2 h=>?_)
  ·cases h with
   | @mk u3 u4 u5 _ bx ends bt T2 e2 pr cs le=>
   try dsimp only[jP]
   refine⟨_,rfl,tp,_,rfl,cl,T2,by omega,λlo x H3 hx e3 T3 b3=>?_⟩;have eb3:=b3 _ _ e2 ob.1;have k3:=Kp.butT b3 T2;try dsimp only[jP]
   refine⟨_,rfl,tp,_,rfl,cl,T3,by omega,λwd y H4 hy e4 T4 b4=>?_⟩;have eb4:=b4 _ _ eb3 ob.1;have k4:=k3.trans (Kp.butT b4 T3);have lo4:=(Kp.butT b4 T3).tup _ _ e3;try dsimp only[jP]
   refine wM (t:=RF _ _ _) (ByJ H4 cl tp b many B (0+(i:Int)) lo x bx) ?_ (λgo2=>?_)
   ·intro σ H5 h;cases h with
    | @mk _ w2 y2 s5 e5 d5 n5 p5=>
    have yp:=y2.den_pos;have xp:=x.den_pos;have zx:SzR 3900 x:=⟨gR hx.n (gU (show 6<2^4 by decide) (gJ (by decide) (by decide))),gR hx.d (gU (show 9<2^4 by decide) (gJ (by decide) (by decide)))⟩;have zy:SzR 3900 y2:=⟨gR n5 (gU (show 7<2^4 by decide) (gJ (by decide) (by decide))),gR d5 (gU (show 9<2^4 by decide) (gJ (by decide) (by decide)))⟩;refine⟨_,rfl,.inl ⟨rfl,_,SqL.of (s5 _ _ eb4)⟩,_,rfl,_,rfl,_,rfl,lo,w2,x,y2,rfl,s5 _ _ lo4,e5,zx,zy,λhi' H6 n6 s6 e6=>⟨two,λr H7 n7 s7 e7=>?_⟩⟩;have s57:=s5.trans (s6.trans s7);have eb7:=s57 _ _ eb4;have T7:=T4.mono s57 uP ;have lb:bx.length=i:=by rw[Paired.length pr,le]
    refine⟨b,bx,.ref r,rfl,rfl,eb7,by rw[lb,sizeLine_eq];omega, ?_⟩;have k7:Kp H2 (upd H7 b (.lst (bx++[.ref r]))):=(k4.trans (Kp.of s57)).trans (Kp.upd eb7 trivial);have ku:Kp H7 (upd H7 b (.lst (bx++[.ref r]))):=Kp.upd eb7 trivial;refine .mk (ends:=ends++[(x,x+y2)]) (uK ((bt.trans (b3.trans b4)).trans (But.of s57)) n1) (T7.upd _ ob.1 ob.2 (by omega)) jG (Paired.app (Paired.to (λ_ _ h=>h.kp k7) pr) (.cons ⟨r,lo,hi',rfl,ku.tup _ _ e7,ku.tup _ _ (s57 _ _ lo4),ku.tup _ _ (s7 _ _ e6)⟩ .nil)) (λe he=>?_) (by rw[gS,le];rfl);rcases mS.mp he with he | he
    ·exact cs e he
    ·rw[gW.mp he];have wx:Wh ((x.den:Int)*(y2.den:Int)) x:=by
      have:=Wh.of (t:=x.num) (b:=x.den) (by omega);rw[qH]at this;exact this.up _
     have wy:Wh ((x.den:Int)*(y2.den:Int)) y2:=by
      have:=Wh.of (t:=y2.num) (b:=y2.den) (by omega);rw[qH]at this;rw[nV];exact this.up _
     have hd:=hx.d;have by2:Bd 7 y2:=nK n5 (uY _ yp);refine⟨⟨(x.den:Int)*(y2.den:Int),nY (by omega) (by omega), ?_, ?_, ?_⟩,(bd_nb hx).mono (by decide),((bd_nb hx).add by2).mono (by decide)⟩
     ·have:=mX hd d5;have h2:(x.den:Int)*(y2.den:Int)=((x.den*y2.den:Nat):Int):=by rw[Int.natCast_mul]
      rw[h2];omega
     ·rw[Int.pow_zero,Int.mul_one];exact wx
     ·rw[Int.pow_zero,Int.mul_one];exact wx.add wy
   ·refine rvT rfl (SqT.of e4) rfl ⟨_,_,rfl,rfl,_,rfl, ?_⟩;have yn:=hy.n;have yd:=hy.d;have yp:=y.den_pos;by_cases c:y.num<=0
    ·refine IA (mU c) ?_;have bp:0<(y.den:Int):=by omega
     have pp:0<1-y.num:=by omega
     refine rvT rfl (SqT.of e4) rfl ⟨_,_,rfl,rfl,rvT rfl (SqT.of e4) rfl ⟨1-y.num,y.den,rfl,by omega,.inl ?_,λr2 H5 n5 s5 e5=>?_⟩⟩
     ·exact gU (show((y.den:Int)).natAbs<2^4 by omega) (gJ (by decide) (by decide))
     ·obtain⟨g1,g2⟩:=zQ (x:=fv (1-y.num) y.den) bp rfl;have l1:=Int.le_of_dvd bp g1;have cr:=QL (x:=fv (1-y.num) y.den) bp rfl;have dp:=(fv (1-y.num) y.den).den_pos;refine go2 _ _ (.mk s5 (wE e5 bp rfl) (by omega) (by omega) ?_);refine Int.not_le.mp λz=>?_;have h1:(fv (1-y.num) y.den).num*(y.den:Int)<=0:=Int.mul_nonpos_of_nonpos_of_nonneg z (by omega);have h2:0<(1-y.num)*((fv (1-y.num) y.den).den:Int):=nY pp (by omega);omega
    ·refine CT (mR c) ?_;exact go2 _ _ (.mk (Same.refl _) e4 yd (by omega) (by omega))
  ·cases h with
   | @mk u3 u4 u5 _ bx ends bt T2 e2 pr cs le=>
   exact⟨_,rfl,go b bx ends H2 n1 bt (T2.mono (Same.refl _) (by omega)) e2 pr cs le⟩
theorem RU(ns:List Nat):(LwB.plc ns).Nodup:=List.pairwise_iff_getElem.mpr λi j hi hj hij e=>by
 have:=LwB.plc_inj ns (uW hi) (by rw[e];exact uW hj);omega
theorem NT{α:Type}(f g:α->Rat):∀l:List α,LwB.smL (l.map λp=>f p+g p)=LwB.smL (l.map f)+LwB.smL (l.map g)
 | []=>by show(0:Rat)=0+0;rw[nO]
 | a::l=>by
  show(f a+g a)+LwB.smL (l.map λp=>f p+g p)=(f a+LwB.smL (l.map f))+(g a+LwB.smL (l.map g));rw[NT f g l]
  grind
theorem BZ{α:Type}{f:α->Rat} :∀{l:List α},(∀a∈l,f a=0)->LwB.smL (l.map f)=0
 | [],_=>rfl
 | a::l,h=>by
  show f a+LwB.smL (l.map f)=0;rw[h a (gY ..),BZ λb hb=>h b (gI _ hb),nO]
theorem NR{α:Type} [DecidableEq α]{a:α}{f:α->Rat} :∀{l:List α},l.Nodup->a∈l->(∀b∈l,b≠a->f b=0)->LwB.smL (l.map f)=f a
 | b::l,nd,h,z=>by
  rw[List.nodup_cons]at nd;show f b+LwB.smL (l.map f)=f a;by_cases c:b=a
  ·subst c;rw[BZ λx hx=>z x (gI _ hx) λe=>nd.1 (by rw[<-e];exact hx),nO]
  ·have hm:a∈l:=by
    rcases nF.mp h with e | e
    ·exact absurd e.symm c
    ·exact e
   rw[z b (gY ..) c,NR nd.2 hm λx hx=>z x (gI _ hx),Rat.zero_add]
theorem PQ:∀{p q:List Nat},ipw p=ipw q->p=q
 | [],[],_=>rfl
 | [],_::_,h=>by cases h
 | _::_,[],h=>by cases h
 | a::p,b::q,h=>by
  have h1:(a:Int)=(b:Int)/\ipw p=ipw q:=by
   have h':(a:Int)::ipw p=(b:Int)::ipw q:=h;injection h' with x y
   exact⟨x,y⟩
  rw[Int.ofNat.inj h1.1,PQ h1.2]
def KeysIn(ns:List Nat)(P:Pl):Prop:=∀y∈P,∃p,p∈LwB.plc ns/\y.1=ipw p
theorem JH{ns:List Nat}{g:List Int->Rat} :∀{P:Pl},KeysIn ns P->AF g P=LwB.smP ns (λp=>cfN P p*g (ipw p))
 | [],_=>by
  rw[LwB.smP_list,BZ λp _=>by show 0*_=_;rw[Rat.zero_mul]]
  rfl
 | y::P,h=>by
  rw[RS,JH λx hx=>h x (gI _ hx),LwB.smP_list,LwB.smP_list];obtain⟨p,hp,e⟩:=h y (gY ..);have e1:(λq=>cfN (y::P) q*g (ipw q))=λq=>(if y.1=ipw q then y.2 else 0)*g (ipw q)+cfN P q*g (ipw q):=by
   funext q
   show((if y.1=ipw q then y.2 else 0)+cf P (ipw q))*_=_;unfold cfN
   grind
  have e2:LwB.smL ((LwB.plc ns).map λq=>(if y.1=ipw q then y.2 else 0)*g (ipw q))=(if y.1=ipw p then y.2 else 0)*g (ipw p):=NR (f:=λq=>(if y.1=ipw q then y.2 else 0)*g (ipw q)) (RU ns) hp λq _ hq=>by
   show(if y.1=ipw q then y.2 else 0)*g (ipw q)=0;rw[tH λz=>hq (PQ (by rw[<-z,e])),Rat.zero_mul]
  rw[e1,NT,e2,tI e,<-e]
theorem TU:∀(S:List Rat) (p:List Nat),LwB.wtP (S.map λx=>λ(k:Nat)=>x^k) p=pw S (ipw p)
 | [],[]=>rfl
 | [],_::_=>rfl
 | _::_,[]=>rfl
 | s::S,n::p=>by
  show s^n*LwB.wtP (S.map λx=>λ(k:Nat)=>x^k) p=s^((n:Int)).toNat*pw S (ipw p);rw[TU S p,mG]
def wts(ns:List Nat)(tt:List Rat):List (Nat->Rat):=List.zipWith (λn t=>LwB.wt t (1-t) (n-1)) ns tt
theorem TM{ns:List Nat}{ends:List (Rat×Rat)}{L:Pl}{S tt:List Rat}(h1:∀n∈ns,1<=n)(hL:KeysIn ns L)(hS:S.length=ns.length)(ht:tt.length=ns.length)(hx:∀i,i<ns.length->(1-tt.getD i 0)*(ends.getD i (0,0)).1+tt.getD i 0*(ends.getD i (0,0)).2=S.getD i 0) :
  LwB.smL ((LwB.plc ns).map λp=>bzT ends ns (cfN L) ns.length p*LwB.wtP (wts ns tt) p)=AF (pw S) L:=by
 have b:=XY (T:=cfN L) (ends:=ends) (tt:=λi=>tt.getD i 0) (ss:=λi=>1-tt.getD i 0) (xx:=λi=>S.getD i 0) h1 (λi _=>by show 1-tt.getD i 0+tt.getD i 0=1;grind) hx ns.length uO ;have e1:phi ns (λi=>tt.getD i 0) (λi=>1-tt.getD i 0) (λi=>S.getD i 0) ns.length=wts ns tt:=by
  refine mH λi=>?_;unfold wts;by_cases c:i<ns.length
  ·have g1:ns[i]? = some ns[i]:=uW c;have g2:tt[i]? = some (tt[i]'(by omega)):=uW (by omega);rw[AG c,tI c,List.getElem?_zipWith,g1,g2,uR,uR,g1,g2]
   rfl
  ·rw[gE (by rw[xX];omega),gE (by rw[List.length_zipWith];omega)]
 have e0:phi ns (λi=>tt.getD i 0) (λi=>1-tt.getD i 0) (λi=>S.getD i 0) 0=S.map λx=>λ(k:Nat)=>x^k:=by
  refine mH λi=>?_;by_cases c:i<ns.length
  ·have g1:S[i]? = some (S[i]'(by omega)):=uW (by omega);rw[AG c,tH (Nat.not_lt_zero _),hJ,g1,uR,g1]
   rfl
  ·rw[gE (by rw[xX];omega),gE (by rw[mP];omega)]
 rw[e1,e0,LwB.smP_list]at b;rw[b,JH hL];refine LwB.smP_congr ns λp _ _=>?_;rw[TU]
def bbT:Nat->(Nat->Rat)->Nat->Rat
 | 0,b,i=>b i
 | j+1,b,i=>bbT j b i+bbT j b (i+1)
theorem zR:∀{j:Nat} {b c:Nat->Rat} {i:Nat},(∀a,i<=a->a<=i+j->b a=c a)->bbT j b i=bbT j c i
 | 0,b,c,i,h=>h i uO uO 
 | j+1,b,c,i,h=>by
  show bbT j b i+bbT j b (i+1)=bbT j c i+bbT j c (i+1);rw[zR (j:=j) λa h1 h2=>h a h1 (by omega),zR (j:=j) (i:=i+1) λa h1 h2=>h a (by omega) (by omega)]
theorem yK(c:Rat):∀(j:Nat) (b:Nat->Rat) (i:Nat),bbT j (λa=>c*b a) i=c*bbT j b i
 | 0,_,_=>rfl
 | j+1,b,i=>by
  show bbT j (λa=>c*b a) i+bbT j (λa=>c*b a) (i+1)=c*(bbT j b i+bbT j b (i+1));rw[yK c j b i,yK c j b (i+1)]
  grind
theorem IQ:∀{j:Nat} {b:Nat->Rat} {i:Nat},(∀a,i<=a->a<=i+j->0<=b a)->0<=bbT j b i
 | 0,b,i,h=>h i uO uO 
 | j+1,b,i,h=>by
  show 0<=bbT j b i+bbT j b (i+1);exact Rat.add_nonneg (IQ (j:=j) λa h1 h2=>h a h1 (by omega)) (IQ (j:=j) (i:=i+1) λa h1 h2=>h a (by omega) (by omega))
theorem CZ{u:Rat}{l l':List Rat}(h:l.Perm l'):∀g:Nat->Rat,LwB.foF u l g=LwB.foF u l' g:=by
 induction h with
 | nil=>exact λ_=>rfl
 | cons x _ ih=>exact λg=>ih _
 | swap x y l=>exact λg=>by show LwB.foF u l (LwB.fo1 u x (LwB.fo1 u y g))=LwB.foF u l (LwB.fo1 u y (LwB.fo1 u x g));rw[LwB.fo1_comm]
 | trans _ _ h1 h2=>exact λg=>(h1 g).trans (h2 g)
theorem CY(u a:Rat)(l:List Rat)(g:Nat->Rat):LwB.foF u (l++[a]) g=LwB.fo1 u a (LwB.foF u l g):=by
 unfold LwB.foF;rw[mE]
 rfl
def fH(lo hi:Rat)(m j i:Nat)(g:Nat->Rat):Rat:=LwB.foF 1 (List.replicate (m-i-j) lo++List.replicate i hi++List.replicate j ((lo+hi)/2)) g 0
theorem fH_step{lo hi:Rat}{m j i:Nat}{g:Nat->Rat}(h:i+j+1<=m):fH lo hi m (j+1) i g=(fH lo hi m j i g+fH lo hi m j (i+1) g)/2:=by
 unfold fH;have e1:m-i-(j+1)+1=m-i-j:=by omega
 have e2:m-(i+1)-j=m-i-(j+1):=by omega
 have p1:(List.replicate (m-i-j) lo++List.replicate i hi++List.replicate j ((lo+hi)/2)).Perm ((List.replicate (m-i-(j+1)) lo++List.replicate i hi++List.replicate j ((lo+hi)/2))++[lo]):=by
  rw[<-e1,List.replicate_succ,List.cons_append,List.cons_append];exact(List.perm_append_comm (l₁:=[lo]))
 have p2:(List.replicate (m-(i+1)-j) lo++List.replicate (i+1) hi++List.replicate j ((lo+hi)/2)).Perm ((List.replicate (m-i-(j+1)) lo++List.replicate i hi++List.replicate j ((lo+hi)/2))++[hi]):=by
  rw[e2,List.replicate_succ',<-hZ,hZ _ [hi] _,hZ _ _ [hi]];exact List.Perm.append_left _ List.perm_append_comm
 rw[CZ p1,CZ p2,List.replicate_succ',<-hZ,CY,CY,CY];unfold LwB.fo1
 grind
theorem p2ne(j:Nat):(2:Rat)^j≠0:=by
 induction j with
 | zero=>rw[Rat.pow_zero];decide
 | succ j ih=>rw[Rat.pow_succ];intro z;rcases Rat.mul_eq_zero.mp z with h | h;exact ih h;exact absurd h (by decide)
theorem QG{lo hi:Rat}{m:Nat}{g:Nat->Rat} :∀(j i:Nat),i+j<=m->fH lo hi m j i g=bbT j (λa=>fH lo hi m 0 a g) i/2^j
 | 0,i,_=>by show _=fH lo hi m 0 i g/2^0;rw[Rat.pow_zero];grind
 | j+1,i,h=>by
  rw[fH_step (by omega),QG j i (by omega),QG j (i+1) (by omega),Rat.pow_succ];show _=(bbT j _ i+bbT j _ (i+1))/_;have:=p2ne j
  grind
theorem QF{lo hi:Rat}{m k:Nat}(a:Nat->Rat):fH lo hi m 0 k (LwB.lnG m a)=LwB.lnN 1 lo hi m a k:=by
 unfold fH LwB.lnN LwB.twoT;rw[Nat.sub_zero,List.replicate_zero,List.append_nil]
theorem lnN_low{lo hi:Rat}{m k:Nat}(a:Nat->Rat)(h:k<=m):LwB.lnN 1 lo ((lo+hi)/2) m a k=bbT k (λx=>LwB.lnN 1 lo hi m a x) 0/2^k:=by
 have:=QG (lo:=lo) (hi:=hi) (g:=LwB.lnG m a) k 0 (show 0+k<=m by omega);rw[show(λa'=>fH lo hi m 0 a' (LwB.lnG m a))=λx=>LwB.lnN 1 lo hi m a x from funext λx=>QF a]at this;rw[<-this];unfold fH LwB.lnN LwB.twoT;rw[Nat.sub_zero,List.replicate_zero,List.append_nil]
theorem WJ{lo hi:Rat}{m k:Nat}(a:Nat->Rat)(h:k<=m):LwB.lnN 1 ((lo+hi)/2) hi m a k=bbT (m-k) (λx=>LwB.lnN 1 lo hi m a x) k/2^(m-k):=by
 have:=QG (lo:=lo) (hi:=hi) (g:=LwB.lnG m a) (m-k) k (show k+(m-k)<=m by omega);rw[show(λa'=>fH lo hi m 0 a' (LwB.lnG m a))=λx=>LwB.lnN 1 lo hi m a x from funext λx=>QF a]at this;rw[<-this];unfold fH LwB.lnN LwB.twoT;rw[show m-k-(m-k)=0 by omega,List.replicate_zero,List.nil_append];exact congrFun (CZ List.perm_append_comm _) 0
def uG(k:Nat)(S:List Nat->Rat):List Nat->Rat:=λp=>bbT (p.getD k 0) (λx=>S (p.set k x)) 0/2^(p.getD k 0)
def uF(m k:Nat)(S:List Nat->Rat):List Nat->Rat:=λp=>bbT (m-p.getD k 0) (λx=>S (p.set k x)) (p.getD k 0)/2^(m-p.getD k 0)
theorem nT_at{lo hi:Rat}{m k:Nat}{T:List Nat->Rat}{p:List Nat}(h:k<p.length)(x:Nat):nT lo hi m k T (p.set k x)=LwB.lnN 1 lo hi m (λj=>T (p.set k j)) x/((LwB.fct m:Int):Rat):=by
 unfold nT LwB.bxT;rw[xP h];simp only[List.set_set]
theorem nT_low{lo hi:Rat}{m k:Nat}{T:List Nat->Rat}{p:List Nat}(h:k<p.length)(hm:p.getD k 0<=m):nT lo ((lo+hi)/2) m k T p=uG k (nT lo hi m k T) p:=by
 unfold uG;rw[show(λx=>nT lo hi m k T (p.set k x))=λx=>(1/((LwB.fct m:Int):Rat))*LwB.lnN 1 lo hi m (λj=>T (p.set k j)) x from funext λx=>by rw[nT_at h];grind,yK];unfold nT LwB.bxT;rw[lnN_low _ hm]
 grind
theorem nT_high{lo hi:Rat}{m k:Nat}{T:List Nat->Rat}{p:List Nat}(h:k<p.length)(hm:p.getD k 0<=m):nT ((lo+hi)/2) hi m k T p=uF m k (nT lo hi m k T) p:=by
 unfold uF;rw[show(λx=>nT lo hi m k T (p.set k x))=λx=>(1/((LwB.fct m:Int):Rat))*LwB.lnN 1 lo hi m (λj=>T (p.set k j)) x from funext λx=>by rw[nT_at h];grind,yK];unfold nT LwB.bxT;rw[WJ _ hm]
 grind
theorem XH(u a:Rat)(f g:Nat->Rat):LwB.fo1 u a (λi=>f i+g i)=λi=>LwB.fo1 u a f i+LwB.fo1 u a g i:=by
 funext j
 unfold LwB.fo1
 grind
theorem KW(u:Rat):∀(tops:List Rat) (f g:Nat->Rat),LwB.foF u tops (λi=>f i+g i)=λi=>LwB.foF u tops f i+LwB.foF u tops g i
 | [],_,_=>rfl
 | a::tops,f,g=>by
  show LwB.foF u tops (LwB.fo1 u a λi=>f i+g i)=λi=>LwB.foF u tops (LwB.fo1 u a f) i+LwB.foF u tops (LwB.fo1 u a g) i;rw[XH,KW u tops]
theorem lnN_add(u low high:Rat)(m:Nat)(a b:Nat->Rat)(k:Nat):LwB.lnN u low high m (λi=>a i+b i) k=LwB.lnN u low high m a k+LwB.lnN u low high m b k:=by
 unfold LwB.lnN;have:LwB.lnG m (λi=>a i+b i)=λi=>LwB.lnG m a i+LwB.lnG m b i:=by
  funext i
  unfold LwB.lnG
  grind
 rw[this,KW]
theorem MS(u low high:Rat)(m k:Nat):∀(n:Nat) (f:Nat->Nat->Rat) (i:Nat),LwB.lnN u low high m (λj=>bbT n (λx=>f x j) i) k=bbT n (λx=>LwB.lnN u low high m (f x) k) i
 | 0,_,_=>rfl
 | n+1,f,i=>by
  show LwB.lnN u low high m (λj=>bbT n (λx=>f x j) i+bbT n (λx=>f x j) (i+1)) k=bbT n _ i+bbT n _ (i+1);rw[lnN_add,MS u low high m k n f i,MS u low high m k n f (i+1)]
theorem xF{p:List Nat}{i k x:Nat}(h:i≠k):(p.set i x).getD k 0=p.getD k 0:=by
 rw[uR,List.getElem?_set_ne h,<-uR]
theorem nT_bb{lo hi:Rat}{m i k n c:Nat}{S:List Nat->Rat}{p:List Nat}(h:i≠k):LwB.lnN 1 lo hi m (λj=>bbT n (λx=>S ((p.set i j).set k x)) c/2^n) (p.getD i 0)/((LwB.fct m:Int):Rat)=bbT n (λx=>nT lo hi m i S (p.set k x)) c/2^n:=by
 have e:(λj=>bbT n (λx=>S ((p.set i j).set k x)) c/2^n)=λj=>(1/2^n)*bbT n (λx=>S ((p.set k x).set i j)) c:=funext λj=>by
  have:(λx=>S ((p.set i j).set k x))=λx=>S ((p.set k x).set i j):=funext λx=>by rw[List.set_comm _ _ h]
  rw[this]
  grind
 rw[e,OW,MS 1 lo hi m (p.getD i 0) n (λx j=>S ((p.set k x).set i j)) c];have e2:(λx=>nT lo hi m i S (p.set k x))=λx=>(1/((LwB.fct m:Int):Rat))*LwB.lnN 1 lo hi m (λj=>S ((p.set k x).set i j)) (p.getD i 0):=funext λx=>by
  unfold nT LwB.bxT;rw[xF (Ne.symm h)]
  grind
 rw[e2,yK]
 grind
theorem WA{lo hi:Rat}{m i k:Nat}{S:List Nat->Rat}{p:List Nat}(h:i≠k):nT lo hi m i (uG k S) p=uG k (nT lo hi m i S) p:=by
 have:=nT_bb (lo:=lo) (hi:=hi) (m:=m) (n:=p.getD k 0) (c:=0) (S:=S) (p:=p) h;unfold uG;rw[<-this]
 conv=>lhs;unfold nT LwB.bxT
 simp only[xF h]
theorem VZ{lo hi:Rat}{m m' i k:Nat}{S:List Nat->Rat}{p:List Nat}(h:i≠k):nT lo hi m i (uF m' k S) p=uF m' k (nT lo hi m i S) p:=by
 have:=nT_bb (lo:=lo) (hi:=hi) (m:=m) (n:=m'-p.getD k 0) (c:=p.getD k 0) (S:=S) (p:=p) h;unfold uF;rw[<-this]
 conv=>lhs;unfold nT LwB.bxT
 simp only[xF h]
theorem WC{lo hi:Rat}{m k:Nat}{S S':List Nat->Rat}{p:List Nat}(hm:p.getD k 0<=m)(h:∀j,j<=m->S (p.set k j)=S' (p.set k j)):nT lo hi m k S p=nT lo hi m k S' p:=by
 unfold nT LwB.bxT;rw[FA hm h]
theorem HI{ns p:List Nat}{k j:Nat}(hp:p∈LwB.plc ns)(hj:k<ns.length->j<ns.getD k 0):p.set k j∈LwB.plc ns:=by
 obtain⟨h1,h2⟩:=(LwB.plc_in ns).mp hp;refine(LwB.plc_in ns).mpr ⟨by rw[List.length_set];exact h1,λi hi=>?_⟩;by_cases c:k=i
 ·subst c;rw[xP (by rw[h1];exact hi)];exact hj hi
 ·rw[xF c];exact h2 i hi
def loE(ends:List (Rat×Rat))(k:Nat):List (Rat×Rat):=ends.set k ((ends.getD k (0,0)).1,((ends.getD k (0,0)).1+(ends.getD k (0,0)).2)/2)
def hiE(ends:List (Rat×Rat))(k:Nat):List (Rat×Rat):=ends.set k (((ends.getD k (0,0)).1+(ends.getD k (0,0)).2)/2,(ends.getD k (0,0)).2)
theorem BJ{ends:List (Rat×Rat)}{e:Rat×Rat}{i k:Nat}(h:k≠i):(ends.set k e).getD i (0,0)=ends.getD i (0,0):=by
 rw[uR,List.getElem?_set_ne h,<-uR]
theorem AL{ends:List (Rat×Rat)}{e:Rat×Rat}{k:Nat}(h:k<ends.length):(ends.set k e).getD k (0,0)=e:=by
 rw[uR,List.getElem?_set_self h]
 rfl
theorem IP{ends:List (Rat×Rat)}{ns:List Nat}{T:List Nat->Rat}{k:Nat}{e:Rat×Rat}(hk:k<ns.length)(he:ends.length=ns.length)(h1:∀n∈ns,1<=n)(Hf:(List Nat->Rat)->List Nat->Rat)
  (turn:∀(S:List Nat->Rat) (p:List Nat),p∈LwB.plc ns->nT e.1 e.2 (ns.getD k 0-1) k S p=Hf (nT (ends.getD k (0,0)).1 (ends.getD k (0,0)).2 (ns.getD k 0-1) k S) p) (comm:∀(lo hi:Rat) (m i:Nat) (S:List Nat->Rat) (p:List Nat),i≠k->nT lo hi m i (Hf S) p=Hf (nT lo hi m i S) p) :
  ∀(i:Nat),i<=ns.length->∀p,p∈LwB.plc ns->bzT (ends.set k e) ns T i p=if i<=k then bzT ends ns T i p else Hf (bzT ends ns T i) p
 | 0,_,p,_=>by rw[tI (nX _)];rfl
 | i+1,hi,p,hp=>by
  have ih:=IP (T:=T) hk he h1 Hf turn comm i (by omega);obtain⟨pl,pb⟩:=(LwB.plc_in ns).mp hp;have gn:ns.getD i 0=ns[i]:=by rw[uR,uW (by omega)];rfl
  have n1:=h1 ns[i] (mM (by omega));have pi:=pb i (by omega);show nT ((ends.set k e).getD i (0,0)).1 ((ends.set k e).getD i (0,0)).2 (ns.getD i 0-1) i (bzT (ends.set k e) ns T i) p=_;have cg:∀{lo hi:Rat} {S:List Nat->Rat},(∀q,q∈LwB.plc ns->bzT (ends.set k e) ns T i q=S q)->nT lo hi (ns.getD i 0-1) i (bzT (ends.set k e) ns T i) p=nT lo hi (ns.getD i 0-1) i S p:=λh=>WC (by omega) λj hj=>h _ (HI hp λ_=>by omega);rcases Nat.lt_trichotomy i k with c | c | c
  ·rw[tI (by omega),BJ (by omega),cg (S:=bzT ends ns T i) λq hq=>by rw[ih q hq,tI (by omega)]]
   rfl
  ·subst c;rw[tH (by omega),AL (by omega),cg (S:=bzT ends ns T i) λq hq=>by rw[ih q hq,tI uO],turn _ _ hp]
   rfl
  ·rw[tH (by omega),BJ (by omega),cg (S:=Hf (bzT ends ns T i)) λq hq=>by rw[ih q hq,tH (by omega)],comm _ _ _ _ _ _ (by omega)]
   rfl
theorem XZ{ends:List (Rat×Rat)}{ns:List Nat}{T:List Nat->Rat}{k:Nat}(hk:k<ns.length)(he:ends.length=ns.length)(h1:∀n∈ns,1<=n){p:List Nat}(hp:p∈LwB.plc ns):bzT (loE ends k) ns T ns.length p=uG k (bzT ends ns T ns.length) p:=by
 have:=IP (T:=T) (e:=((ends.getD k (0,0)).1,((ends.getD k (0,0)).1+(ends.getD k (0,0)).2)/2)) hk he h1 (uG k) (λS p hp=>by
  obtain⟨pl,pb⟩:=(LwB.plc_in ns).mp hp;have:=pb k hk;exact nT_low (by omega) (by omega)) (λlo hi m i S p h=>WA h) ns.length uO p hp
 rw[tH (by omega)]at this;exact this
theorem QM{ends:List (Rat×Rat)}{ns:List Nat}{T:List Nat->Rat}{k:Nat}(hk:k<ns.length)(he:ends.length=ns.length)(h1:∀n∈ns,1<=n){p:List Nat}(hp:p∈LwB.plc ns):bzT (hiE ends k) ns T ns.length p=uF (ns.getD k 0-1) k (bzT ends ns T ns.length) p:=by
 have:=IP (T:=T) (e:=(((ends.getD k (0,0)).1+(ends.getD k (0,0)).2)/2,(ends.getD k (0,0)).2)) hk he h1 (uF (ns.getD k 0-1) k) (λS p hp=>by
  obtain⟨pl,pb⟩:=(LwB.plc_in ns).mp hp;have:=pb k hk;exact nT_high (by omega) (by omega)) (λlo hi m i S p h=>VZ h) ns.length uO p hp
 rw[tH (by omega)]at this;exact this
inductive Tr where
 | all:Tr
 | cut:Nat->Tr->Tr->Tr
def Tr.sz:Tr->Nat
 | .all=>1
 | .cut _ a b=>1+a.sz+b.sz
def Tr.dp:Tr->Nat
 | .all=>0
 | .cut _ a b=>max a.dp b.dp+1
def Tr.ok(many:Nat):Tr->Prop
 | .all=>True
 | .cut l a b=>l<many/\a.ok many/\b.ok many
def NnB(ns:List Nat)(T:List Nat->Rat)(ends:List (Rat×Rat)):Bool:=(LwB.plc ns).all λp=>decide (0<=(bzT ends ns T ns.length p).num)
def Tr.holds(ns:List Nat)(T:List Nat->Rat):List (Rat×Rat)->Tr->Bool
 | ends,.all=>NnB ns T ends
 | ends,.cut l a b=>a.holds ns T (loE ends l)&&b.holds ns T (hiE ends l)
theorem num_nn{x:Rat} :0<=x.num↔0<=x:=Rat.num_nonneg
theorem nnB_iff{ns:List Nat}{T:List Nat->Rat}{ends:List (Rat×Rat)} :NnB ns T ends=true↔∀p∈LwB.plc ns,0<=bzT ends ns T ns.length p:=by
 unfold NnB;rw[List.all_eq_true];exact⟨λh p hp=>num_nn.mp (mB (h p hp)),λh p hp=>mU (num_nn.mpr (h p hp))⟩
theorem XR{x:Rat}{j:Nat}(h:0<=x):0<=x/2^j:=by
 rw[Rat.div_def];refine mY h ?_;exact Rat.le_of_lt (Rat.inv_pos.mpr (Rat.pow_pos (by decide)))
theorem nn_half{ns:List Nat}{T:List Nat->Rat}{ends:List (Rat×Rat)}{k:Nat}(hk:k<ns.length)(he:ends.length=ns.length)(h1:∀n∈ns,1<=n)(h:NnB ns T ends=true):NnB ns T (loE ends k)=true/\NnB ns T (hiE ends k)=true:=by
 have h:=nnB_iff.mp h;have gn:ns.getD k 0=ns[k]:=by rw[uR,uW hk];rfl
 have n1:=h1 ns[k] (mM hk);refine⟨nnB_iff.mpr λp hp=>?_,nnB_iff.mpr λp hp=>?_⟩
 ·obtain⟨pl,pb⟩:=(LwB.plc_in ns).mp hp;have:=pb k hk;rw[XZ hk he h1 hp];exact XR (IQ λa _ ha=>h _ (HI hp λ_=>by omega))
 ·obtain⟨pl,pb⟩:=(LwB.plc_in ns).mp hp;have:=pb k hk;rw[QM hk he h1 hp];exact XR (IQ λa _ ha=>h _ (HI hp λ_=>by omega))
theorem NF{t s:Rat}(ht:0<=t)(hs:0<=s):∀n k,0<=LwB.wt t s n k
 | 0,0=>by show(0:Rat)<=1;decide
 | 0,k+1=>Rat.le_refl
 | n+1,0=>mY hs (NF ht hs n 0)
 | n+1,k+1=>Rat.add_nonneg (mY hs (NF ht hs n (k+1))) (mY ht (NF ht hs n k))
theorem TV:∀(φs:List (Nat->Rat)) (p:List Nat),(∀φ∈φs,∀k,0<=φ k)->0<=LwB.wtP φs p
 | [],_,_=>by unfold LwB.wtP;decide
 | _::_,[],_=>by unfold LwB.wtP;decide
 | φ::φs,j::p,h=>mY (h φ (gY ..) j) (TV φs p fun ψ hψ=>h ψ (gI _ hψ))
theorem UJ{α:Type}{f:α->Rat} :∀{l:List α},(∀a∈l,0<=f a)->0<=LwB.smL (l.map f)
 | [],_=>Rat.le_refl
 | a::l,h=>Rat.add_nonneg (h a (gY ..)) (UJ λb hb=>h b (gI _ hb))
structure InT(ends:List (Rat×Rat))(tt S:List Rat):Prop where
 lt:tt.length=ends.length
 lS:S.length=ends.length
 nn:∀i,i<ends.length->0<=tt.getD i 0/\tt.getD i 0<=1
 v:∀i,i<ends.length->(1-tt.getD i 0)*(ends.getD i (0,0)).1+tt.getD i 0*(ends.getD i (0,0)).2=S.getD i 0
theorem MT{ns:List Nat}{ends:List (Rat×Rat)}{L:Pl}{tt S:List Rat}(h1:∀n∈ns,1<=n)(hL:KeysIn ns L)(he:ends.length=ns.length)(hS:InT ends tt S)(h:NnB ns (cfN L) ends=true):0<=AF (pw S) L:=by
 have h:=nnB_iff.mp h;rw[<-TM (ends:=ends) (tt:=tt) h1 hL (by rw[hS.lS,he]) (by rw[hS.lt,he]) (λi hi=>hS.v i (by omega))];refine UJ λp hp=>mY (h p hp) (TV _ _ fun φ hφ k=>?_);unfold wts at hφ;obtain⟨i,hi⟩:=gF.mp hφ;rw[List.getElem?_zipWith]at hi;split at hi
 ·next n t hn htt=>
  cases hi;have il:i<ends.length:=by rw[he];exact(uU.mp hn).1
  have:=hS.nn i il;rw[uR,htt]at this;have t0:0<=t:=this.1;have t1:t<=1:=this.2;exact NF t0 (by grind) _ _
 ·cases hi
theorem GQ{l:List Rat}{k:Nat}{x:Rat}(h:k<l.length):(l.set k x).getD k 0=x:=by
 rw[uR,List.getElem?_set_self h]
 rfl
theorem BA{l:List Rat}{k i:Nat}{x:Rat}(h:k≠i):(l.set k x).getD i 0=l.getD i 0:=by
 rw[uR,List.getElem?_set_ne h,<-uR]
theorem in_half{ends:List (Rat×Rat)}{tt S:List Rat}{k:Nat}(hk:k<ends.length)(h:InT ends tt S):(∃tt',InT (loE ends k) tt' S)∨∃tt',InT (hiE ends k) tt' S:=by
 have hv:=h.v k hk;have hn:=h.nn k hk;have hl:=h.lt;have ll:(loE ends k).length=ends.length:=by unfold loE;rw[List.length_set]
 have lh:(hiE ends k).length=ends.length:=by unfold hiE;rw[List.length_set]
 by_cases c:2*tt.getD k 0<=1
 ·left
  refine⟨tt.set k (2*tt.getD k 0),by rw[List.length_set,ll];exact hl,by rw[ll];exact h.lS,λi hi=>?_,λi hi=>?_⟩
  ·rw[ll]at hi;by_cases d:k=i
   ·subst d;rw[GQ (by omega)];exact⟨by grind,c⟩
   ·rw[BA d];exact h.nn i hi
  ·rw[ll]at hi;by_cases d:k=i
   ·subst d;unfold loE;rw[GQ (by omega),AL hk,<-hv]
    grind
   ·unfold loE;rw[BA d,BJ d];exact h.v i hi
 ·right
  refine⟨tt.set k (2*tt.getD k 0-1),by rw[List.length_set,lh];exact hl,by rw[lh];exact h.lS,λi hi=>?_,λi hi=>?_⟩
  ·rw[lh]at hi;by_cases d:k=i
   ·subst d;rw[GQ (by omega)];exact⟨by grind,by grind⟩
   ·rw[BA d];exact h.nn i hi
  ·rw[lh]at hi;by_cases d:k=i
   ·subst d;unfold hiE;rw[GQ (by omega),AL hk,<-hv]
    grind
   ·unfold hiE;rw[BA d,BJ d];exact h.v i hi
theorem wZ(ends:List (Rat×Rat))(k:Nat):(loE ends k).length=ends.length:=by unfold loE;rw[List.length_set]
theorem uE(ends:List (Rat×Rat))(k:Nat):(hiE ends k).length=ends.length:=by unfold hiE;rw[List.length_set]
theorem zX{ns:List Nat}{L:Pl}{S:List Rat}(h1:∀n∈ns,1<=n)(hL:KeysIn ns L):∀(t:Tr) (ends:List (Rat×Rat)) (tt:List Rat),t.ok ns.length->ends.length=ns.length->InT ends tt S->t.holds ns (cfN L) ends=true->0<=AF (pw S) L
 | .all,ends,tt,_,he,hS,h=>MT h1 hL he hS h
 | .cut l a b,ends,tt,ok,he,hS,h=>by
  obtain⟨o1,o2,o3⟩:=ok;have h:(a.holds ns (cfN L) (loE ends l)&&b.holds ns (cfN L) (hiE ends l))=true:=h;rw[Bool.and_eq_true]at h;rcases in_half (k:=l) (show l<ends.length by omega) hS with⟨t',h'⟩ | ⟨t',h'⟩
  ·exact zX h1 hL a _ t' o2 (by rw[wZ,he]) h' h.1
  ·exact zX h1 hL b _ t' o3 (by rw[uE,he]) h' h.2
inductive Grow(many:Nat):Tr->Tr->Prop where
 | all {l:Nat} (h:l<many):Grow many .all (.cut l .all .all)
 | left {l:Nat} {a a' b:Tr} (h:Grow many a a'):Grow many (.cut l a b) (.cut l a' b)
 | right {l:Nat} {a b b':Tr} (h:Grow many b b'):Grow many (.cut l a b) (.cut l a b')
theorem Grow.holds{ns:List Nat}{T:List Nat->Rat}(h1:∀n∈ns,1<=n){t t':Tr}(g:Grow ns.length t t'):∀ends:List (Rat×Rat),ends.length=ns.length->t.holds ns T ends=true->t'.holds ns T ends=true:=by
 induction g with
 | all h=>
  intro ends he hh;have:=nn_half h he h1 hh;show(NnB ns T (loE ends _)&&NnB ns T (hiE ends _))=true;rw[this.1,this.2]
  rfl
 | @left l a a' b _ ih=>
  intro ends he hh;have hh:(a.holds ns T (loE ends l)&&b.holds ns T (hiE ends l))=true:=hh;rw[Bool.and_eq_true]at hh;show(a'.holds ns T (loE ends l)&&b.holds ns T (hiE ends l))=true;rw[ih _ (by rw[wZ,he]) hh.1,hh.2]
  rfl
 | @right l a b b' _ ih=>
  intro ends he hh;have hh:(a.holds ns T (loE ends l)&&b.holds ns T (hiE ends l))=true:=hh;rw[Bool.and_eq_true]at hh;show(a.holds ns T (loE ends l)&&b'.holds ns T (hiE ends l))=true;rw[ih _ (by rw[uE,he]) hh.2,hh.1]
  rfl
theorem Grow.ok{many:Nat}{t t':Tr}(g:Grow many t t'):t.ok many->t'.ok many:=by
 induction g with
 | all h=>exact λ_=>⟨h,trivial,trivial⟩
 | left _ ih=>exact λ⟨a,b,c⟩=>⟨a,ih b,c⟩
 | right _ ih=>exact λ⟨a,b,c⟩=>⟨a,b,ih c⟩
theorem Grow.sz{many:Nat}{t t':Tr}(g:Grow many t t'):t'.sz=t.sz+2:=by
 induction g with
 | all=>rfl
 | @left l a a' b _ ih=>show 1+a'.sz+b.sz=1+a.sz+b.sz+2;omega
 | @right l a b b' _ ih=>show 1+a.sz+b'.sz=1+a.sz+b.sz+2;omega
theorem Grow.dp{many:Nat}{t t':Tr}(g:Grow many t t'):t'.dp<=t.dp+1:=by
 induction g with
 | all=>exact nW _
 | @left l a a' b _ ih=>show max a'.dp b.dp+1<=max a.dp b.dp+1+1;omega
 | @right l a b b' _ ih=>show max a.dp b'.dp+1<=max a.dp b.dp+1+1;omega
theorem cut63(ns:List Int):∃ms:List Int,zT (ns.map V.int) none (some 63)=ms.map V.int/\ms.length<=63:=by
 refine⟨(ns.drop (HT.sIx (ns.map V.int).length 0 none)).take (HT.sIx (ns.map V.int).length (ns.map V.int).length (some 63)-HT.sIx (ns.map V.int).length 0 none), ?_, ?_⟩
 ·unfold zT;rw[<-List.map_drop,<-List.map_take]
 ·rw[mI];have:HT.sIx (ns.map V.int).length (ns.map V.int).length (some 63)<=63:=by
   have:=HT.sIx_nat (ns.map V.int).length (ns.map V.int).length 63;rw[show((63:Nat):Int)=63 from rfl]at this;rw[this];exact Nat.min_le_left _ _
  omega
theorem JC{A1 A2 A3 A4 R:TS}{D:Ends}{σ:L2.St}{H:Hp}(J:L2.St->Hp->Prop)(h:∀TT:TS,(∀σ H,J σ H->TT D σ H)->qM A1 (qM A2 (qM A3 (qM A4 TT))) D σ H)(tl:∀σ H,J σ H->R D σ H):qM A1 (qM A2 (qM A3 (qM A4 R))) D σ H:=h R tl
theorem UK{A1 A2 A3 A4 A5 R:TS}{D:Ends}{σ:L2.St}{H:Hp}(J:L2.St->Hp->Prop)(h:∀TT:TS,(∀σ H,J σ H->TT D σ H)->qM A1 (qM A2 (qM A3 (qM A4 (qM A5 TT)))) D σ H)(tl:∀σ H,J σ H->R D σ H):qM A1 (qM A2 (qM A3 (qM A4 (qM A5 R)))) D σ H:=h R tl
def frD(r:Rat):PyData:=.tuple [.int r.num,.int r.den]
def enD(e:Rat×Rat):PyData:=.tuple [frD e.1,frD e.2]
def enL(es:List (Rat×Rat)):PyData:=.list (es.map enD)
theorem PF{α:Type}{g:α->PyData}(h:∀a,(g a).canLay0=true):∀l:List α,PyData.canLayAll0 (l.map g)=true
 | []=>by simp [PyData.canLayAll0]
 | r::l=>by
  have:=PF h l;simp [PyData.canLayAll0,h r,this]
theorem BL{α:Type}{g:α->PyData}{n:Nat}(h:∀a,(g a).depth<=n):∀l:List α,PyData.depthAll (l.map g)<=n+1
 | []=>by simp [PyData.depthAll]
 | r::l=>by
  have h1:=BL h l;have h2:=h r;simp [PyData.depthAll];omega
theorem XB(r:Rat):(frD r).canLay0=true/\(frD r).depth<=10:=⟨by simp [frD,PyData.canLay0,PyData.canLayAll0],by simp [frD,PyData.depth,PyData.depthAll]⟩
theorem II(e:Rat×Rat):(enD e).canLay0=true/\(enD e).depth<=20:=by
 have h1:=XB e.1;have h2:=XB e.2;refine⟨by simp [enD,PyData.canLay0,PyData.canLayAll0,h1.1,h2.1], ?_⟩;simp [enD,PyData.depth,PyData.depthAll];omega
theorem HU{α:Type}{g:α->PyData}{n:Nat}(h:∀a,(g a).canLay0=true/\(g a).depth<=n)(hn:n<=40)(l:List α):DataOk (.list (l.map g)):=by
 refine⟨by simp [PyData.canLay0,PF (λa=>(h a).1) l], ?_⟩;have:=BL (λa=>(h a).2) l;simp [PyData.depth];omega
theorem IK{H:Hp} :∀{xs:List V} {es:List (Rat×Rat)},Paired (EndH H) xs es->DecVs H xs (es.map enD)
 | _,_,.nil=>.nil
 | _,_,.cons h t=>by
  obtain⟨r,a,b,e1,e2,e3,e4⟩:=h.ex;subst e1;exact .cons (.tup e2 (.cons (.tup e3 (.cons (.int _) (.cons (.int _) .nil))) (.cons (.tup e4 (.cons (.int _) (.cons (.int _) .nil))) .nil))) (IK t)
def inD(zs:List Int):PyData:=.list (zs.map PyData.int)
theorem WU(zs:List Int):DataOk (inD zs):=HU (g:=PyData.int) (n:=10) (λa=>⟨by simp [PyData.canLay0],by simp [PyData.depth]⟩) (by decide) zs
theorem FG{H:Hp} :∀zs:List Int,DecVs H (zs.map V.int) (zs.map PyData.int)
 | []=>.nil
 | z::zs=>.cons (.int z) (FG zs)
theorem inD_nil(zs:List Int):PyData.eqv (inD zs) (inD [])=decide (zs=[]):=by
 cases zs with
 | nil=>simp [inD,PyData.eqv,PyData.eqvAll]
 | cons z zs=>simp [inD,PyData.eqv,PyData.eqvAll]
theorem UC{c:Nat} :∀(ns:List Nat),(∀n∈ns,n<=c)->LwB.szP ns<=c^ns.length
 | [],_=>nW _
 | n::ns,h=>by
  rw[mL,Nat.pow_succ,Nat.mul_comm];exact mX (h n (gY ..)) (UC ns λk hk=>h k (gI _ hk))
theorem keys_in{H:Hp}{many:Nat}{z:Sz}{E:List Ent}(db:DB H many z E):KeysIn (szT many (E.map Ent.ns)) (pl E):=λy hy=>by
 unfold pl at hy;obtain⟨e,he,rfl⟩:=nN.mp hy;have k:=db.each e he;refine⟨e.ns.map Int.toNat,(LwB.plc_in _).mpr ⟨by rw[mP,vO,k.len],λi hi=>?_⟩, ?_⟩
 ·rw[vO]at hi;have c:i<e.ns.length:=by rw[k.len];exact hi
  have h1:=CO (i:=i) (List.mem_map_of_mem (f:=Ent.ns) he);rw[uR,uW c]at h1;have h1:(e.ns[i]).toNat<=mxK (E.map Ent.ns) i:=h1;rw[uR,hJ,uW c,uR,LW _ hi];show(e.ns[i]).toNat<mxK (E.map Ent.ns) i+1;omega
 ·show e.ns=ipw (e.ns.map Int.toNat);unfold ipw;rw[nP];refine(List.map_id _).symm.trans (List.map_congr_left λn hn=>?_);have:=k.nn n hn;show n=((n.toNat:Nat):Int);omega
def MV(P:Pl):List (List Int):=P.map (·.1)
theorem PJ(ts:List Trm):ts.map Trm.ns=MV (tl ts):=by unfold MV tl;rw[nP];rfl
theorem PL(E:List Ent):E.map Ent.ns=MV (pl E):=(wV E).symm
theorem IV{many:Nat}{P Q:Pl}(h:P.Perm Q):szT many (MV P)=szT many (MV Q):=by
 unfold szT;refine List.map_congr_left λi _=>?_;rw[show mxK (MV P) i=mxK (MV Q) i from mxK_mem λa=>(h.map (·.1)).mem_iff]
theorem EndC.half{k:Nat}{e:Rat×Rat}(h:EndC k e):EndC (k+1) (e.1,(e.1+e.2)/2)/\EndC (k+1) ((e.1+e.2)/2,e.2):=by
 obtain⟨D,dp,d81,w1,w2⟩:=h.D;have up:∀x,Wh (D*2^k) x->Wh (D*2^(k+1)) x:=λx hx=>by
  rw[Int.pow_succ,<-nI];exact hx.up 2
 have hm:Wh (D*2^(k+1)) ((e.1+e.2)/2):=by
  obtain⟨z,hz⟩:=w1.add w2;refine⟨z, ?_⟩;rw[Int.pow_succ,<-nI,mT,<-hz];have:((2:Int):Rat)=2:=rfl;rw[this]
  grind
 have bm:Bd 16 ((e.1+e.2)/2):=by
  have h1:=h.b1.add h.b2;refine LO (t:=(e.1+e.2).num) (b:=(e.1+e.2).den*2) (by have:=(e.1+e.2).den_pos;omega) ?_ ?_
  ·conv=>lhs;rw[<-qH (e.1+e.2)]
   unfold fv;rw[mT];have:=cne (b:=((e.1+e.2).den:Int)) (by have:=(e.1+e.2).den_pos;omega);have:((2:Int):Rat)=2:=rfl
   grind
  ·refine nK h1 ?_;rw[mV,gX];show 32*_<=16*(_*2);omega
 exact⟨⟨⟨D,dp,d81,up _ w1,hm⟩,h.b1,bm⟩,⟨⟨D,dp,d81,hm,up _ w2⟩,bm,h.b2⟩⟩
theorem Paired.set{α β:Type}{F:α->β->Prop} :∀{l₁:List α} {l₂:List β} {i:Nat} {x:α} {y:β},Paired F l₁ l₂->F x y->Paired F (l₁.set i x) (l₂.set i y)
 | _,_,_,_,_,.nil,_=>.nil
 | _,_,0,_,_,.cons _ t,h=>.cons h t
 | _,_,i+1,_,_,.cons h0 t,h=>.cons h0 (Paired.set (i:=i) t h)
def bbI:Nat->(Nat->Int)->Nat->Int
 | 0,b,i=>b i
 | j+1,b,i=>bbI j b i+bbI j b (i+1)
theorem QQ:∀(j:Nat) (b:Nat->Int) (i:Nat),((bbI j b i:Int):Rat)=bbT j (λa=>((b a:Int):Rat)) i
 | 0,_,_=>rfl
 | j+1,b,i=>by
  show((bbI j b i+bbI j b (i+1):Int):Rat)=bbT j _ i+bbT j _ (i+1);rw[Rat.intCast_add,QQ j b i,QQ j b (i+1)]
theorem EC{B:Nat}{b:Nat->Int}(h:∀a,(b a).natAbs<2^B):∀(j i:Nat),(bbI j b i).natAbs<2^(B+j)
 | 0,i=>h i
 | j+1,i=>QT (EC h j i) (EC h j (i+1))
def lnJ(m j:Nat)(b:Nat->Int):List Int:=(List.range (m+1-j)).map λi=>bbI j b i
def lnF(line:List Int):Nat->Int:=λa=>line.getD a 0
def lhL(line:List Int):List Int:=(List.range line.length).map λj=>bbI j (lnF line) 0*2^(line.length-1-j)
def lhH(line:List Int):List Int:=(List.range line.length).map λi=>bbI (line.length-1-i) (lnF line) i*2^i
def lhR(m:Nat)(b:Nat->Int)(j:Nat):List Int:=(List.range j).map λj'=>bbI j' b (m-j')*2^(m-j')
theorem lh_rev{line:List Int}{m:Nat}(hm:line.length=m+1):(lhR m (lnF line) (m+1)).reverse=lhH line:=by
 refine mH λi=>?_;unfold lhR lhH;rw[hm];by_cases h:i<m+1
 ·rw[List.getElem?_reverse (by rw[mP,mC];exact h),mP,mC,hJ,gP (by omega),hJ,gP h];show some (bbI (m+1-1-i) (lnF line) (m-(m+1-1-i))*2^(m-(m+1-1-i)))=some (bbI (m+1-1-i) (lnF line) i*2^i);rw[show m-(m+1-1-i)=i by omega]
 ·rw[gE (by rw[List.length_reverse,mP,mC];omega),gE (by rw[mP,mC];omega)]
theorem WK{line:List Int}{m:Nat}(hm:line.length=m+1):lnJ m 0 (lnF line)=line:=by
 unfold lnJ;refine mH λi=>?_;rw[Nat.sub_zero,hJ];by_cases h:i<m+1
 ·rw[gP h,uW (by omega)];show some (line.getD i 0)=_;rw[uR,uW (by omega)]
  rfl
 ·rw[gE (by rw[mC];omega),gE (by omega)]
  rfl
theorem uA(m j:Nat)(b:Nat->Int):(lnJ m j b).length=m+1-j:=by unfold lnJ;rw[mP,mC]
theorem CS{m j i:Nat}{b:Nat->Int}(h:i<m+1-j):(lnJ m j b)[i]? = some (bbI j b i):=by unfold lnJ;rw[hJ,gP h];rfl
inductive LhI(H:Hp)(line:List Int)(m j:Nat):L2.St->Hp->Prop where
 | mk {la lo hi:Addr} {H1:Hp} (s:Same H H1) (nlo:H lo=none) (nhi:H hi=none) (e1:H1 la=some (.lst ((lnJ m j (lnF line)).map V.int))) (e2:H1 lo=some (.lst (((lhL line).take j).map V.int))) (e3:H1 hi=some (.lst ((lhR m (lnF line) j).map V.int))) (n1:lo≠hi) (n2:la≠lo) (n3:la≠hi):LhI H line m j [some (.ref la),some (.ref lo),some (.ref hi),some (.int ((m:Int)-(j:Int)))] H1
def spLHalf:Sp:=λvs H Q _=>∃(l:Addr) (line:List Int) (B:Nat),vs=[.ref l]/\H l=some (.lst (line.map V.int))/\1<=line.length/\line.length<=5/\(∀z∈line,z.natAbs<2^B)/\B<=50000/\
 ∀(p lo hi:Addr) (H':Hp),H p=none->H lo=none->H hi=none->Same H H'->H' p=some (.tup [.ref lo,.ref hi])->H' lo=some (.lst ((lhL line).map V.int))->H' hi=some (.lst ((lhH line).map V.int))->Q (.ref p) H'
theorem scLh:FnScope ["line","low","high","spare"] ["line"] (jQ HD):=⟨rfl,rfl,rfl,by decide +kernel,rfl,by decide +kernel,by decide +kernel⟩
theorem VL(F:Fun K "line_halved" "line_halved" HD f fd)(T:Txt mg):FnOk P w K mg base CX0 1 f fd ["line"] spLHalf:=by
 refine F.ok scLh (λvs H Q E h=>?_) (λcdv A outer s H vs Q E hr h=>?_)
 ·obtain⟨l,line,B,rfl,_⟩:=h
  rfl
 ·obtain⟨l,line,B,rfl,hl,l1,l5,hB,b5,go⟩:=h;have hu:_+64<cLine:=hr.units;refine⟨_,jB (CH (i:=1) (j:=2) rfl scLh.nd rfl rfl (by decide) rfl rfl (jA (qC jC) (jA (qC jC) jC)) rfl) (jB (jN (i:=3) scLh.nd rfl (Or.inl rfl) (jK qL (qD qG (by rfl) T.len PySem.boot_len (jA (pv 0) jC)) jD)) (jB (yR PassesOwn.never (jU (AI hu) (pv 0) (qC jC) (jX _)) (jB (qQ (wW PySem.F.plainAttrs_list PySem.F.slot_list_append PySem.F.type_list_append kR (pv 1) (jA (jK OI (jT kK (pv 0) jD (λ_ _=>rfl)) (pv 3)) jC))) (jB (qQ (wW PySem.F.plainAttrs_list PySem.F.slot_list_append PySem.F.type_list_append kR (pv 2) (jA (jK OI (jT kK (pv 0) (JM BR jD) (λ_ _=>rfl)) (pv 3)) jC))) (jB (CG (i:=0) scLh.nd rfl (Or.inl rfl) (own:=2) (idx:=[]) (N:=["first","second"]) rfl rfl rfl (by decide +kernel) (by decide +kernel) (λ_ _ h=>nomatch h) (qJ rfl) rfl (λ_ _ _ h=>nomatch h) (HK (by rfl) T.zip (jA (pv 0) (jA (vR vQ (pv 0) (vW jD) xE) jC))) (λC fp s2 H2=>show PG (jO _ ["first","second"] _ _ C fp s2 H2) _ (AM K 2 (qI (jP 0) (qI (jP 1) gNil)))from kJ (X:=jO _ ["first","second"] _ _ C fp s2 H2) rfl (jI (jF (i:=0) (show List.Nodup (["first","second"]:List Str) by decide +kernel) rfl (Or.inl rfl) (Or.inr rfl)) (jI (jF (i:=1) (show List.Nodup (["first","second"]:List Str) by decide +kernel) rfl (Or.inl rfl) (Or.inr rfl)) kC))) (λC fp s2 H2=>jK kW (pv 0) (pv 1))) (jE (ps_aug (i:=3) scLh.nd rfl (Or.inl rfl) jD iop_sub)))))) (jE (jS (jW (jA (pv 1) (jA (UZ (pv 2) (vW (JM BR jD))) jC))))))), ?_⟩
  try dsimp only[cxK]
  obtain⟨m,hm⟩:∃m,line.length=m+1:=⟨line.length-1,by omega⟩;have z0:0<=sizeLine:=nX _;have bF:∀a,(lnF line a).natAbs<2^B:=λa=>by
   unfold lnF;by_cases h:a<line.length
   ·rw[uR,uW h];exact hB _ (mM h)
   ·rw[uR,gE (by omega)];exact Nat.two_pow_pos _
  refine⟨z0,λlo H1 n1 s1 e1=>⟨z0,λhi H2 n2 s2 e2=>⟨_,_,rfl, ?_⟩⟩⟩;have nlo:lo≠hi:=λz=>by rw[z]at e1;rw[e1]at n2;cases n2
  have nl1:l≠lo:=λz=>by rw[z,n1]at hl;cases hl
  have nl2:l≠hi:=λz=>by rw[z]at hl;have:=s1 _ _ hl;rw[n2]at this;cases this
  have s12:=s1.trans s2;refine⟨_,rfl,l,_,rfl,.inl (SqL.of (s12 _ _ hl)),_,_,rfl,rfl, ?_⟩;rw[mP,hm];dsimp only[jP];refine⟨λm' σ H'=>∃j,m'=m+1-j/\j<=m+1/\LhI H line m j σ H',⟨_,0,rfl,nX _, ?_⟩, ?_⟩
  ·have:=LhI.mk (H:=H) (line:=line) (m:=m) (j:=0) (la:=l) (lo:=lo) (hi:=hi) s12 n1 (s1.free n2) (by rw[WK hm];exact s12 _ _ hl) (by rw[s2 _ _ e1];rfl) (by rw[e2];rfl) nlo nl1 nl2;rw[show((m:Int)-((0:Nat):Int))=((m+1:Nat):Int)-1 by omega]at this;exact this
  rintro m' σ H3 ⟨j,rfl,hj,h⟩;cases h with
  | @mk la lo hi _ s3 k1 k2 g1 g2 g3 d1 d2 d3=>
  refine⟨_,rfl,z0,λem H4 n4 s4 e4=>⟨inD (lnJ m j (lnF line)),inD [],.lst (s4 _ _ g1) (FG _),.lst e4 .nil,WU _,WU _,_,rfl, ?_⟩⟩;rw[inD_nil];have s34:=s3.trans s4;by_cases hjm:j<=m
  ·have ne:lnJ m j (lnF line)≠[]:=λz=>by
    have:=uA m j (lnF line);rw[z]at this;simp at this;omega
   refine IA (by rw[mR ne];rfl) ?_;refine⟨LhI H line m (j+1),fun σ' H' h=>⟨m+1-(j+1),by omega,j+1,rfl,by omega,h⟩, ?_⟩;have L1:=s4 _ _ g1;have bb:=λ(i:Nat)=>jJ (EC bF j i) (show B+j<=60000 by omega);have cs:0<=(m:Int)-(j:Int)/\(m:Int)-(j:Int)<=1000:=⟨by omega,by omega⟩;have pw:((m:Int)-(j:Int)).toNat=m-j:=by omega
   refine⟨_,rfl,.inl ⟨rfl,_,SqL.of (s4 _ _ g2)⟩,_,rfl,la,_,_,_,rfl,rfl,SqL.of L1,qS (j:=0) (by rw[hJ,CS (by omega)];rfl),_,rfl,_,_,rfl,rfl,⟨cs.1,cs.2,jJ (bb 0) (by decide)⟩, ?_⟩;have l2:(((lhL line).take j).map V.int).length<sizeLine:=by rw[mP,mI,sizeLine_eq];omega
   refine⟨lo,_,_,rfl,rfl,s4 _ _ g2,l2, ?_⟩;dsimp only;rw[pw];have tl:((lhL line).take j).map V.int++[V.int (bbI j (lnF line) 0*2^(m-j))]=((lhL line).take (j+1)).map V.int:=by
    rw[hW,mQ]
    congr 1
    have:(lhL line)[j]? = some (bbI j (lnF line) 0*2^(m-j)):=by
     unfold lhL;rw[hJ,gP (by omega),hm]
     rfl
    rw[this]
    rfl
   rw[tl];have b5':But lo H4 (upd H4 lo (.lst (((lhL line).take (j+1)).map V.int))):=But.upd _ _ _;have e5:(upd H4 lo (.lst (((lhL line).take (j+1)).map V.int))) lo=some (.lst (((lhL line).take (j+1)).map V.int)):=jG;have s5:Same H (upd H4 lo (.lst (((lhL line).take (j+1)).map V.int))):=jZ s34 k1;generalize upd H4 lo (.lst (((lhL line).take (j+1)).map V.int))=H5 at b5' e5 s5;have L5:=b5' _ _ L1 d2;have G5:=b5' _ _ (s4 _ _ g3) (Ne.symm d1);refine⟨_,rfl,.inl ⟨rfl,_,SqL.of G5⟩,_,rfl,_,rfl,la,_,_,_,rfl,rfl,SqL.of L5, ?_,_,rfl,_,_,rfl,rfl,⟨cs.1,cs.2,jJ (bb (m-j)) (by decide)⟩, ?_⟩
   ·unfold atI ixN;rw[mP,uA,tH (by decide),tI (by omega),show((-1:Int)+((m+1-j:Nat):Int)).toNat=m-j by omega];show((lnJ m j (lnF line)).map V.int)[m-j]? = _;rw[hJ,CS (by omega)]
    rfl
   have l3:((lhR m (lnF line) j).map V.int).length<sizeLine:=by unfold lhR;rw[mP,mP,mC,sizeLine_eq];omega
   refine⟨hi,_,_,rfl,rfl,G5,l3, ?_⟩;dsimp only;rw[pw];have th:(lhR m (lnF line) j).map V.int++[V.int (bbI j (lnF line) (m-j)*2^(m-j))]=(lhR m (lnF line) (j+1)).map V.int:=by
    unfold lhR;rw[List.range_succ,mQ,mQ]
    rfl
   rw[th];have b6':But hi H5 (upd H5 hi (.lst ((lhR m (lnF line) (j+1)).map V.int))):=But.upd _ _ _;have e6:(upd H5 hi (.lst ((lhR m (lnF line) (j+1)).map V.int))) hi=some (.lst ((lhR m (lnF line) (j+1)).map V.int)):=jG;have s6:Same H (upd H5 hi (.lst ((lhR m (lnF line) (j+1)).map V.int))):=jZ s5 k2;generalize upd H5 hi (.lst ((lhR m (lnF line) (j+1)).map V.int))=H6 at b6' e6 s6;have L6:=b6' _ _ L5 d3;have E6:=b6' _ _ e5 d1;generalize hrow:lnJ m j (lnF line)=row at L6;have rl:row.length=m+1-j:=by rw[<-hrow,uA]
   refine⟨_,rfl,_,rfl,_,rfl,la,_,rfl,SqL.of L6,λq H7 n7 s7 e7=>?_⟩;have cd:zT (row.map V.int) (some 1) none=(row.drop 1).map V.int:=by
    rw[show(1:Int)=((1:Nat):Int)from rfl,DQ,List.map_drop]
   rw[cd]at e7;refine⟨la,q,rfl,⟨_,SqL.of (s7 _ _ L6)⟩,⟨_,SqL.of e7⟩,λp H8 n8 s8 e8=>?_⟩;refine FI (ts:=row.map V.int) (us:=(row.drop 1).map V.int) (CmI (λk=>((lnJ m (j+1) (lnF line)).take k).map V.int) p H7) (by simp) (by rw[mP,List.length_drop,sizeLine_eq];omega) ⟨s8,e8,rfl⟩ (λi ys H9 h=>⟨SqL.of ((s7.trans h.s) _ _ L6),SqL.of (h.s _ _ e7),h.e⟩) ?_ ?_
   ·rintro k mm ys x y c H9 hxx hy hmm hyl ⟨s9,h9,ey⟩ hc;rw[hJ]at hxx hy;obtain⟨x',hx',rfl⟩:=Option.map_eq_some_iff.mp hxx;obtain⟨y',hy',rfl⟩:=Option.map_eq_some_iff.mp hy;have s10:Same H9 (upd H9 c (.tup [.int x',.int y'])):=kD _ hc;have e10:(upd H9 c (.tup [.int x',.int y'])) c=some (.tup [.int x',.int y']):=jG;generalize upd H9 c (.tup [.int x',.int y'])=H10 at s10 e10;rw[List.getElem?_drop,Nat.add_comm 1 k]at hy';have k1':k+1<m+1-j:=by rw[<-rl];exact(uU.mp hy').1
    have vx:x'=bbI j (lnF line) k:=by rw[<-hrow,CS (by omega)]at hx';exact(Option.some.inj hx').symm
    have vy:y'=bbI j (lnF line) (k+1):=by rw[<-hrow,CS k1']at hy';exact(Option.some.inj hy').symm
    refine gT2 (SqT.of e10) rfl ⟨uC,_,rfl,_,rfl,_,_,rfl,rfl, ?_⟩;refine kF (by rw[hJ,List.getElem?_drop,Nat.add_comm 1 k,hy'];rfl) hmm hyl (s10 _ _ h9) ⟨jZ (s9.trans s10) n8,jG, ?_⟩;rw[ey,hW,mQ]
    congr 1
    rw[CS (show k<m+1-(j+1) by omega),vx,vy]
    rfl
   ·rintro ys H9 hyl ⟨s9,h9,ey⟩;rw[gA (by rw[uA,mP,List.length_drop,rl];omega)]at ey;dsimp only[jP];refine⟨_,rfl,_,_,rfl,rfl, ?_⟩;have s79:=s7.trans s9;have np1:p≠lo:=λz=>by rw[z,s7 _ _ E6]at n8;cases n8
    have np2:p≠hi:=λz=>by rw[z,s7 _ _ e6]at n8;cases n8
    have:=LhI.mk (H:=H) (line:=line) (m:=m) (j:=j+1) (la:=p) (lo:=lo) (hi:=hi) (s6.trans s79) k1 k2 (by rw[h9,ey]) (s79 _ _ E6) (s79 _ _ e6) d1 np1 np2;rw[show(m:Int)-((j+1:Nat):Int)=(m:Int)-(j:Int)-1 by omega]at this;exact this
  ·obtain rfl:j=m+1:=by omega
   have nil:lnJ m (m+1) (lnF line)=[]:=List.eq_nil_of_length_eq_zero (by rw[uA];omega);refine CT (by rw[nil];rfl) ?_;refine⟨_,rfl,_,rfl,_,rfl,_,rfl,rfl,hi,_,rfl,SqL.of (s4 _ _ g3),λrv H5 n5 s5 e5=>⟨uQ,λp H6 n6 s6 e6=>?_⟩⟩;rw[<-List.map_reverse,lh_rev hm]at e5;have E2:=(s4.trans (s5.trans s6)) _ _ g2;rw[gA (by unfold lhL;rw[mP,mC,hm];exact nW _)]at E2;exact go p lo rv H6 ((s34.trans s5).free n6) k1 (s34.free n5) (s34.trans (s5.trans s6)) e6 E2 (s6 _ _ e5)
theorem gT3n{K:tJ}{H:Hp}{a:Addr}{x y v:V}{i j k n:Nat}{σ:L2.St}{Q:L2.St->Hp->Prop}(h:SqT K H a [x,y,v])(hn:3=n)(q:Q (((σ.set i (some x)).set j (some y)).set k (some v)) H):AM K n (qI (jP i) (qI (jP j) (qI (jP k) gNil))) (.ref a) σ H Q:=⟨a,_,rfl,h,hn,_,_,rfl,_,_,rfl,_,_,rfl,rfl,q⟩
def yY(ns:List Nat)(k:Nat)(V:Nat->List Int)(S:List Nat)(R:List Int):List Int:=S.foldl (λR s=>vL R ((jY ns k s).zip (V s))) R
theorem UE{ns:List Nat}{k n s:Nat}{V:List Int}{R:List Int}(hn:ns[k]? = some n)(hs:s∈LwB.startsL ns k)(hV:V.length=n)(hR:R.length=LwB.szP ns) :
  (vL R ((jY ns k s).zip V)).length=LwB.szP ns/\∀s' j,s'∈LwB.startsL ns k->j<n->(vL R ((jY ns k s).zip V)).getD (s'+j*LwB.strd ns k) 0=if s'=s then V.getD j 0 else R.getD (s'+j*LwB.strd ns k) 0:=by
 have gD:ns.getD k 0=n:=by rw[uR,hn];rfl
 have ll:(jY ns k s).length=n:=by rw[vM,gD]
 refine⟨by rw[xQ];exact hR,λs' j hs' hj=>?_⟩;have ndl:(jY ns k s).Nodup:=by
  unfold jY;rw[gD];refine List.pairwise_map.mpr (List.Pairwise.imp_of_mem ?_ (List.nodup_range (n:=n)));intro a b ha hb hab z;exact hab (zM hn hs hs (mW.mp ha) (mW.mp hb) z).2
 by_cases c:s'=s
 ·subst c;rw[tI rfl];refine GV _ _ (by rw[List.map_fst_zip (by omega)];exact ndl) ?_ (by rw[hR];exact yD hn hs hj);refine gH (i:=j) ?_;rw[List.getElem?_zip_eq_some];refine⟨uB (by rw[gD];exact hj), ?_⟩;rw[uR,uW (by rw[hV];exact hj)]
  rfl
 ·rw[tH c];refine wL _ _ λz hz e=>c ?_;have:=(List.of_mem_zip (show(z.1,z.2)∈_ from hz)).1;unfold jY at this;obtain⟨i,hi,ei⟩:=nN.mp this;rw[gD]at hi;exact(zM hn hs hs' (mW.mp hi) hj (ei.trans e)).1.symm
theorem xC{ns:List Nat}{k n:Nat}{V:Nat->List Int}(hn:ns[k]? = some n)(hV:∀s,(V s).length=n):∀(S:List Nat),(∀s∈S,s∈LwB.startsL ns k)->∀R:List Int,R.length=LwB.szP ns->
  (yY ns k V S R).length=LwB.szP ns/\∀s j,s∈LwB.startsL ns k->j<n->(yY ns k V S R).getD (s+j*LwB.strd ns k) 0=if s∈S then(V s).getD j 0 else R.getD (s+j*LwB.strd ns k) 0
 | [],_,R,hR=>⟨hR,λs j _ _=>by rw[tH (by simp)];rfl⟩
 | s0::S,hS,R,hR=>by
  obtain⟨l1,st⟩:=UE hn (hS s0 (gY ..)) (hV s0) hR;obtain⟨l2,ih⟩:=xC hn hV S (λs hs=>hS s (gI _ hs)) _ l1;refine⟨l2,λs j hs hj=>?_⟩;show(yY ns k V S (vL R ((jY ns k s0).zip (V s0)))).getD (s+j*LwB.strd ns k) 0=_;rw[ih s j hs hj];by_cases d:s∈S
  ·rw[tI d,tI (gI _ d)]
  ·rw[tH d,st s j hs hj];by_cases c:s=s0
   ·rw[tI c,tI (by rw[c];exact gY ..),c]
   ·rw[tH c,tH λz=>(nF.mp z).elim c d]
def vals(ns:List Nat)(k:Nat)(R:List Int)(s:Nat):List Int:=(jY ns k s).map λa=>R.getD a 0
def wS(g:List Int->List Int)(ns:List Nat)(k:Nat)(R:List Int):List Int:=yY ns k (λs=>g (vals ns k R s)) (LwB.startsL ns k) R
theorem qN{ns:List Nat}{k n:Nat}(hn:ns[k]? = some n)(R:List Int)(s:Nat):(vals ns k R s).length=n:=by
 unfold vals;rw[mP,vM,uR,hn]
 rfl
theorem BF(l:List Int):(lhL l).length=l.length:=by unfold lhL;rw[mP,mC]
theorem BG(l:List Int):(lhH l).length=l.length:=by unfold lhH;rw[mP,mC]
theorem TX{ns:List Nat}{k m s i:Nat}{R:List Int}{T:List Nat->Rat}{p:List Nat}(hn:ns[k]? = some (m+1))(h:RowF ns R T)(hp:p∈LwB.plc ns)(hs:(LwB.plc ns)[s]? = some (p.set k 0))(hi:i<=m):((lnF (vals ns k R s) i:Int):Rat)=T (p.set k i):=by
 have gD:ns.getD k 0=m+1:=by rw[uR,hn];rfl
 have hk:k<ns.length:=(uU.mp hn).1;have pm:=(LwB.plc_in ns).mp hp;have z:(p.set k 0).getD k 0=0:=xP (by rw[pm.1];exact hk);have:=h.2 _ _ (LwB.plc_line ns k hs hn z (show i<m+1 by omega));rw[List.set_set]at this;rw[<-this]
 congr 1
 unfold lnF vals;rw[uR,hJ,uB (by rw[gD];omega)]
 rfl
theorem OH{a m:Nat}(h:a<=m):(2:Rat)^m=2^(m-a)*2^a:=by
 rw[<-LwB.pow_addQ]
 congr 1
 omega
theorem RN{ns:List Nat}{k m:Nat}{R:List Int}{T:List Nat->Rat}(hn:ns[k]? = some (m+1))(h:RowF ns R T):RowF ns (wS lhL ns k R) (λp=>(2:Rat)^m*uG k T p)/\RowF ns (wS lhH ns k R) (λp=>(2:Rat)^m*uF m k T p):=by
 obtain⟨l1,f1⟩:=xC (V:=λs=>lhL (vals ns k R s)) hn (λs=>by rw[BF,qN hn]) (LwB.startsL ns k) (λ_ h=>h) R h.1;obtain⟨l2,f2⟩:=xC (V:=λs=>lhH (vals ns k R s)) hn (λs=>by rw[BG,qN hn]) (LwB.startsL ns k) (λ_ h=>h) R h.1;have hk:k<ns.length:=(uU.mp hn).1;have gD:ns.getD k 0=m+1:=by rw[uR,hn];rfl
 have c2:((2:Int):Rat)=2:=rfl;refine⟨⟨l1,λa p ha=>?_⟩,⟨l2,λa p ha=>?_⟩⟩
 ·obtain⟨s,hs,hps,ea⟩:=LwB.start_of hn ha;have hp:=gH ha;have pk:=((LwB.plc_in ns).mp hp).2 k hk;rw[gD]at pk;unfold wS;rw[ea,f1 s (p.getD k 0) hs pk,tI hs];have e:(lhL (vals ns k R s))[p.getD k 0]? = some (bbI (p.getD k 0) (lnF (vals ns k R s)) 0*2^(m-p.getD k 0)):=by
   unfold lhL;rw[qN hn,hJ,gP pk]
   rfl
  rw[uR,e];show((bbI (p.getD k 0) (lnF (vals ns k R s)) 0*2^(m-p.getD k 0):Int):Rat)=2^m*(bbT (p.getD k 0) (λx=>T (p.set k x)) 0/2^(p.getD k 0));rw[mT,Rat.intCast_pow,c2,QQ,zR (c:=λx=>T (p.set k x)) λx _ hx=>TX hn h hp hps (by omega),OH (show p.getD k 0<=m by omega)];have:=p2ne (p.getD k 0)
  grind
 ·obtain⟨s,hs,hps,ea⟩:=LwB.start_of hn ha;have hp:=gH ha;have pk:=((LwB.plc_in ns).mp hp).2 k hk;rw[gD]at pk;unfold wS;rw[ea,f2 s (p.getD k 0) hs pk,tI hs];have e:(lhH (vals ns k R s))[p.getD k 0]? = some (bbI (m-p.getD k 0) (lnF (vals ns k R s)) (p.getD k 0)*2^(p.getD k 0)):=by
   unfold lhH;rw[qN hn,hJ,gP pk]
   rfl
  rw[uR,e];show((bbI (m-p.getD k 0) (lnF (vals ns k R s)) (p.getD k 0)*2^(p.getD k 0):Int):Rat)=2^m*(bbT (m-p.getD k 0) (λx=>T (p.set k x)) (p.getD k 0)/2^(m-p.getD k 0));rw[mT,Rat.intCast_pow,c2,QQ,zR (c:=λx=>T (p.set k x)) λx _ hx=>TX hn h hp hps (by omega),OH (show p.getD k 0<=m by omega)];have:=p2ne (m-p.getD k 0)
  grind
theorem FR{ns:List Nat}{k m s B:Nat}{R:List Int}(hn:ns[k]? = some (m+1))(hs:s∈LwB.startsL ns k)(hB:RowB ns R B):∀z∈vals ns k R s,z.natAbs<2^B:=λz hz=>by
 have gD:ns.getD k 0=m+1:=by rw[uR,hn];rfl
 unfold vals at hz;obtain⟨b,hb,rfl⟩:=nN.mp hz;unfold jY at hb;obtain⟨i,hi,rfl⟩:=nN.mp hb;rw[gD]at hi;exact hB _ (yD hn hs (mW.mp hi))
theorem WL{l:List Int}{B:Nat}(h:∀z∈l,z.natAbs<2^B)(a:Nat):(lnF l a).natAbs<2^B:=by
 unfold lnF;by_cases c:a<l.length
 ·rw[uR,uW c];exact h _ (mM c)
 ·rw[uR,gE (by omega)];exact Nat.two_pow_pos _
theorem OE(j:Nat):((2:Int)^j).natAbs<2^(j+1):=by
 rw[Int.natAbs_pow];exact gK (by decide) (mO j)
theorem RP{ns:List Nat}{k m B:Nat}{R:List Int}(hn:ns[k]? = some (m+1))(m4:m<=4)(hR:R.length=LwB.szP ns)(hB:RowB ns R B):RowB ns (wS lhL ns k R) (B+9)/\RowB ns (wS lhH ns k R) (B+9):=by
 obtain⟨l1,f1⟩:=xC (V:=λs=>lhL (vals ns k R s)) hn (λs=>by rw[BF,qN hn]) (LwB.startsL ns k) (λ_ h=>h) R hR;obtain⟨l2,f2⟩:=xC (V:=λs=>lhH (vals ns k R s)) hn (λs=>by rw[BG,qN hn]) (LwB.startsL ns k) (λ_ h=>h) R hR;have hk:k<ns.length:=(uU.mp hn).1;have gD:ns.getD k 0=m+1:=by rw[uR,hn];rfl
 refine⟨λa ha=>?_,λa ha=>?_⟩
 ·rw[<-LwB.plc_len]at ha;obtain⟨s,hs,hps,ea⟩:=LwB.start_of hn (uW ha);have pk:=((LwB.plc_in ns).mp (mM ha)).2 k hk;rw[gD]at pk;unfold wS;rw[ea,f1 s _ hs pk,tI hs];unfold lhL;rw[uR,qN hn,hJ,gP pk];exact jJ (kT (EC (WL (FR hn hs hB)) _ _) (OE _)) (by omega)
 ·rw[<-LwB.plc_len]at ha;obtain⟨s,hs,hps,ea⟩:=LwB.start_of hn (uW ha);have pk:=((LwB.plc_in ns).mp (mM ha)).2 k hk;rw[gD]at pk;unfold wS;rw[ea,f2 s _ hs pk,tI hs];unfold lhH;rw[uR,qN hn,hJ,gP pk];exact jJ (kT (EC (WL (FR hn hs hB)) _ _) (OE _)) (by omega)
def LnsV(H:Hp)(v:V)(L:List (List Nat)):Prop:=∃(a:Addr) (xs:List V),v=.ref a/\H a=some (.lst xs)/\Paired (λv q=>∃b,v=V.ref b/\H b=some (.lst (qA q))) xs L
theorem LnsV.same{H H':Hp}{v:V}{L:List (List Nat)}(h:LnsV H v L)(s:Same H H'):LnsV H' v L:=by
 obtain⟨a,xs,e1,e2,e3⟩:=h;exact⟨a,xs,e1,s _ _ e2,Paired.to (λ_ _ ⟨b,f1,f2⟩=>⟨b,f1,s _ _ f2⟩) e3⟩
def AllL(H:Hp)(xs:List V)(ns:List Nat):Prop:=Paired (λv k=>LnsV H v (qO ns k)) xs (List.range ns.length)
theorem AllL.same{H H':Hp}{xs:List V}{ns:List Nat}(h:AllL H xs ns)(s:Same H H'):AllL H' xs ns:=Paired.to (λ_ _ y=>LnsV.same y s) h
def spAllL:Sp:=λvs H Q _=>∃(l:Addr) (ns:List Nat),vs=[.ref l]/\H l=some (.lst (qA ns))/\(∀n∈ns,1<=n)/\LwB.szP ns<=200/\ns.length<=4/\
 ∀(p:Addr) (xs:List V) (H':Hp),H p=none->Same H H'->H' p=some (.lst xs)->AllL H' xs ns->Q (.ref p) H'
structure AlI(H:Hp)(p:Addr)(ns:List Nat)(i:Nat)(ys:List V)(H2:Hp):Prop where
 s:Same H H2
 e:H2 p=some (.lst ys)
 n:∀v∈ys,v≠.ref p
 y:Paired (λv k=>∃(a:Addr) (xs:List V),v=.ref a/\H2 a=some (.lst xs)/\Paired (λv q=>∃b,v=V.ref b/\b≠p/\H2 b=some (.lst (qA q))) xs (qO ns k)) ys (List.range i)
inductive RhI(σ:L2.St)(H H0:Hp)(lo up:Addr)(ns:List Nat)(k:Nat)(R:List Int)(i:Nat):L2.St->Hp->Prop where
 | mk {u4 u5 u6 u7 u8 u9:Option V} {H1:Hp} (s:Same H H1) (e1:H1 lo=some (.lst ((yY ns k (λs=>lhL (vals ns k R s)) ((LwB.startsL ns k).take i) R).map V.int))) (e2:H1 up=some (.lst ((yY ns k (λs=>lhH (vals ns k R s)) ((LwB.startsL ns k).take i) R).map V.int))):RhI σ H H0 lo up ns k R i ((((((σ.set 4 u4).set 5 u5).set 6 u6).set 7 u7).set 8 u8).set 9 u9) H1
inductive RjI(σ:L2.St)(H H0:Hp)(lo up:Addr)(Rl Ru:List Int)(zl zu:List (Nat×Int))(i:Nat):L2.St->Hp->Prop where
 | mk {u5 u8 u9:Option V} {H1:Hp} (s:Same H H1) (b:∀c o,H0 c=some o->c≠lo->c≠up->H1 c=some o) (e1:H1 lo=some (.lst ((vL Rl (zl.take i)).map V.int))) (e2:H1 up=some (.lst ((vL Ru (zu.take i)).map V.int))):RjI σ H H0 lo up Rl Ru zl zu i (((σ.set 5 u5).set 8 u8).set 9 u9) H1
def spRHalf:Sp:=λvs H Q _=>∃(r la:Addr) (R:List Int) (ns:List Nat) (k m B:Nat),vs=[.ref r,.ref la]/\H r=some (.lst (R.map V.int))/\LnsV H (.ref la) (qO ns k)/\ns[k]? = some (m+1)/\m<=4/\LwB.szP ns<=200/\R.length=LwB.szP ns/\RowB ns R B/\B<=50000/\
 ∀(p lo up:Addr) (H':Hp),H p=none->H lo=none->H up=none->Same H H'->H' p=some (.tup [.ref lo,.ref up])->H' lo=some (.lst ((wS lhL ns k R).map V.int))->H' up=some (.lst ((wS lhH ns k R).map V.int))->Q (.ref p) H'
theorem scAl:FnScope ["sizes"] ["sizes"] (jQ JD):=⟨rfl,rfl,rfl,by decide +kernel,rfl,by decide +kernel,by decide +kernel⟩
theorem ZV{fL:Addr}{fdL:FuncData}(F:Fun K "all_lines" "all_lines" JD f fd)(T:Txt mg)(DL:Df K mg "lines_along" CB ["sizes","letter"] fL fdL)(GL:FnOk P w K mg base CX0 2 fL fdL ["sizes","letter"] spLines):FnOk P w K mg base CX0 3 f fd ["sizes"] spAllL:=by
 refine F.ok scAl (λvs H Q E h=>?_) (λcdv A outer s H vs Q E hr h=>?_)
 ·obtain⟨l,ns,rfl,_⟩:=h
  rfl
 ·obtain⟨l,ns,rfl,hl,h1,h200,n4,go⟩:=h;refine⟨_,jE (jS (kX (own:=1) (idx:=[0]) (N:=["letter","sizes"]) rfl rfl rfl (by decide +kernel) (by decide +kernel) (qW (by intro y hy;simp only[nF,mJ,or_false]at hy;rcases hy with rfl;rfl)) (qJ rfl) rfl (qU rfl ⟨rfl,rfl,rfl,rfl⟩) (kQ (by rfl) T.rng (jA (qD qG (by rfl) T.len PySem.boot_len (jA (pv 0) jC)) jC)) (λC fp s2 H2=>(jF (i:=0) (show List.Nodup (["letter","sizes"]:List Str) by decide +kernel) rfl (Or.inl rfl) (Or.inr rfl))) (λC fp s2 H2=>jH GL hr rfl DL.m DL.F.kp DL.b .nil jR (jA (pv 1) (jA (pv 0) jC))))), ?_⟩;try dsimp only[cxK]
  refine⟨_,rfl,l,_,rfl,.inl (SqL.of hl),_,rfl,by omega,by rw[kP];omega,λp H1 n1 s1 e1=>?_⟩;rw[mG,kP];refine vU (n:=ns.length) (AlI H p ns) (by rw[sizeLine_eq];omega) ⟨s1,e1,(λv h=>nomatch h),.nil⟩ (λi ys H2 h=>h.e) ?_ ?_
  ·rintro i m ys x H2 hx hm hy ⟨s2,e2,v2,y2⟩;have hi:i<ns.length:=(xM hx).2;refine⟨yN,_,rfl,_,rfl,l,ns,i,by rw[Int.zero_add];rfl,s2 _ _ hl,h1,h200,n4,hi,λq xs H3 n3 s3 e3 t3=>?_⟩;have qp:q≠p:=λz=>by rw[z,e2]at n3;cases n3
   have e3p:=s3 _ _ e2;refine kF hx hm hy e3p ⟨jZ (s2.trans s3) n1,jG,λv hv=>?_, ?_⟩
   ·rcases mS.mp hv with hv | hv
    ·exact v2 v hv
    ·rw[gW.mp hv];intro z;injection z with z
     exact qp z
   ·rw[List.range_succ];refine Paired.app ?_ (.cons ⟨q,xs,rfl,by rw[jM qp];exact e3,Paired.to (λv q' ⟨b,f1,f2,f3,f4⟩=>⟨b,f1,(λz=>by rw[z,e2]at f3;cases f3),by rw[jM (λz=>by rw[z,e2]at f3;cases f3)];exact f4⟩) t3⟩ .nil);have key:∀{vs:List V} {ks:List Nat},(∀v∈vs,v≠.ref p)->Paired (λv k=>∃(a:Addr) (xs:List V),v=.ref a/\H2 a=some (.lst xs)/\Paired (λv q=>∃b,v=V.ref b/\b≠p/\H2 b=some (.lst (qA q))) xs (qO ns k)) vs ks->Paired (λv k=>∃(a:Addr) (xs:List V),v=.ref a/\(upd H3 p (.lst (ys++[.ref q]))) a=some (.lst xs)/\Paired (λv q'=>∃b,v=V.ref b/\b≠p/\(upd H3 p (.lst (ys++[.ref q]))) b=some (.lst (qA q'))) xs (qO ns k)) vs ks:=λhv h=>by
     induction h with
     | nil=>exact .nil
     | cons h t ih=>
      obtain⟨a,xs',rfl,f2,f3⟩:=h;refine .cons ⟨a,xs',rfl, ?_,Paired.to (λv q' ⟨b,g1,g2,g3⟩=>⟨b,g1,g2,by rw[jM g2];exact s3 _ _ g3⟩) f3⟩ (ih λv hv'=>hv v (gI _ hv'));rw[jM λz=>hv _ (gY ..) (by rw[z])];exact s3 _ _ f2
    exact key v2 y2
  ·rintro ys H2 hl2 ⟨s2,e2,v2,y2⟩;exact go p ys H2 n1 s2 e2 (Paired.to (λv k ⟨a,xs,f1,f2,f3⟩=>⟨a,xs,f1,f2,Paired.to (λv q ⟨b,g1,_,g3⟩=>⟨b,g1,g3⟩) f3⟩) y2)
theorem scRh:FnScope ["row","lines","lower","upper","line","at","low","high","first","second"] ["row","lines"] (jQ CA):=⟨rfl,rfl,rfl,by decide +kernel,rfl,by decide +kernel,by decide +kernel⟩
theorem VH{fL:Addr}{fdL:FuncData}(F:Fun K "row_halved" "row_halved" CA f fd)(T:Txt mg)(DL:Df K mg "line_halved" HD ["line"] fL fdL)(GL:FnOk P w K mg base CX0 1 fL fdL ["line"] spLHalf):FnOk P w K mg base CX0 2 f fd ["row","lines"] spRHalf:=by
 refine F.ok scRh (λvs H Q E h=>?_) (λcdv A outer s H vs Q E hr h=>?_)
 ·obtain⟨r,la,R,ns,k,m,B,rfl,_⟩:=h
  rfl
 ·obtain⟨r,la,R,ns,k,m,B,rfl,hr',⟨_,xs,el,hla,hL⟩,hn,m4,h200,hR,hB,b5,go⟩:=h;cases el;refine⟨_,jB (CH (i:=2) (j:=3) rfl scRh.nd rfl rfl (by decide) rfl rfl (jA (qB yJ (by rfl) T.lst boot_list (jA (pv 0) jC)) (jA (qB yJ (by rfl) T.lst boot_list (jA (pv 0) jC)) jC)) rfl) (jB (kO PassesOwn.never rfl (kZ (pv 1)) (jF (i:=4) scRh.nd rfl (Or.inl rfl)) (jB (kU (jH GL hr rfl DL.m DL.F.kp DL.b .nil jR (jA (kX (own:=1) (idx:=[0]) (N:=["at","row"]) rfl rfl rfl (by decide +kernel) (by decide +kernel) (qW (by intro y hy;simp only[nF,mJ,or_false]at hy;rcases hy with rfl;rfl)) (qJ rfl) rfl (qU rfl ⟨rfl,rfl,rfl,rfl⟩) (kZ (pv 4)) (λC fp s2 H2=>(jF (i:=0) (show List.Nodup (["at","row"]:List Str) by decide +kernel) rfl (Or.inl rfl) (Or.inr rfl))) (λC fp s2 H2=>jT (show IxR (jO _ ["at","row"] _ _ C fp s2 H2) (EI K)from kK) (pv 1) (pv 0) (λ_ _=>rfl))) jC)) (kJ rfl (jI (jF (i:=6) scRh.nd rfl (Or.inl rfl)) (jI (jF (i:=7) scRh.nd rfl (Or.inl rfl)) kC)))) (jE (kO PassesOwn.never rfl (YV (by rfl) T.zip (jA (pv 4) (jA (pv 6) (jA (pv 7) jC)))) (kJ rfl (jI (jF (i:=5) scRh.nd rfl (Or.inl rfl)) (jI (jF (i:=8) scRh.nd rfl (Or.inl rfl)) (jI (jF (i:=9) scRh.nd rfl (Or.inl rfl)) kC)))) (jB (kU (pv 8) (xY (pv 2) (pv 5) vC)) (jE (kU (pv 9) (xY (pv 3) (pv 5) vC)))))))) (jE (jS (jW (jA (pv 2) (jA (pv 3) jC)))))), ?_⟩
  try dsimp only[cxK]
  have gD:ns.getD k 0=m+1:=by rw[uR,hn];rfl
  refine⟨_,rfl,r,_,rfl,.inl (SqL.of hr'),λlo H1 n1 s1 e1=>⟨_,rfl,r,_,rfl,.inl (SqL.of (s1 _ _ hr')),λup H2 n2 s2 e2=>⟨_,_,rfl, ?_⟩⟩⟩;have s12:=s1.trans s2;have nlu:lo≠up:=λz=>by rw[z]at e1;rw[e1]at n2;cases n2
  have nup:H up=none:=s1.free n2;have lx:xs.length=(LwB.startsL ns k).length:=by rw[Paired.length hL];unfold qO;rw[mP]
  have off:∀{c:Addr} {o:HO},H c=some o->c≠lo/\c≠up:=λh=>⟨(λz=>by rw[z,n1]at h;cases h),(λz=>by rw[z,nup]at h;cases h)⟩;dsimp only[jP];refine⟨_,rfl,la,rfl,⟨xs,SqL.of (s12 _ _ hla)⟩,qT (K:=K) (a:=la) (xs:=xs) (RhI [some (.ref r),some (.ref la),some (.ref lo),some (.ref up),none,none,none,none,none,none] H H2 lo up ns k R) (RhI.mk (u4:=none) (u5:=none) (u6:=none) (u7:=none) (u8:=none) (u9:=none) s12 (s2 _ _ e1) e2) (λi σ H3 _ h=>?_) (λi x σ H3 hx h=>?_) (fun σ H3 h=>?_)⟩
  ·cases h with
   | mk s3 _ _=>exact SqL.of (s3 _ _ hla)
  ·cases h with
   | @mk u4 u5 u6 u7 u8 u9 _ s3 f1 f2=>
   obtain⟨line,hline,a,rfl,ha⟩:=Paired.at hL hx;obtain⟨st,hst,hstm,rfl⟩:=ET hline;have lo':(jY ns k st).length=m+1:=by rw[vM,gD]
   have vl:=qN hn R st;have vb:=FR hn hstm hB;have l1:=xC (V:=λs=>lhL (vals ns k R s)) hn (λs=>by rw[BF,qN hn]) ((LwB.startsL ns k).take i) (λs h=>gN h) R hR;have l2:=xC (V:=λs=>lhH (vals ns k R s)) hn (λs=>by rw[BG,qN hn]) ((LwB.startsL ns k).take i) (λs h=>gN h) R hR;have sn:∀V:Nat->List Int,yY ns k V ((LwB.startsL ns k).take (i+1)) R=vL (yY ns k V ((LwB.startsL ns k).take i) R) ((jY ns k st).zip (V st)):=λV=>by
    unfold yY;rw[hW,hst,mE]
    rfl
   have sn1:=sn (λs=>lhL (vals ns k R s));have sn2:=sn (λs=>lhH (vals ns k R s));have ll1:=l1.1;have ll2:=l2.1;generalize yY ns k (λs=>lhL (vals ns k R s)) ((LwB.startsL ns k).take i) R=Rl at f1 sn1 ll1;generalize yY ns k (λs=>lhH (vals ns k R s)) ((LwB.startsL ns k).take i) R=Ru at f2 sn2 ll2;have ha3:=s3 _ _ ha;dsimp only[jP];refine⟨_,rfl,a,rfl,⟨_,SqL.of ha3⟩,λl2' H4 n4 s4 e4=>?_⟩;refine qX (K:=K) (a:=a) (xs:=qA (jY ns k st)) (CmI (λt=>((vals ns k R st).take t).map V.int) l2' H3) (by rw[kP,lo',sizeLine_eq];omega) ⟨s4,e4,rfl⟩ (λt ys H5 h=>⟨SqL.of (h.s _ _ ha3),h.e⟩) ?_ ?_
   ·rintro t m2 ys x H5 hx2 hm2 hy2 ⟨s5,e5,y5⟩;obtain⟨at',hat,rfl⟩:=yA hx2;have hlt:at'<LwB.szP ns:=by
     have:=gH hat;unfold jY at this;obtain⟨i',hi',rfl⟩:=nN.mp this;rw[gD]at hi';exact yD hn hstm (mW.mp hi')
    refine⟨yN,_,rfl,_,rfl,r,_,_,_,rfl,rfl,SqL.of ((s3.trans s5) _ _ hr'),qS (KH (by rw[hR];exact hlt)), ?_⟩;refine kF hx2 hm2 hy2 e5 ⟨jZ s5 n4,jG, ?_⟩;rw[y5,hW,mQ]
    congr 1
    unfold vals;rw[hJ,hat]
    rfl
   rintro ys H5 hy2 ⟨s5,e5,y5⟩;rw[kP,show(jY ns k st).length=(vals ns k R st).length by rw[lo',vl],mK]at y5;subst y5;have s35:=s3.trans s5;refine⟨l2',_,B,rfl,e5,by omega,by omega,vb,b5,λp lw hg H6 n6 nlw nhg s6 e6 elw ehg=>?_⟩;have s36:=s5.trans s6;refine gT2 (SqT.of e6) rfl ?_;have f16:=s36 _ _ f1;have f26:=s36 _ _ f2;have a6:=s36 _ _ ha3;have olw:lw≠lo/\lw≠up:=⟨(λz=>by rw[z,s5 _ _ f1]at nlw;cases nlw),(λz=>by rw[z,s5 _ _ f2]at nlw;cases nlw)⟩;have ohg:hg≠lo/\hg≠up:=⟨(λz=>by rw[z,s5 _ _ f1]at nhg;cases nhg),(λz=>by rw[z,s5 _ _ f2]at nhg;cases nhg)⟩;have zl1:(lhL (vals ns k R st)).length=m+1:=by rw[BF,vl]
   have zl2:(lhH (vals ns k R st)).length=m+1:=by rw[BG,vl]
   generalize lhL (vals ns k R st)=zL at elw zl1 sn1;generalize lhH (vals ns k R st)=zH at ehg zl2 sn2;dsimp only[jP];refine⟨_,rfl,_,rfl,_,rfl,a,lw,hg,rfl,⟨_,SqL.of a6⟩,⟨_,SqL.of elw⟩,⟨_,SqL.of ehg⟩,XC (K:=K) (a:=a) (b:=lw) (c:=hg) (xs:=qA (jY ns k st)) (ys:=zL.map V.int) (vs:=zH.map V.int) (RjI [some (.ref r),some (.ref la),some (.ref lo),some (.ref up),some (.ref a),u5,some (.ref lw),some (.ref hg),u8,u9] H H6 lo up Rl Ru ((jY ns k st).zip zL) ((jY ns k st).zip zH)) (by rw[kP,mP,lo',zl1]) (by rw[kP,mP,lo',zl2]) (RjI.mk (u5:=u5) (u8:=u8) (u9:=u9) (s3.trans s36) (λc o h _ _=>h) f16 f26) (λt σ H7 _ h=>?_) (λt x y v c σ H7 hx3 hy3 hv3 hc h=>?_) (fun σ H7 h=>?_)⟩
   ·cases h with
    | mk s7 b7 _ _=>exact⟨SqL.of (b7 _ _ a6 (off ha).1 (off ha).2),SqL.of (b7 _ _ elw olw.1 olw.2),SqL.of (b7 _ _ ehg ohg.1 ohg.2)⟩
   ·cases h with
    | @mk w5 w8 w9 _ s7 b7 k1 k2=>
    obtain⟨at',hat,rfl⟩:=yA hx3;rw[hJ]at hy3 hv3;obtain⟨y',hy',rfl⟩:=Option.map_eq_some_iff.mp hy3;obtain⟨v',hv',rfl⟩:=Option.map_eq_some_iff.mp hv3;have hlt:at'<LwB.szP ns:=by
     have:=gH hat;unfold jY at this;obtain⟨i',hi',rfl⟩:=nN.mp this;rw[gD]at hi';exact yD hn hstm (mW.mp hi')
    have s8:Same H7 (upd H7 c (.tup [.int (at':Int),.int y',.int v'])):=kD _ hc;have e8:(upd H7 c (.tup [.int (at':Int),.int y',.int v'])) c=some (.tup [.int (at':Int),.int y',.int v']):=jG;generalize upd H7 c (.tup [.int (at':Int),.int y',.int v'])=H8 at s8 e8;refine gT3n (SqT.of e8) rfl ?_;have la1:at'<(vL Rl (((jY ns k st).zip zL).take t)).length:=by rw[xQ,ll1];exact hlt
    have la2:at'<(vL Ru (((jY ns k st).zip zH).take t)).length:=by rw[xQ,ll2];exact hlt
    have hz1:((jY ns k st).zip zL)[t]? = some (at',y'):=by rw[List.getElem?_zip_eq_some];exact⟨hat,hy'⟩
    have hz2:((jY ns k st).zip zH)[t]? = some (at',v'):=by rw[List.getElem?_zip_eq_some];exact⟨hat,hv'⟩
    refine⟨_,rfl,_,rfl,_,rfl,lo,_,_,at',rfl,rfl,s8 _ _ k1,HZ (by rw[mP];exact la1), ?_⟩;have k29:(upd H8 lo (.lst (((vL Rl (((jY ns k st).zip zL).take t)).map V.int).set at' (.int y')))) up=some (.lst ((vL Ru (((jY ns k st).zip zH).take t)).map V.int)):=by rw[jM (Ne.symm nlu)];exact s8 _ _ k2
    refine⟨_,rfl,_,rfl,_,rfl,up,_,_,at',rfl,rfl,k29,HZ (by rw[mP];exact la2), ?_⟩;refine RjI.mk (u5:=some (.int (at':Int))) (u8:=some (.int y')) (u9:=some (.int v')) (jZ (jZ (s7.trans s8) n1) nup) (λc' o h c1 c2=>?_) ?_ ?_
    ·rw[jM c2,jM c1];exact s8 _ _ (b7 _ _ h c1 c2)
    ·rw[jM nlu,jG,hW,hz1];show _=some (HO.lst ((vL Rl (_++[(at',y')])).map V.int));rw[uN,List.map_set]
    ·rw[jG,hW,hz2];show _=some (HO.lst ((vL Ru (_++[(at',v')])).map V.int));rw[uN,List.map_set]
   ·cases h with
    | @mk w5 w8 w9 _ s7 b7 k1 k2=>
    rw[kP,gA (by rw[List.length_zip];exact Nat.min_le_left ..),<-sn1]at k1;rw[kP,gA (by rw[List.length_zip];exact Nat.min_le_left ..),<-sn2]at k2;exact RhI.mk (u4:=some (.ref a)) (u5:=w5) (u6:=some (.ref lw)) (u7:=some (.ref hg)) (u8:=w8) (u9:=w9) s7 k1 k2
  ·cases h with
   | @mk u4 u5 u6 u7 u8 u9 _ s3 f1 f2=>
   rw[lx,mK]at f1 f2;refine⟨_,rfl,_,rfl,uQ,λp H4 n4 s4 e4=>?_⟩;exact go p lo up H4 (s3.free n4) n1 nup (s3.trans s4) e4 (s4 _ _ f1) (s4 _ _ f2)
end Lw
namespace Lw
open PySem PySem.Spec PyProof.Rows L2 LwQ
def nic:Nat->PyData->Bool
 | _,.none=>true
 | _,.int _=>true
 | _,.str _=>true
 | n+1,.list ds=>decide (ds.length<=24)&&ds.all (nic n)
 | n+1,.tuple ds=>decide (ds.length<=24)&&ds.all (nic n)
 | _,_=>false
def hid(S:List Addr)(H:Hp):Hp:=λa=>if a∈S then none else H a
theorem uD{S:List Addr}{H:Hp}{a:Addr}{o:HO}(h:hid S H a=some o):a∉S/\H a=some o:=by
 unfold hid at h;split at h
 ·cases h
 ·exact⟨by assumption,h⟩
theorem CU{S:List Addr}{H:Hp}{a:Addr}{o:HO}(n:a∉S)(h:H a=some o):hid S H a=some o:=by
 unfold hid;rw[tH n];exact h
theorem KP{S:List Addr}{H H':Hp}(s:Same H H'):Same (hid S H) (hid S H'):=λa o h=>by
 obtain⟨n,e⟩:=uD h;exact CU n (s _ _ e)
theorem WV{S:List Addr}{H H':Hp}{k:Addr}(s:Same H H')(n:H k=none):Same (hid S H) (hid (k::S) H'):=λa o h=>by
 obtain⟨m,e⟩:=uD h;refine CU (λz=>?_) (s _ _ e);rcases nF.mp z with rfl | z
 ·rw[n]at e;cases e
 ·exact m z
theorem KQ{S:List Addr}{H:Hp}{k:Addr} :Same (hid (k::S) H) (hid S H):=λa o h=>by
 obtain⟨m,e⟩:=uD h;exact CU (λz=>m (gI _ z)) e
theorem hid_upd{S:List Addr}{H:Hp}{k:Addr}{o:HO} :hid (k::S) (upd H k o)=hid (k::S) H:=by
 funext a
 unfold hid;by_cases h:a∈k::S
 ·rw[tI h,tI h]
 ·rw[tH h,tH h,jM (λz=>h (by rw[z];exact gY ..))]
mutual
theorem DecV.same{H H':Hp}(s:Same H H'):∀{x:V} {d:PyData},DecV H x d->DecV H' x d
 | _,_,.non=>.non
 | _,_,.bl b=>.bl b
 | _,_,.int i=>.int i
 | _,_,.str x=>.str x
 | _,_,.lst e h=>.lst (s _ _ e) (DecVs.same s h)
 | _,_,.tup e h=>.tup (s _ _ e) (DecVs.same s h)
theorem DecVs.same{H H':Hp}(s:Same H H'):∀{xs:List V} {ds:List PyData},DecVs H xs ds->DecVs H' xs ds
 | _,_,.nil=>.nil
 | _,_,.cons h t=>.cons (DecV.same s h) (DecVs.same s t)
end
theorem LB{H:Hp} :∀{xs:List V} {ds:List PyData} {i:Nat} {x:V},DecVs H xs ds->xs[i]? = some x->∃d,ds[i]? = some d/\DecV H x d
 | _,_,i,_,.nil,h=>by simp at h
 | _,_,0,_,.cons k t,h=>by cases (Option.some.inj h);exact⟨_,rfl,k⟩
 | _,_,i+1,_,.cons k t,h=>LB (i:=i) t (by simpa using h)
theorem DK{H:Hp} :∀{xs:List V} {ds:List PyData},DecVs H xs ds->xs.length=ds.length
 | _,_,.nil=>rfl
 | _,_,.cons _ t=>by rw[mL,mL,DK t]
theorem FF{H:Hp}{x:V}{d:PyData}(h:DecV H x d):∀{xs:List V} {ds:List PyData},DecVs H xs ds->DecVs H (xs++[x]) (ds++[d])
 | _,_,.nil=>.cons h .nil
 | _,_,.cons k t=>.cons k (FF h t)
def IZ(n:Nat):Sp:=λvs H Q _=>∃(v:V) (d:PyData) (S:List Addr),vs=[v]/\(∀a∈S,H a≠none)/\DecV (hid S H) v d/\nic n d=true/\∀(v':V) (H':Hp),Same H H'->DecV (hid S H') v' d->Q v' H'
theorem VW{n:Nat}{ds:List PyData}{i:Nat}{d:PyData}(h:ds.all (nic n)=true)(hd:ds[i]? = some d):nic n d=true:=List.all_eq_true.mp h d (gH hd)
def kLst:Kd->Bool
 | .lst=>true
 | _=>false
theorem PN:Isi "list" kLst:=λK k=>by cases k<;>rfl
variable{P:Program}{w:World}{K:tJ}{mg:Str->Option Value}{base:Heap}{f fd:_}
theorem scCop:FnScope ["thing"] ["thing"] (jQ zG):=⟨rfl,rfl,rfl,by decide +kernel,rfl,by decide +kernel,by decide +kernel⟩
theorem dCop{n:Nat}{H H1:Hp}{S:List Addr}{xs:List V}{ds:List PyData}{J:It}{Q:VK}{k:Addr}{H2:Hp}(hS:∀a∈S,H a≠none)(ex:DecVs (hid S H) xs ds)(s1:Same H H1)(nn:ds.all (nic n)=true)(l24:ds.length<=24)(hgo:∀i H3,Same H1 H3->i<xs.length->J.go i H3/\∀x H4,J.yld i H3 x H4->H4=H3/\xs[i]? = some x)(hst:∀H3,Same H1 H3->J.stop xs.length H3)
  (nk:H1 k=none) (s2:Same H1 H2) (e2:H2 k=some (.lst [])) (q:∀(ys:List V) (H3:Hp),Same H1 H3->H3 k=some (.lst ys)->DecVs (hid (k::S) H3) ys ds->Q (.ref k) H3) :
  CompGoF [none] J (jP 0) (NN (IZ n) [] E0 (vJ (kI 0) tNil)) Q k H2:=by
 have lx:=DK ex;have nk0:H k=none:=s1.free nk;refine BM (xs:=xs) (λi ys H3=>Same H1 H3/\H3 k=some (.lst ys)/\DecVs (hid (k::S) H3) ys (ds.take i)) (gR (show xs.length<=24 by omega) (by decide)) ⟨s2,e2,.nil⟩ (λi ys H3 h hi=>hgo i H3 h.1 hi) (λys H3 h=>hst H3 h.1) (λi ys H3 h=>h.2.1) ?_ ?_
 ·rintro i m ys x H3 hx hm hy ⟨s3,e3,d3⟩;obtain⟨d,hd,dx⟩:=LB ex hx;have s03:=s1.trans s3;refine⟨yN,_,rfl,x,d,k::S,rfl,λa ha=>?_,dx.same (WV s03 nk0),VW nn hd,λv' H4 s4 dv=>?_⟩
  ·rcases nF.mp ha with rfl | ha
   ·rw[e3];exact λz=>nomatch z
   ·intro z;cases e:H a with
    | none=>exact hS a ha e
    | some o=>rw[s03 _ _ e]at z;cases z
  ·refine kF hx hm hy (s4 _ _ e3) ⟨jZ (s3.trans s4) nk,jG, ?_⟩;rw[hid_upd,List.take_succ,hd];exact FF dv (d3.same (KP s4))
 ·rintro ys H3 hy ⟨s3,e3,d3⟩;rw[lx,mK]at d3;exact q ys H3 s3 e3 d3
theorem VQ(D:Df K mg "_law_copied" zG ["thing"] f fd)(T:Txt mg):∀n:Nat,FnOk P w K mg base CX0 (n+1) f fd ["thing"] (IZ n)
 | 0=>by
  refine D.F.ok scCop (λvs H Q E h=>?_) (λcdv A outer s H vs Q E hr h=>?_)
  ·obtain⟨v,d,S,rfl,_⟩:=h
   rfl
  ·obtain⟨v,d,S,rfl,hS,dv,nd,go⟩:=h;refine⟨_,jB (kN (xK (AH PN T.isi T.lst boot_list (pv 0))) vZ kA) (jB (kN (xK (AH IB T.isi T.tup boot_tuple (pv 0))) vZ kA) (jE (jS (pv 0)))), ?_⟩;cases dv with
   | non=>exact⟨_,rfl,rfl,.non,.non,_,rfl,kY ⟨_,rfl,rfl,.non,.non,_,rfl,kY ⟨_,rfl,go _ H (Same.refl _) .non⟩⟩⟩
   | int i=>exact⟨_,rfl,rfl,.int,.int i,_,rfl,kY ⟨_,rfl,rfl,.int,.int i,_,rfl,kY ⟨_,rfl,go _ H (Same.refl _) (.int i)⟩⟩⟩
   | bl b=>cases nd
   | str x=>exact⟨_,rfl,rfl,.str,.str x,_,rfl,kY ⟨_,rfl,rfl,.str,.str x,_,rfl,kY ⟨_,rfl,go _ H (Same.refl _) (.str x)⟩⟩⟩
   | lst e h=>cases nd
   | tup e h=>cases nd
 | n+1=>by
  have G:FnOk P w K mg base CX0 (n+1) f fd ["thing"] (IZ n):=VQ D T n;refine D.F.ok scCop (λvs H Q E h=>?_) (λcdv A outer s H vs Q E hr h=>?_)
  ·obtain⟨v,d,S,rfl,_⟩:=h
   rfl
  ·obtain⟨v,d,S,rfl,hS,dv,nd,go⟩:=h;refine⟨_,jB (kN (xK (AH PN T.isi T.lst boot_list (pv 0))) (jE (jS (kX (own:=1) (idx:=[]) (N:=["one"]) rfl rfl rfl (by decide +kernel) (by decide +kernel) (λ_ _ h=>nomatch h) (qJ rfl) rfl (λ_ _ _ h=>nomatch h) (kZ (pv 0)) (λC fp s2 H2=>jF (i:=0) (show List.Nodup (["one"]:List Str) by decide +kernel) rfl (Or.inl rfl) (Or.inr rfl)) (λC fp s2 H2=>jH G hr rfl D.m D.F.kp D.b .nil jR (jA (pv 0) jC))))) kA)
    (jB (kN (xK (AH IB T.isi T.tup boot_tuple (pv 0))) (jE (jS (qB xL (by rfl) T.tup boot_tuple (jA (kX (own:=1) (idx:=[]) (N:=["one"]) rfl rfl rfl (by decide +kernel) (by decide +kernel) (λ_ _ h=>nomatch h) (qJ rfl) rfl (λ_ _ _ h=>nomatch h) (HL (pv 0)) (λC fp s2 H2=>jF (i:=0) (show List.Nodup (["one"]:List Str) by decide +kernel) rfl (Or.inl rfl) (Or.inr rfl)) (λC fp s2 H2=>jH G hr rfl D.m D.F.kp D.b .nil jR (jA (pv 0) jC))) jC)))) kA)
    (jE (jS (pv 0)))), ?_⟩
   try dsimp only
   cases dv with
   | non=>exact⟨_,rfl,rfl,.non,.non,_,rfl,kY ⟨_,rfl,rfl,.non,.non,_,rfl,kY ⟨_,rfl,go _ H (Same.refl _) .non⟩⟩⟩
   | int i=>exact⟨_,rfl,rfl,.int,.int i,_,rfl,kY ⟨_,rfl,rfl,.int,.int i,_,rfl,kY ⟨_,rfl,go _ H (Same.refl _) (.int i)⟩⟩⟩
   | bl b=>cases nd
   | str x=>exact⟨_,rfl,rfl,.str,.str x,_,rfl,kY ⟨_,rfl,rfl,.str,.str x,_,rfl,kY ⟨_,rfl,go _ H (Same.refl _) (.str x)⟩⟩⟩
   | lst e h=>
    rename_i a xs ds;have nd':(decide (ds.length<=24)&&ds.all (nic n))=true:=nd;rw[Bool.and_eq_true]at nd';have ea:=(uD e).2;refine⟨_,rfl,rfl,.lst,.lst ea,_,rfl,vG ?_⟩;refine⟨_,rfl,a,rfl,⟨xs,SqL.of ea⟩,λk H2 nk s2 e2=>?_⟩;refine dCop (xs:=xs) (ds:=ds) hS h (Same.refl _) nd'.2 (mB nd'.1) (λi H3 s3 hi=>⟨⟨xs,xs[i],SqL.of (s3 _ _ ea),by simp [hi]⟩,λx H4 y=>⟨y.1,y.2 xs (SqL.of (s3 _ _ ea))⟩⟩) (λH3 s3=>⟨xs,SqL.of (s3 _ _ ea),nW _⟩) nk s2 e2 λys H3 s3 e3 d3=>?_;have kS:k∉S:=λz=>hS k z nk;exact go _ H3 s3 (.lst (CU kS e3) (d3.same KQ))
   | tup e h=>
    rename_i a xs ds;have nd':(decide (ds.length<=24)&&ds.all (nic n))=true:=nd;rw[Bool.and_eq_true]at nd';have ea:=(uD e).2;refine⟨_,rfl,rfl,.tup,.tup ea,_,rfl,kY ⟨_,rfl,rfl,.tup,.tup ea,_,rfl,vG ?_⟩⟩;refine⟨_,rfl,a,rfl,⟨xs,SqT.of ea⟩,λk H2 nk s2 e2=>?_⟩;refine dCop (xs:=xs) (ds:=ds) hS h (Same.refl _) nd'.2 (mB nd'.1) (λi H3 s3 hi=>⟨⟨xs,xs[i],SqT.of (s3 _ _ ea),by simp [hi]⟩,λx H4 y=>⟨y.1,y.2 xs (SqT.of (s3 _ _ ea))⟩⟩) (λH3 s3=>⟨xs,SqT.of (s3 _ _ ea),nW _⟩) nk s2 e2 λys H3 s3 e3 d3=>?_;have ly:=DK d3;refine⟨k,ys,rfl,.inl ⟨SqL.of e3,λl nl=>?_⟩⟩;have s34:Same H3 (upd H3 l (.tup ys)):=kD _ nl;have lS:l∉S:=λz=>by
     cases e':H l with
     | none=>exact hS l z e'
     | some o=>rw[s3 _ _ e']at nl;cases nl
    exact go _ _ (s3.trans s34) (.tup (CU lS jG) ((d3.same KQ).same (KP s34)))
open LwV
def trD:Tr->PyData
 | .all=>.str "all"
 | .cut l a b=>.tuple [.int (l:Int),trD a,trD b]
def Tr.leaf:Tr->Bool
 | .all=>true
 | .cut .. =>false
theorem QS:(PyData.str "all").canLay0=true:=by
 simp only[PyData.canLay0]
 decide +kernel
theorem wG:∀t,(trD t).canLay0=true
 | .all=>QS
 | .cut l a b=>by simp [trD,PyData.canLay0,PyData.canLayAll0,wG a,wG b]
theorem wH:∀t,(trD t).depth<=t.dp+1
 | .all=>by simp [trD,PyData.depth,Tr.dp]
 | .cut l a b=>by
  have:=wH a;have:=wH b;simp [trD,PyData.depth,PyData.depthAll,Tr.dp];omega
theorem vK{t:Tr}(h:t.dp<=40):DataOk (trD t):=⟨wG t,by have:=wH t;omega⟩
theorem xJ:DataOk (.str "all"):=⟨QS,by simp [PyData.depth]⟩
theorem vV(t:Tr):PyData.eqv (trD t) (.str "all")=t.leaf:=by
 cases t<;>simp [trD,PyData.eqv,Tr.leaf]
theorem BU{H:Hp}{v:V}{l:Nat}{a b:Tr}(h:DecV H v (trD (.cut l a b))):∃(p:Addr) (x y:V),v=.ref p/\H p=some (.tup [.int (l:Int),x,y])/\DecV H x (trD a)/\DecV H y (trD b):=by
 unfold trD at h;cases h with
 | tup e h=>
  cases h with
  | cons h1 t1=>
   cases t1 with
   | cons h2 t2=>
    cases t2 with
    | cons h3 t3=>
     cases t3;cases h1;exact⟨_,_,_,rfl,e,h2,h3⟩
theorem tr_all{H:Hp}{v:V}(h:DecV H v (trD .all)):v=.str "all":=by
 unfold trD at h;cases h
 rfl
theorem FY:∀{ns:List Nat},(∀n∈ns,1<=n)->1<=LwB.szP ns
 | [],_=>nW _
 | n::ns,h=>mX (h n (gY ..)) (FY λk hk=>h k (gI _ hk))
theorem SG{c x:Rat}(hc:0<c)(h:0<=c*x):0<=x:=by
 refine Rat.not_lt.mp λhx=>?_;have:=Rat.mul_pos hc (show 0 < -x by grind)
 grind
theorem OC{ns:List Nat}{R:List Int}{c:Rat}{T:List Nat->Rat}{ends:List (Rat×Rat)}{m:Int}(h:RowF ns R (λp=>c*bzT ends ns T ns.length p))(hc:0<c)(hm:m∈R)(hl:∀x∈R,m<=x):decide ((0:Int)<=m)=NnB ns T ends:=by
 obtain⟨hR,hT⟩:=h;have key:(0<=m)↔NnB ns T ends=true:=by
  rw[nnB_iff];refine⟨λh0 p hp=>?_,λh0=>?_⟩
  ·obtain⟨a,ha⟩:=gF.mp hp;have la:a<R.length:=by rw[hR,<-LwB.plc_len];exact(uU.mp ha).1
   have e:_=c*bzT ends ns T ns.length p:=hT a p ha;rw[uR,uW la]at e;have l:=hl R[a] (mM la);have z:(0:Rat)<=((R[a]:Int):Rat):=Rat.intCast_nonneg.mpr (by omega);exact SG hc (e▸z)
  ·obtain⟨a,ha⟩:=gF.mp hm;have la:=(uU.mp ha).1;have lp:a<(LwB.plc ns).length:=by rw[LwB.plc_len,<-hR];exact la
   have e:_=c*bzT ends ns T ns.length ((LwB.plc ns)[a]):=hT a _ (uW lp);rw[uR,ha]at e;have z:=mY (Rat.le_of_lt hc) (h0 _ (mM lp));exact Rat.intCast_nonneg.mp (e▸z)
 by_cases d:0<=m
 ·rw[mU d,key.mp d]
 ·rw[mR d];cases e:NnB ns T ends with
  | false=>rfl
  | true=>exact absurd (key.mpr e) d
theorem RowF.imp{ns:List Nat}{R:List Int}{T T':List Nat->Rat}(h:RowF ns R T)(e:∀p∈LwB.plc ns,T p=T' p):RowF ns R T':=⟨h.1,λa p hp=>by rw[h.2 a p hp];exact e p (gH hp)⟩
theorem YL{ns:List Nat}{R:List Int}{c:Rat}{T:List Nat->Rat}{ends:List (Rat×Rat)}{k m:Nat}(hn:ns[k]? = some (m+1))(he:ends.length=ns.length)(h1:∀n∈ns,1<=n)(h:RowF ns R (λp=>c*bzT ends ns T ns.length p)):RowF ns (wS lhL ns k R) (λp=>(2^m*c)*bzT (loE ends k) ns T ns.length p)/\RowF ns (wS lhH ns k R) (λp=>(2^m*c)*bzT (hiE ends k) ns T ns.length p):=by
 have kl:=(uU.mp hn).1;have hm:ns.getD k 0-1=m:=by rw[uR,hn];rfl
 obtain⟨a,b⟩:=RN hn h;refine⟨a.imp λp hp=>?_,b.imp λp hp=>?_⟩
 ·rw[XZ kl he h1 hp];unfold uG;rw[yK]
  grind
 ·rw[QM kl he h1 hp,hm];unfold uF;rw[yK]
  grind
theorem US(m:Nat):(0:Rat)<2^m:=Rat.pow_pos (by decide)
structure HdA(ns:List Nat)(T:List Nat->Rat)(ends:List (Rat×Rat))(t:Tr)(R:List Int)(c:Rat)(B:Nat):Prop where
 ok:t.ok ns.length
 h1:∀n∈ns,1<=n
 h5:∀n∈ns,n<=5
 sz:LwB.szP ns<=200
 le:ends.length=ns.length
 rf:RowF ns R (λp=>c*bzT ends ns T ns.length p)
 rb:RowB ns R B
 cp:0<c
 bb:B+9*t.dp<=40000
theorem HdA.cut{ns:List Nat}{T:List Nat->Rat}{ends:List (Rat×Rat)}{l:Nat}{a b:Tr}{R:List Int}{c:Rat}{B:Nat}(h:HdA ns T ends (.cut l a b) R c B):∃m,ns[l]? = some (m+1)/\m<=4/\HdA ns T (loE ends l) a (wS lhL ns l R) (2^m*c) (B+9)/\HdA ns T (hiE ends l) b (wS lhH ns l R) (2^m*c) (B+9):=by
 obtain⟨o1,o2,o3⟩:=h.ok;have e:=uW o1;have g1:=h.h1 _ (mM o1);have g5:=h.h5 _ (mM o1);have e':ns[l]? = some (ns[l]-1+1):=by rw[e];congr 1;omega
 have bb:=h.bb;have bb:B+9*(max a.dp b.dp+1)<=40000:=bb;obtain⟨r1,r2⟩:=YL e' h.le h.h1 h.rf;obtain⟨q1,q2⟩:=RP e' (by omega) h.rf.1 h.rb;have cp:=Rat.mul_pos (US (ns[l]-1)) h.cp;exact⟨ns[l]-1,e',by omega,⟨o2,h.h1,h.h5,h.sz,by rw[wZ,h.le],r1,q1,cp,by omega⟩,⟨o3,h.h1,h.h5,h.sz,by rw[uE,h.le],r2,q2,cp,by omega⟩⟩
def wJ(n:Nat):Sp:=λvs H Q _=>∃(r la:Addr) (v:V) (R:List Int) (xs:List V) (ns:List Nat) (t:Tr) (T:List Nat->Rat) (ends:List (Rat×Rat)) (c:Rat) (B:Nat),vs=[.ref r,v,.ref la]/\H r=some (.lst (R.map V.int))/\DecV H v (trD t)/\t.dp<=n/\n<=40/\H la=some (.lst xs)/\AllL H xs ns/\HdA ns T ends t R c B/\∀H',Same H H'->Q (.bl (t.holds ns T ends)) H'
theorem scHo:FnScope ["row","tree","lines","letter","low","high","lower","upper"] ["row","tree","lines"] (jQ zY):=⟨rfl,rfl,rfl,by decide +kernel,rfl,by decide +kernel,by decide +kernel⟩
theorem JU{fR:Addr}{fdR:FuncData}(D:Df K mg "holds" zY ["row","tree","lines"] f fd)(T:Txt mg)(DR:Df K mg "row_halved" CA ["row","lines"] fR fdR)(GR:FnOk P w K mg base CX0 2 fR fdR ["row","lines"] spRHalf):∀n:Nat,FnOk P w K mg base CX0 (n+3) f fd ["row","tree","lines"] (wJ n)
 | 0=>by
  refine D.F.ok scHo (λvs H Q E h=>?_) (λcdv A outer s H vs Q E hr h=>?_)
  ·obtain⟨r,la,v,R,xs,ns,t,T',ends,c,B,rfl,_⟩:=h
   rfl
  ·obtain⟨r,la,v,R,xs,ns,t,T',ends,c,B,rfl,hR,hv,d0,n40,hla,hA,hd,go⟩:=h;have hr2:=hr.mono (show 2<=0+2 by omega);refine⟨_,jB (kN (jU (wB hr.units) (pv 1) qK (jX _)) (jE (jS (zJ JS (qD (AO rfl) (by rfl) T.min EB (jA (pv 0) jC)) jD (jX _)))) kA) vZ, ?_⟩;try dsimp only[cxK]
   cases t with
   | cut l a b=>exact absurd d0 (by show ¬(max a.dp b.dp+1<=0);omega)
   | all=>
    refine⟨_,rfl,_,_,hv,.str _,vK (t:=.all) (by decide),xJ,_,rfl, ?_⟩;rw[vV];refine vG ⟨_,rfl,r,R,rfl,hR, ?_,λm hm hl=>⟨_,_,rfl,rfl, ?_⟩⟩
    ·intro z;have h0:=hd.rf.1;have:=FY hd.h1;rw[z]at h0;have h0:0=LwB.szP ns:=h0;omega
    ·show Q (.bl (decide ((0:Int)<=m))) H;rw[OC hd.rf hd.cp hm hl];exact go H (Same.refl _)
 | n+1=>by
  have G:FnOk P w K mg base CX0 (n+3) f fd ["row","tree","lines"] (wJ n):=JU D T DR GR n;refine D.F.ok scHo (λvs H Q E h=>?_) (λcdv A outer s H vs Q E hr h=>?_)
  ·obtain⟨r,la,v,R,xs,ns,t,T',ends,c,B,rfl,_⟩:=h
   rfl
  ·obtain⟨r,la,v,R,xs,ns,t,T',ends,c,B,rfl,hR,hv,d0,n40,hla,hA,hd,go⟩:=h;have hr2:=hr.mono (show 2<=n+1+2 by omega);refine⟨_,jB (kN (jU (wB hr.units) (pv 1) qK (jX _)) (jE (jS (zJ JS (qD (AO rfl) (by rfl) T.min EB (jA (pv 0) jC)) jD (jX _)))) kA) (jB (kU (pv 1) (kJ rfl (jI (jF (i:=3) scHo.nd rfl (Or.inl rfl)) (jI (jF (i:=4) scHo.nd rfl (Or.inl rfl)) (jI (jF (i:=5) scHo.nd rfl (Or.inl rfl)) kC))))) (jB (kN (jU RX (pv 3) (qB ND (by rfl) T.rng boot_range (jA (qD qG (by rfl) T.len PySem.boot_len (jA (pv 2) jC)) jC)) rfl) (jE (jS AS)) kA) (jB (kU (jH GR hr2 rfl DR.m DR.F.kp DR.b .nil jR (jA (pv 0) (jA (jT kK (pv 2) (pv 3) (λ_ _=>rfl)) jC))) (kJ rfl (jI (jF (i:=6) scHo.nd rfl (Or.inl rfl)) (jI (jF (i:=7) scHo.nd rfl (Or.inl rfl)) kC)))) (jE (jS (pe_and (jH G hr rfl D.m D.F.kp D.b .nil jR (jA (pv 6) (jA (pv 4) (jA (pv 2) jC)))) (UW (jH G hr rfl D.m D.F.kp D.b .nil jR (jA (pv 7) (jA (pv 5) (jA (pv 2) jC))))))))))), ?_⟩;try dsimp only[cxK]
   cases t with
   | all=>
    refine⟨_,rfl,_,_,hv,.str _,vK (t:=.all) (by decide),xJ,_,rfl, ?_⟩;rw[vV];refine vG ⟨_,rfl,r,R,rfl,hR, ?_,λm hm hl=>⟨_,_,rfl,rfl, ?_⟩⟩
    ·intro z;have h0:=hd.rf.1;have:=FY hd.h1;rw[z]at h0;have h0:0=LwB.szP ns:=h0;omega
    ·show Q (.bl (decide ((0:Int)<=m))) H;rw[OC hd.rf hd.cp hm hl];exact go H (Same.refl _)
   | cut l a b=>
    refine⟨_,rfl,_,_,hv,.str _,vK (t:=.cut l a b) (by omega),xJ,_,rfl, ?_⟩;rw[vV];refine kY ?_;obtain⟨p,x,y,rfl,hp,hx,hy⟩:=BU hv;obtain⟨m,hn,m4,hda,hdb⟩:=hd.cut;have kl:=(uU.mp hn).1;have lx:xs.length=ns.length:=by rw[Paired.length hA,mC]
    have d0:max a.dp b.dp+1<=n+1:=d0;refine⟨_,rfl,gT3n (SqT.of hp) rfl ?_⟩;refine⟨_,rfl,_,rfl,la,_,rfl,.inl (SqL.of hla),_,rfl,λq nq=>?_⟩;have sq:=kD (.rng 0 (xs.length:Int)) nq;refine⟨_,_,q,rfl,rfl,jG,_,rfl, ?_⟩;rw[show(!(decide ((0:Int)<=(l:Int))&&decide ((l:Int)<(xs.length:Int))))=false by rw[mU (show(0:Int)<=l by omega),mU (show(l:Int)<(xs.length:Int) by omega)];rfl];refine kY ?_;have kx:l<xs.length:=by omega
    have hlv:=uW kx;obtain⟨k',hk',hln⟩:=Paired.at hA hlv;rw[gP kl]at hk';cases hk';have hln:=LnsV.same hln sq;obtain⟨lb,ys,elb,hlb,hls⟩:=hln;rw[elb]at hlv;refine⟨_,rfl,_,rfl,_,rfl,la,xs,_,_,rfl,rfl,SqL.of (sq _ _ hla),qS hlv,r,lb,R,ns,l,m,B,rfl,sq _ _ hR,⟨lb,ys,rfl,hlb,hls⟩,hn,m4,hd.sz,hd.rf.1,hd.rb,by have:=hd.bb;omega,λpp lo up H2 n1 n2 n3 s2 e1 e2 e3=>?_⟩;have s2:=sq.trans s2;refine gT2 (SqT.of e1) rfl ?_;refine⟨_,rfl,_,rfl,_,rfl,lo,la,x,_,xs,ns,a,T',_,_,_,rfl,e2,DecV.same s2 hx,by omega,by omega,s2 _ _ hla,hA.same s2,hda,λH3 s3=>⟨_,rfl, ?_⟩⟩;have s23:=s2.trans s3;have hold:Tr.holds ns T' ends (.cut l a b)=(a.holds ns T' (loE ends l)&&b.holds ns T' (hiE ends l)):=rfl;cases ea:a.holds ns T' (loE ends l)with
    | false=>
     refine kY ?_;have:=go H3 s23;rw[hold,ea]at this;exact this
    | true=>
     refine vG ⟨_,rfl,_,rfl,_,rfl,up,la,y,_,xs,ns,b,T',_,_,_,rfl,s3 _ _ e3,DecV.same s23 hy,by omega,by omega,s23 _ _ hla,hA.same s23,hdb,λH4 s4=>?_⟩;have:=go H4 (s23.trans s4);rw[hold,ea]at this;exact this
def GI(K:tJ)(n:Nat):Sp:=λvs H Q _=>∃(p b:Addr) (v:V) (many:Nat) (z:Sz) (ts:List Trm) (bx:List V) (ends:List (Rat×Rat)) (t:Tr),vs=[.ref p,.ref b,v]/\Poly H p many z ts/\z.S<=400/\z.v<=400/\ts.length<=63/\SqL K H b bx/\(∀H',Same H H'->SqL K H' b bx)/\Paired (EndV K H) bx ends/\(∀e∈ends,EndOk e)/\ends.length=many/\many<=4/\LwB.szP (szT many (ts.map Trm.ns))<=200/\(∀n∈szT many (ts.map Trm.ns),n<=5)/\DecV H v (trD t)/\t.ok many/\t.dp<=n/\n<=40/\
 ∀H',Same H H'->Q (.bl (t.holds (szT many (ts.map Trm.ns)) (cfN (tl ts)) ends)) H'
theorem scBe:FnScope ["one","box","tree","row","bottom"] ["one","box","tree"] (jQ CD):=⟨rfl,rfl,rfl,by decide +kernel,rfl,by decide +kernel,by decide +kernel⟩
theorem VS{n:Nat}{fR fS fA fH:Addr}{fdR fdS fdA fdH:FuncData}(F:Fun K "bears_tree" "bears_tree" CD f fd)(DR:Df K mg "box_row" zI ["one","box"] fR fdR)(GR:FnOk P w K mg base CX0 5 fR fdR ["one","box"] (wK K))(DS:Df K mg "sizes_of" AA ["one"] fS fdS)(GS:FnOk P w K mg base CX0 1 fS fdS ["one"] spSizes)(DA:Df K mg "all_lines" JD ["sizes"] fA fdA)(GA:FnOk P w K mg base CX0 3 fA fdA ["sizes"] spAllL)(DH:Df K mg "holds" zY ["row","tree","lines"] fH fdH)(GH:FnOk P w K mg base CX0 (n+3) fH fdH ["row","tree","lines"] (wJ n)):FnOk P w K mg base CX0 (n+6) f fd ["one","box","tree"] (GI K n):=by
 refine F.ok scBe (λvs H Q E h=>?_) (λcdv A outer s H vs Q E hr h=>?_)
 ·obtain⟨p,b,v,many,z,ts,bx,ends,t,rfl,_⟩:=h
  rfl
 ·obtain⟨p,b,v,many,z,ts,bx,ends,t,rfl,hP,zS,zv,t63,hb,hbk,hE,hEo,el,m4,h200,h5,hv,tok,dp,n40,go⟩:=h;have hr5:=hr.mono (show 5<=n+5 by omega);have hr3:=hr.mono (show 3<=n+5 by omega);have hr1:=hr.mono (show 1<=n+5 by omega);have hrn:=hr.mono (show n+3<=n+5 by omega);refine⟨_,jB (kU (jH GR hr5 rfl DR.m DR.F.kp DR.b .nil jR (jA (pv 0) (jA (pv 1) jC))) (kJ rfl (jI (jF (i:=3) scBe.nd rfl (Or.inl rfl)) (jI (jF (i:=4) scBe.nd rfl (Or.inl rfl)) kC)))) (jE (jS (jH GH hrn rfl DH.m DH.F.kp DH.b .nil jR (jA (pv 3) (jA (pv 2) (jA (jH GA hr3 rfl DA.m DA.F.kp DA.b .nil jR (jA (jH GS hr1 rfl DS.m DS.F.kp DS.b .nil jR (jA (pv 0) jC)) jC)) jC)))))), ?_⟩;try dsimp only[cxK]
  refine⟨_,rfl,_,rfl,p,b,many,z,ts,bx,ends,rfl,hP,zS,zv,t63,hb,hbk,hE,hEo,el,m4,h200,h5,λr q R bot H1 n1 m1 s1 e1 g1 pb bb rb rf=>?_⟩;refine gT2 (SqT.of e1) rfl ?_;try dsimp only[jP]
  have sl:(szT many (ts.map Trm.ns)).length=many:=vO _ _;refine⟨_,rfl,_,rfl,_,rfl,p,many,z,ts,rfl,hP.kp (Kp.of s1),m4,t63,λl H2 n2 s2 e2=>⟨l,_,rfl,e2,zB _ _,h200,by omega,λla xs H3 n3 s3 e3 a3=>?_⟩⟩;have s23:=s2.trans s3;have s13:=s1.trans s23;refine⟨q,la,v,R,xs,_,t,cfN (tl ts),ends,(bot:Rat),1300+many*700,rfl,s23 _ _ g1,DecV.same s13 hv,dp,n40,e3,a3,⟨by rw[sl];exact tok,zB _ _,h5,h200,by rw[sl];exact el,by rw[sl];exact rf,rb,Rat.intCast_pos.mpr pb,by omega⟩,λH4 s4=>go H4 (s13.trans s4)⟩
def EndB(k:Nat)(e:Rat×Rat):Prop:=∃j,j<=k/\EndC j e
theorem EndB.mono{k k':Nat}{e:Rat×Rat}(h:EndB k e)(hk:k<=k'):EndB k' e:=let ⟨j,hj,h⟩:=h;⟨j,by omega,h⟩
theorem EndC.sz30{k:Nat}{e:Rat×Rat}(h:EndC k e)(k30:k<=30):EndOk e/\SzR 60 e.1/\SzR 60 e.2:=by
 obtain⟨D,dp,d81,w1,w2⟩:=h.D;have pp:=p2pos k;have Dp:0<D*2^k:=nY dp pp;have Db:(D*2^k).natAbs<=2^37:=by
  rw[mV,Int.natAbs_pow,show(2:Nat)^37=2^7*2^30 by decide];exact mX (by omega) (gJ (by decide) k30)
 have key:∀x:Rat,Wh (D*2^k) x->Bd 16 x->(x.den:Int)∣D*2^k/\x.den<=2^37/\x.num.natAbs<=2^41:=λx hx hb=>by
  have d:=Wh.den hx;have l:=Int.le_of_dvd Dp d;have l':x.den<=2^37:=by omega
  refine⟨d,l',nK hb ?_⟩;rw[show(2:Nat)^41=16*2^37 by decide];exact gQ _ l'
 obtain⟨a1,a2,a3⟩:=key _ w1 h.b1;obtain⟨c1,c2,c3⟩:=key _ w2 h.b2;have s1:SzR 60 e.1:=⟨gR a3 (by decide),gR a2 (by decide)⟩;have s2:SzR 60 e.2:=⟨gR c3 (by decide),gR c2 (by decide)⟩;exact⟨⟨⟨_,Dp,nK Db (by decide),a1,c1⟩,s1.1,s2.1⟩,s1,s2⟩
theorem EndB.sz{k:Nat}{e:Rat×Rat}(h:EndB k e)(k30:k<=30):EndOk e/\SzR 60 e.1/\SzR 60 e.2:=let ⟨_,hj,h⟩:=h;h.sz30 (by omega)
theorem EndB.half{k:Nat}{e:Rat×Rat}(h:EndB k e):EndB (k+1) (e.1,(e.1+e.2)/2)/\EndB (k+1) ((e.1+e.2)/2,e.2):=by
 obtain⟨j,hj,h⟩:=h;exact⟨⟨j+1,by omega,h.half.1⟩,⟨j+1,by omega,h.half.2⟩⟩
structure BoxW(H:Hp)(b:Addr)(k:Nat)(ends:List (Rat×Rat)):Prop where
 ex:∃bx,H b=some (.lst bx)/\Paired (EndH H) bx ends
 hC:∀e∈ends,EndB k e
theorem BoxW.same{H H':Hp}{b:Addr}{k:Nat}{ends:List (Rat×Rat)}(h:BoxW H b k ends)(s:Same H H'):BoxW H' b k ends:=
 let ⟨bx,e1,e2⟩:=h.ex
 ⟨⟨bx,s _ _ e1,Paired.to (λ_ _ y=>y.kp (Kp.of s)) e2⟩,h.hC⟩
theorem LC(xs:List V)(k:Nat):zT xs none (some (k:Int))=xs.take k:=by
 unfold zT;rw[HT.sIx_none,HT.sIx_nat,List.drop_zero,Nat.sub_zero];by_cases h:k<=xs.length
 ·rw[Nat.min_eq_left h]
 ·rw[Nat.min_eq_right (by omega),gA uO,gA (by omega)]
theorem FH(xs:List V)(k:Nat):zT xs (some ((k:Int)+1)) none=xs.drop (k+1):=by
 unfold zT;rw[HT.sIx_none,show(k:Int)+1=((k+1:Nat):Int) by omega,HT.sIx_nat];by_cases h:k+1<=xs.length
 ·rw[Nat.min_eq_left h,gA (by rw[List.length_drop];omega)]
 ·rw[Nat.min_eq_right (by omega),List.drop_of_length_le uO,List.drop_of_length_le (by omega),List.take_nil]
theorem EU{xs:List V}{k:Nat}{x:V}(h:k<xs.length):xs.take k++[x]++xs.drop (k+1)=xs.set k x:=by
 rw[List.set_eq_take_append_cons_drop,tI h,hZ]
 rfl
theorem OP{α:Type}{l:List α}{k:Nat}{x a:α}(h:a∈l.set k x):a∈l∨a=x:=List.mem_or_eq_of_mem_set h
structure SumW(H:Hp)(p:Addr)(many:Nat)(ts:List Trm):Prop where
 ex:∃z,Poly H p many z ts/\z.S<=400/\z.v<=400
 t63:ts.length<=63
 m1:1<=many
 m3:many<=3
 s200:LwB.szP (szT many (ts.map Trm.ns))<=200
 s5:∀n∈szT many (ts.map Trm.ns),n<=5
theorem SumW.kp{H H':Hp}{p:Addr}{many:Nat}{ts:List Trm}(h:SumW H p many ts)(k:Kp H H'):SumW H' p many ts:=
 let ⟨z,e1,e2,e3⟩:=h.ex
 ⟨⟨z,e1.kp k,e2,e3⟩,h.t63,h.m1,h.m3,h.s200,h.s5⟩
def spUnder:Sp:=λvs H Q _=>∃(p q:Addr) (x y:Rat),vs=[.ref p,.ref q]/\At2 H p x.num x.den/\At2 H q y.num y.den/\SzR 3900 x/\SzR 3900 y/\Q (.bl (decide (x<y))) H
def spHalves:Sp:=λvs H Q _=>∃(b:Addr) (l k:Nat) (ends:List (Rat×Rat)),vs=[.ref b,.int l]/\BoxW H b k ends/\k<=29/\l<ends.length/\ends.length<=4/\
 ∀(p b1 b2:Addr) (H':Hp),H p=none->H b1=none->H b2=none->Same H H'->H' p=some (.tup [.ref b1,.ref b2])->BoxW H' b1 (k+1) (loE ends l)->BoxW H' b2 (k+1) (hiE ends l)->Q (.ref p) H'
def spLeast:Sp:=λvs H Q _=>∃(p b:Addr) (many k:Nat) (ts:List Trm) (ends:List (Rat×Rat)),vs=[.ref p,.ref b]/\SumW H p many ts/\BoxW H b k ends/\k<=30/\ends.length=many/\
 ∀(a:Addr) (r:Rat) (H':Hp),Same H H'->At2 H' a r.num r.den->decide (r.num<0) = !NnB (szT many (ts.map Trm.ns)) (cfN (tl ts)) ends->Q (.ref a) H'
inductive LeI(H:Hp)(p b:Addr)(rs:List Rat)(i:Nat):L2.St->Hp->Prop where
 | mk {v:V} {u3:Option V} {H':Hp} (s:Same H H') (h:(i=0/\v=.non)∨∃(a:Addr) (r:Rat),v=.ref a/\At2 H' a r.num r.den/\r∈rs.take i/\∀x∈rs.take i,r<=x):LeI H p b rs i [some (.ref p),some (.ref b),some v,u3] H'
theorem WP{rs:List Rat}{r:Rat}(h1:r∈rs)(h2:∀x∈rs,r<=x):(r.num<0)↔¬∀x∈rs,0<=x:=by
 rw[show(r.num<0)↔¬(0<=r.num) by omega,num_nn];exact not_congr ⟨λh x hx=>Rat.le_trans h (h2 x hx),λh=>h r h1⟩
theorem scUn:FnScope ["one","other"] ["one","other"] (jQ GZ):=⟨rfl,rfl,rfl,by decide +kernel,rfl,by decide +kernel,by decide +kernel⟩
theorem VE(F:Fun K "_law_under" "_law_under" GZ f fd):FnOk P w K mg base CX0 1 f fd ["one","other"] spUnder:=by
 refine F.ok scUn (λvs H Q E h=>?_) (λcdv A outer s H vs Q E hr h=>?_)
 ·obtain⟨p,q,x,y,rfl,_⟩:=h
  rfl
 ·obtain⟨p,q,x,y,rfl,hp,hq,zx,zy,k⟩:=h;refine⟨_,jE (jS (zJ zV (jK kH (jT jV (pv 0) jD (λ_ _=>rfl)) (jT jV (pv 1) jD (λ_ _=>rfl))) (jK kH (jT jV (pv 1) jD (λ_ _=>rfl)) (jT jV (pv 0) jD (λ_ _=>rfl))) (jX _))), ?_⟩;try dsimp only[cxK]
  have bx:((x.den:Int)).natAbs<2^3900:=by rw[gX];exact zx.2
  have by':((y.den:Int)).natAbs<2^3900:=by rw[gX];exact zy.2
  have up:∀{a:Int},a.natAbs<2^3900->a.natAbs<2^100000:=λh=>jJ h (by decide);refine rvT rfl (SqT.of hp) rfl (rvT rfl (SqT.of hq) rfl ⟨_,_,rfl,rfl,⟨up zx.1,up by'⟩,rvT rfl (SqT.of hq) rfl (rvT rfl (SqT.of hp) rfl ⟨_,_,rfl,rfl,⟨up zy.1,up bx⟩,_,_,rfl,rfl, ?_⟩)⟩);show Q (.bl (decide (x.num*(y.den:Int)<y.num*(x.den:Int)))) H;rw[show decide (x.num*(y.den:Int)<y.num*(x.den:Int))=decide (x<y)from decide_eq_decide.mpr (Rat.lt_iff x y).symm];exact k
theorem scHv:FnScope ["box","letter","low","high","middle","one"] ["box","letter"] (jQ zF):=⟨rfl,rfl,rfl,by decide +kernel,rfl,by decide +kernel,by decide +kernel⟩
theorem SB{fP fL:Addr}{fdP fdL:FuncData}(F:Fun K "_law_halves" "_law_halves" zF f fd)(DP:Df K mg "_law_plus" wN ["one","other"] fP fdP)(GP:FnOk P w K mg base CX0 1 fP fdP ["one","other"] spPlus)(DL:Df K mg "_law_low" EH ["top","bottom"] fL fdL)(GL:FnOk P w K mg base CX0 1 fL fdL ["top","bottom"] spLow):FnOk P w K mg base CX0 2 f fd ["box","letter"] spHalves:=by
 refine F.ok scHv (λvs H Q E h=>?_) (λcdv A outer s H vs Q E hr h=>?_)
 ·obtain⟨b,l,k,ends,rfl,_⟩:=h
  rfl
 ·obtain⟨b,l,k,ends,rfl,⟨⟨bx,hb,hE⟩,hC⟩,k29,hl,e4,go⟩:=h;refine⟨_,jB (kU (jT kK (pv 0) (pv 1) (λ_ _=>rfl)) (kJ rfl (jI (jF (i:=2) scHv.nd rfl (Or.inl rfl)) (jI (jF (i:=3) scHv.nd rfl (Or.inl rfl)) kC)))) (jB (jN (i:=4) scHv.nd rfl (Or.inl rfl) (jH GP hr rfl DP.m DP.F.kp DP.b .nil jR (jA (pv 2) (jA (pv 3) jC)))) (jB (jN (i:=4) scHv.nd rfl (Or.inl rfl) (jH GL hr rfl DL.m DL.F.kp DL.b .nil jR (jA (jT jV (pv 4) jD (λ_ _=>rfl)) (jA (jK kH (jT jV (pv 4) jD (λ_ _=>rfl)) jD) jC)))) (jB (jN (i:=5) scHv.nd rfl (Or.inl rfl) (jK wX (jK wX (vR vQ (pv 0) xE (vW (pv 1))) (qC (jA (jW (jA (pv 2) (jA (pv 4) jC))) jC))) (vR vQ (pv 0) (vW (jK kW (pv 1) jD)) xE))) (jE (jS (jW (jA (pv 5) (jA (jK wX (jK wX (vR vQ (pv 0) xE (vW (pv 1))) (qC (jA (jW (jA (pv 4) (jA (pv 3) jC))) jC))) (vR vQ (pv 0) (vW (jK kW (pv 1) jD)) xE)) jC)))))))), ?_⟩;try dsimp only[cxK]
  have lbx:bx.length=ends.length:=Paired.length hE;have kx:l<bx.length:=by omega
  have hv:=uW kx;obtain⟨e,he,hh⟩:=Paired.at hE hv;obtain⟨r,a1,a2,er,g1,g2,g3⟩:=hh.ex;rw[er]at hv;have ee:ends.getD l (0,0)=e:=by rw[uR,he];rfl
  have eC:=hC e (gH he);obtain⟨_,z1,z2⟩:=eC.sz (by omega);have b1:((e.1.den:Int)).natAbs<2^60:=by rw[gX];exact z1.2
  have b2:((e.2.den:Int)).natAbs<2^60:=by rw[gX];exact z2.2
  have p1:=e.1.den_pos;have p2:=e.2.den_pos;refine⟨_,rfl,_,rfl,b,bx,_,_,rfl,rfl,SqL.of hb,qS hv, ?_⟩;refine gT2 (SqT.of g1) rfl ?_;refine⟨_,rfl,_,rfl,a1,a2,e.1.num,e.1.den,e.2.num,e.2.den,rfl,g2,g3,by omega,by omega,jJ z1.1 (by decide),jJ b1 (by decide),jJ z2.1 (by decide),jJ b2 (by decide),λm0 t u H1 n1 s1 e1 pu lu eq=>?_⟩;have fp:fv t u=e.1+e.2:=by rw[zN (by omega) (by omega) pu eq,qH,qH]
  have lu':u.natAbs<2^120:=by
   have:=kT b1 b2;rw[mV]at this;exact gR lu this
  try dsimp only[jP]
  refine rvT rfl (SqT.of e1) rfl (rvT rfl (SqT.of e1) rfl ⟨_,_,rfl,rfl,⟨jJ lu' (by decide),gU (show(2:Int).natAbs<2^2 by decide) (gJ (by decide) (by decide))⟩,t,u*2,rfl,by omega,.inl ?_,λmd H2 n2 s2 e2=>?_⟩)
  ·have:=kT lu' (show(2:Int).natAbs<2^2 by decide);exact gU this (gJ (by decide) (by decide))
  have e2:At2 H2 md ((e.1+e.2)/2).num ((e.1+e.2)/2).den:=wE e2 (by omega) (by
   rw[<-fp];unfold fv;rw[mT];have:=cne pu;have:((2:Int):Rat)=2:=rfl
   grind)
  have s12:=s1.trans s2;try dsimp only[jP]
  have zb:bx.length+8<=sizeLine:=by rw[lbx,sizeLine_eq];omega
  refine⟨_,rfl,_,rfl,_,rfl,b,bx,rfl,SqL.of (s12 _ _ hb),λc1 H3 n3 s3 e3=>?_⟩;refine⟨_,rfl,_,rfl,by show 2<=sizeLine;decide,λc2 H4 n4 s4 e4=>⟨by show 1<=sizeLine;decide,λc3 H5 n5 s5 e5=>?_⟩⟩;rw[LC]at e3;refine⟨c1,c3,_,_,rfl,rfl,(s4.trans s5) _ _ e3,e5,by rw[mI];simp only[gG];omega,λc4 H6 n6 s6 e6=>?_⟩;have s26:=((s3.trans s4).trans s5).trans s6;have s06:=s12.trans s26;refine⟨_,rfl,_,rfl,_,_,rfl,rfl,_,rfl,b,bx,rfl,SqL.of (s06 _ _ hb),λc5 H7 n7 s7 e7=>?_⟩;have e7:H7 c5=some (.lst (bx.drop (l+1))):=by rw[<-FH];exact e7
  refine⟨c4,c5,_,_,rfl,rfl,s7 _ _ e6,e7,by rw[gS,mI,List.length_drop];simp only[gG];omega,λo1 H8 n8 s8 e8=>?_⟩;rw[EU kx]at e8;have s48:=((s5.trans s6).trans s7).trans s8;have s28:=(s26.trans s7).trans s8;have s08:=s12.trans s28;try dsimp only[jP]
  refine⟨_,rfl,_,rfl,_,rfl,_,rfl,b,bx,rfl,SqL.of (s08 _ _ hb),λd1 H9 n9 s9 e9=>?_⟩;refine⟨_,rfl,_,rfl,by show 2<=sizeLine;decide,λd2 Ha na sa ea=>⟨by show 1<=sizeLine;decide,λd3 Hb nb sb eb=>?_⟩⟩;rw[LC]at e9;refine⟨d1,d3,_,_,rfl,rfl,(sa.trans sb) _ _ e9,eb,by rw[mI];simp only[gG];omega,λd4 Hc nc sc ec=>?_⟩;have s8c:=((s9.trans sa).trans sb).trans sc;have s0c:=s08.trans s8c;refine⟨_,rfl,_,rfl,_,_,rfl,rfl,_,rfl,b,bx,rfl,SqL.of (s0c _ _ hb),λd5 Hd nd sd ed=>?_⟩;have ed:Hd d5=some (.lst (bx.drop (l+1))):=by rw[<-FH];exact ed
  refine⟨d4,d5,_,_,rfl,rfl,sd _ _ ec,ed,by rw[gS,mI,List.length_drop];simp only[gG];omega,λo2 He ne se ee'=>?_⟩;rw[EU kx]at ee';refine⟨by show 2<=sizeLine;decide,λpp Hf nf sf ef=>?_⟩;have sae:=((sb.trans sc).trans sd).trans se;have s8e:=(s8c.trans sd).trans se;have s8f:=s8e.trans sf;have s0f:=s08.trans s8f;have s2f:=s28.trans s8f;have hE':=Paired.to (λ_ _ (y:EndH H _ _)=>y.kp (Kp.of s0f)) hE;have sef:=sae.trans sf;refine go pp o1 o2 Hf ((s08.trans s8e).free nf) ((s12.trans (s26.trans s7)).free n8) ((s08.trans (s8c.trans sd)).free ne) s0f ef ⟨⟨_,s8f _ _ e8, ?_⟩,λx hx=>?_⟩ ⟨⟨_,sf _ _ ee', ?_⟩,λx hx=>?_⟩
  ·exact Paired.set hE' ⟨c2,a1,md,rfl,(s48.trans s8f) _ _ e4,by rw[ee];exact s0f _ _ g2,by rw[ee];exact s2f _ _ e2⟩
  ·rcases OP hx with h | rfl
   ·exact(hC x h).mono (by omega)
   ·rw[ee];exact eC.half.1
  ·exact Paired.set hE' ⟨d2,md,a2,rfl,sef _ _ ea,by rw[ee];exact s2f _ _ e2,by rw[ee];exact s0f _ _ g3⟩
  ·rcases OP hx with h | rfl
   ·exact(hC x h).mono (by omega)
   ·rw[ee];exact eC.half.2
theorem scLe:FnScope ["whole","box","found","number"] ["whole","box"] (jQ AB):=⟨rfl,rfl,rfl,by decide +kernel,rfl,by decide +kernel,by decide +kernel⟩
theorem VN{fN fU:Addr}{fdN fdU:FuncData}(F:Fun K "_law_least" "_law_least" AB f fd)(DN:Df K mg "box_numbers" OB ["one","box"] fN fdN)(GN:FnOk P w K mg base CX0 6 fN fdN ["one","box"] (UI K))(DU:Df K mg "_law_under" GZ ["one","other"] fU fdU)(GU:FnOk P w K mg base CX0 1 fU fdU ["one","other"] spUnder):FnOk P w K mg base CX0 7 f fd ["whole","box"] spLeast:=by
 refine F.ok scLe (λvs H Q E h=>?_) (λcdv A outer s H vs Q E hr h=>?_)
 ·obtain⟨p,b,many,k,ts,ends,rfl,_⟩:=h
  rfl
 ·obtain⟨p,b,many,k,ts,ends,rfl,S,⟨⟨bx,hb,hE⟩,hC⟩,k30,el,go⟩:=h;have hr1:=hr.mono (show 1<=6 by omega);refine⟨_,jB (jN (i:=2) scLe.nd rfl (Or.inl rfl) (HM)) (jB (kO PassesOwn.never rfl (kZ (jH GN hr rfl DN.m DN.F.kp DN.b .nil jR (jA (pv 0) (jA (pv 1) jC)))) (jF (i:=3) scLe.nd rfl (Or.inl rfl)) (jE (kN (PW.pt (wT (MH (VA (pv 2))) (yQ (xK (jH GU hr1 rfl DU.m DU.F.kp DU.b .nil jR (jA (pv 3) (jA (pv 2) jC))))))) (jE (jN (i:=2) scLe.nd rfl (Or.inl rfl) (pv 3))) kA))) (jE (jS (pv 2)))), ?_⟩;try dsimp only[cxK]
  obtain⟨z,hP,zS,zv⟩:=S.ex;have m3:=S.m3;refine⟨_,rfl,_,rfl,p,b,many,z,ts,bx,ends,rfl,hP,zS,zv,S.t63,SqL.of hb,λH' s'=>SqL.of (s' _ _ hb),Paired.to (λ_ _ h=>h.toV) hE,λe he=>((hC e he).sz k30).1,el,by omega,S.s200,S.s5,λl xs H1 n1 s1 e1 N1 sz1=>?_⟩;generalize hrs:ER many (tl ts) (ts.map Trm.ns) ends=rs at N1 sz1;have lx:xs.length=rs.length:=Paired.length N1;have szr:∀r∈rs,SzR 3900 r:=λr hr=>⟨gU (sz1 r hr).2 (gJ (by decide) (by omega)),gR (sz1 r hr).1 (gK (by decide) (by omega))⟩;refine⟨l,rfl,⟨xs,SqL.of e1⟩,qT (K:=K) (a:=l) (xs:=xs) (LeI H1 p b rs) (.mk (v:=.non) (u3:=none) (Same.refl _) (.inl ⟨rfl,rfl⟩)) (λi σ H3 _ h=>?_) (λi x σ H3 hx h=>?_) (fun σ H3 h=>?_)⟩
  ·cases h with
   | mk s h=>exact SqL.of (s _ _ e1)
  ·cases h with
   | @mk v u3 _ s3 h=>
   obtain⟨r,hr',c,rfl,at'⟩:=Paired.at N1 hx;have at3:At2 H3 c r.num r.den:=s3 _ _ at';have rin:=gH hr';have tk:rs.take (i+1)=rs.take i++[r]:=by rw[hW,hr'];rfl
   dsimp only[jP];rcases h with⟨rfl,rfl⟩ | ⟨a,q,rfl,hq,q1,q2⟩
   ·refine⟨_,rfl,_,rfl, ?_⟩;rw[mU rfl];refine vG (vG ⟨_,rfl, ?_⟩);refine .mk (v:=.ref c) (u3:=some (.ref c)) s3 (.inr ⟨c,r,rfl,at3, ?_, ?_⟩)
    ·rw[tk];simp
    ·rw[tk];intro x hx;rcases mS.mp hx with h | h
     ·simp at h
     ·rw[gW.mp h];exact Rat.le_refl
   ·refine⟨_,rfl,_,rfl, ?_⟩;rw[mR (λz=>nomatch z)];refine kY ⟨_,rfl,_,rfl,c,a,r,q,rfl,at3,hq,szr r rin,szr q (gN q1),_,rfl, ?_⟩;by_cases d:r<q
    ·rw[mU d];refine vG ⟨_,rfl, ?_⟩;refine .mk (v:=.ref c) (u3:=some (.ref c)) s3 (.inr ⟨c,r,rfl,at3, ?_, ?_⟩)
     ·rw[tk];simp
     ·rw[tk];intro x hx;rcases mS.mp hx with h | h
      ·exact Rat.le_trans (Rat.le_of_lt d) (q2 x h)
      ·rw[gW.mp h];exact Rat.le_refl
    ·rw[mR d];refine kY ?_;refine .mk (v:=.ref a) (u3:=some (.ref c)) s3 (.inr ⟨a,q,rfl,hq, ?_, ?_⟩)
     ·rw[tk];exact List.mem_append_left _ q1
     ·rw[tk];intro x hx;rcases mS.mp hx with h | h
      ·exact q2 x h
      ·rw[gW.mp h];exact Rat.not_lt.mp d
  ·cases h with
   | @mk v u3 _ s3 h=>
   have lr:1<=rs.length:=by
    rw[<-hrs];unfold ER;rw[mP,LwB.plc_len];exact FY (zB _ _)
   rcases h with⟨h0,_⟩ | ⟨a,q,rfl,hq,q1,q2⟩
   ·omega
   ·rw[lx,mK]at q1 q2;refine⟨_,rfl,go a q H3 (s1.trans s3) hq ?_⟩;have key:=WP q1 q2;have nb:NnB (szT many (ts.map Trm.ns)) (cfN (tl ts)) ends=true↔∀x∈rs,0<=x:=by
     rw[nnB_iff,<-hrs,vO];unfold ER;exact⟨λh x hx=>by obtain⟨p,hp,rfl⟩:=nN.mp hx;exact h p hp,λh p hp=>h _ (nN.mpr ⟨p,hp,rfl⟩)⟩
    rw[<-nb]at key;cases e:NnB (szT many (ts.map Trm.ns)) (cfN (tl ts)) ends with
    | true=>exact mR λz=>key.mp z e
    | false=>exact mU (key.mpr (by rw[e];decide))
theorem xD{H H':Hp}(k:Kp H H'):∀{t:Tr} {v:V},DecV H v (trD t)->DecV H' v (trD t)
 | .all,v,h=>by
  cases tr_all h;exact .str _
 | .cut l a b,v,h=>by
  obtain⟨p,x,y,rfl,hp,hx,hy⟩:=BU h;exact .tup (k.tup _ _ hp) (.cons (.int _) (.cons (xD k hx) (.cons (xD k hy) .nil)))
theorem BT{H:Hp}{p:Addr}{x y:V}{l:Nat}{a b:Tr}(h:H p=some (.tup [.int (l:Int),x,y]))(hx:DecV H x (trD a))(hy:DecV H y (trD b)):DecV H (.ref p) (trD (.cut l a b)):=.tup h (.cons (.int _) (.cons hx (.cons hy .nil)))
def wI(n:Nat):Sp:=λvs H Q _=>∃(p b:Addr) (many k left:Nat) (ts:List Trm) (ends:List (Rat×Rat)),vs=[.ref p,.ref b,.int many,.int left]/\left<=n/\SumW H p many ts/\BoxW H b k ends/\k+left<=29/\ends.length=many/\
 ∀(v:V) (t:Tr) (H':Hp),Same H H'->DecV H' v (trD t)->t.ok many->t.dp<=left->t.sz+1<=2^(left+1)->Q v H'
def AZ(n:Nat):Sp:=λvs H Q _=>∃(tp:Addr) (v:V) (t:Tr) (many left:Nat) (B:Int),vs=[.ref tp,v,.int many,.int left]/\DecV H v (trD t)/\t.dp<=n/\n<=30/\n<left/\1<=many/\many<=3/\∃cl,Tape cl H tp B/\B+n<2^39/\
 ∀(v':V) (t':Tr) (H':Hp),Grow many t t'->DecV H' v' (trD t')->But tp H H'->Tape cl H' tp (B+n+1)->Q v' H'
def spDepth:Sp:=λvs H Q _=>∃(v:V) (t:Tr),vs=[v]/\DecV H v (trD t)/\t.dp<=40/\∀n:Int,Q (.int n) H
inductive DpI(H:Hp)(m:Nat):L2.St->Hp->Prop where
 | mk {v:V} {t:Tr} {d:Int} (h:DecV H v (trD t)) (dp:t.dp<=40) (e:m=t.dp):DpI H m [some v,some (.int d)] H
theorem scNe:FnScope ["whole","box","many","left","one","other","first"] ["whole","box","many","left"] (jQ zE):=⟨rfl,rfl,rfl,by decide +kernel,rfl,by decide +kernel,by decide +kernel⟩
theorem EX{fL fH:Addr}{fdL fdH:FuncData}(D:Df K mg "_law_needed" zE ["whole","box","many","left"] f fd)(DL:Df K mg "_law_least" AB ["whole","box"] fL fdL)(GL:FnOk P w K mg base CX0 7 fL fdL ["whole","box"] spLeast)(DH:Df K mg "_law_halves" zF ["box","letter"] fH fdH)(GH:FnOk P w K mg base CX0 2 fH fdH ["box","letter"] spHalves):∀n:Nat,FnOk P w K mg base CX0 (n+8) f fd ["whole","box","many","left"] (wI n)
 | 0=>by
  refine D.F.ok scNe (λvs H Q E h=>?_) (λcdv A outer s H vs Q E hr h=>?_)
  ·obtain⟨p,b,many,k,left,ts,ends,rfl,_⟩:=h
   rfl
  ·obtain⟨p,b,many,k,left,ts,ends,rfl,l0,S,B,kl,el,go⟩:=h;obtain rfl:left=0:=by omega
   have hr7:=hr.mono (show 7<=0+7 by omega);refine⟨_,jB (kN (PW.pt (wT (jU xR (pv 3) jD (jX _)) (yQ (jU JS (jT jV (jH GL hr7 rfl DL.m DL.F.kp DL.b .nil jR (jA (pv 0) (jA (pv 1) jC))) jD (λ_ _=>rfl)) jD (jX _))))) (jE (jS qK)) kA) vZ, ?_⟩;try dsimp only[cxK]
   refine⟨_,rfl,rfl,_,rfl, ?_⟩;rw[vS,mU (show((0:Nat):Int)=0 from rfl)];exact vG (vG (go _ .all H (Same.refl _) (.str _) trivial uO (by decide)))
 | n+1=>by
  have G:FnOk P w K mg base CX0 (n+8) f fd ["whole","box","many","left"] (wI n):=EX D DL GL DH GH n;refine D.F.ok scNe (λvs H Q E h=>?_) (λcdv A outer s H vs Q E hr h=>?_)
  ·obtain⟨p,b,many,k,left,ts,ends,rfl,_⟩:=h
   rfl
  ·obtain⟨p,b,many,k,left,ts,ends,rfl,l0,S,B,kl,el,go⟩:=h;have hr7:=hr.mono (show 7<=n+1+7 by omega);have hr2:=hr.mono (show 2<=n+1+7 by omega);refine⟨_,jB (kN (PW.pt (wT (jU xR (pv 3) jD (jX _)) (yQ (jU JS (jT jV (jH GL hr7 rfl DL.m DL.F.kp DL.b .nil jR (jA (pv 0) (jA (pv 1) jC))) jD (λ_ _=>rfl)) jD (jX _))))) (jE (jS qK)) kA) (jB (kU (jH GH hr2 rfl DH.m DH.F.kp DH.b .nil jR (jA (pv 1) (jA (jK vD (pv 3) (pv 2)) jC))) (kJ rfl (jI (jF (i:=4) scNe.nd rfl (Or.inl rfl)) (jI (jF (i:=5) scNe.nd rfl (Or.inl rfl)) kC)))) (jB (jN (i:=6) scNe.nd rfl (Or.inl rfl) (jH G hr rfl D.m D.F.kp D.b .nil jR (jA (pv 0) (jA (pv 4) (jA (pv 2) (jA (jK qL (pv 3) jD) jC)))))) (jE (jS (jW (jA (jK vD (pv 3) (pv 2)) (jA (pv 6) (jA (jH G hr rfl D.m D.F.kp D.b .nil jR (jA (pv 0) (jA (pv 5) (jA (pv 2) (jA (jK qL (pv 3) jD) jC))))) jC)))))))), ?_⟩;try dsimp only[cxK]
   refine⟨_,rfl,rfl,_,rfl, ?_⟩;rw[vS];by_cases c0:((left:Nat):Int)=0
   ·rw[mU c0];exact vG (vG (go _ .all H (Same.refl _) (.str _) trivial (nX _) (by have:=gJ (n:=2) (by decide) (show 1<=left+1 by omega);exact this)))
   rw[mR c0];refine kY ⟨_,rfl,_,rfl,p,b,many,k,ts,ends,rfl,S,B,by omega,el,λa r H1 s1 e1 nn=>?_⟩;refine⟨a,_,_,_,rfl,rfl,SqT.of e1,rfl,_,_,rfl,rfl,_,rfl, ?_⟩;cases hn:NnB (szT many (ts.map Trm.ns)) (cfN (tl ts)) ends with
   | true=>
    rw[hn]at nn;have:¬r.num<0:=of_decide_eq_false nn;rw[mU (show(0:Int)<=r.num by omega)];exact vG (go _ .all H1 s1 (.str _) trivial (nX _) (by have:=gJ (n:=2) (by decide) (show 1<=left+1 by omega);exact this))
   | false=>
    rw[hn]at nn;have:r.num<0:=mB nn;rw[mR (show ¬(0:Int)<=r.num by omega)];refine kY ?_;have m1:=S.m1;have m3:=S.m3;have S1:=S.kp (Kp.of s1);have B1:=B.same s1;have em:((left:Int)%(many:Int))=((left%many:Nat):Int):=by rw[Int.natCast_emod]
    have lm:left%many<many:=Nat.mod_lt _ m1;refine⟨_,rfl,_,rfl,_,rfl,_,_,rfl,rfl,(by show(0:Int)<many;omega),b,left%many,k,ends,by rw[<-em];rfl,B1,by omega,by omega,by omega,λq b1 b2 H2 n1 n2 n3 s2 e2 B21 B22=>?_⟩;refine gT2 (SqT.of e2) rfl ?_;have S2:=S1.kp (Kp.of s2);have sub:((left:Int)-1)=((left-1:Nat):Int):=by omega
    refine⟨_,rfl,_,rfl,_,rfl,_,rfl,_,_,rfl,rfl,p,b1,many,k+1,left-1,ts,_,by rw[<-sub];rfl,by omega,S2,B21,by omega,by rw[wZ,el],λv1 t1 H3 s3 d3 o3 p3 z3=>?_⟩;try dsimp only[jP]
    refine⟨_,rfl,_,rfl,_,_,rfl,rfl,(by show(0:Int)<many;omega),_,rfl,_,rfl,_,rfl,_,rfl,_,rfl,_,_,rfl,rfl,p,b2,many,k+1,left-1,ts,_,by rw[<-sub];rfl,by omega,S2.kp (Kp.of s3),B22.same s3,by omega,by rw[uE,el],λv2 t2 H4 s4 d4 o4 p4 z4=>⟨by show 3<=sizeLine;decide,λpp H5 n5 s5 e5=>?_⟩⟩;have s45:=s4.trans s5;have e5:H5 pp=some (.tup [.int ((left%many:Nat):Int),v1,v2]):=by rw[<-em];exact e5
    refine go _ (.cut (left%many) t1 t2) H5 (((s1.trans s2).trans s3).trans s45) (BT e5 (DecV.same s45 d3) (DecV.same s5 d4)) ⟨lm,o3,o4⟩ (by show max t1.dp t2.dp+1<=left;omega) ?_;show 1+t1.sz+t2.sz+1<=2^(left+1);rw[Nat.pow_succ];rw[show left-1+1=left by omega]at z3 z4;omega
theorem scGr:FnScope ["tape","tree","many","left","letter","one","other"] ["tape","tree","many","left"] (jQ AC):=⟨rfl,rfl,rfl,by decide +kernel,rfl,by decide +kernel,by decide +kernel⟩
theorem JV{fW:Addr}{fdW:FuncData}(D:Df K mg "_law_grown" AC ["tape","tree","many","left"] f fd)(DW:Df K mg "_law_draw" wQ ["tape","many"] fW fdW)(GW:FnOk P w K mg base CX0 1 fW fdW ["tape","many"] spDraw):∀n:Nat,FnOk P w K mg base CX0 (n+2) f fd ["tape","tree","many","left"] (AZ n)
 | 0=>by
  refine D.F.ok scGr (λvs H Q E h=>?_) (λcdv A outer s H vs Q E hr h=>?_)
  ·obtain⟨tp,v,t,many,left,B,rfl,_⟩:=h
   rfl
  ·obtain⟨tp,v,t,many,left,B,rfl,hv,dp,n30,nl,m1,m3,cl,T,hB,go⟩:=h;have hr1:=hr.mono (show 1<=0+1 by omega);refine⟨_,jB (kN (PW.pt (wT (jU (wB hr.units) (pv 1) qK (jX _)) (yQ (jU xR (pv 3) jD (jX _))))) (jE (jS (jW (jA (jH GW hr1 rfl DW.m DW.F.kp DW.b .nil jR (jA (pv 0) (jA (pv 2) jC))) (jA qK (jA qK jC)))))) kA) vZ, ?_⟩;try dsimp only[cxK]
   cases t with
   | cut l a b=>exact absurd dp (by show ¬(max a.dp b.dp+1<=0);omega)
   | all=>
    refine⟨_,rfl,_,_,hv,.str _,vK (t:=.all) (by decide),xJ,_,rfl, ?_⟩;rw[vV];refine vG (vG ⟨_,rfl,_,rfl,tp,many,B,rfl,cl,T,by omega,by omega,Int.lt_of_le_of_lt (show(many:Int)<=3 by omega) (by decide),λr H1 r0 r1 T1 b1=>⟨by show 3<=sizeLine;decide,λpp H2 n2 s2 e2=>?_⟩⟩);obtain⟨l,rfl⟩:=uX r0;exact go _ (.cut l .all .all) H2 (.all (by omega)) (BT e2 (.str _) (.str _)) (b1.trans (But.of s2)) (T1.mono s2 (by omega))
 | n+1=>by
  have G:FnOk P w K mg base CX0 (n+2) f fd ["tape","tree","many","left"] (AZ n):=JV D DW GW n;refine D.F.ok scGr (λvs H Q E h=>?_) (λcdv A outer s H vs Q E hr h=>?_)
  ·obtain⟨tp,v,t,many,left,B,rfl,_⟩:=h
   rfl
  ·obtain⟨tp,v,t,many,left,B,rfl,hv,dp,n30,nl,m1,m3,cl,T,hB,go⟩:=h;have hr1:=hr.mono (show 1<=n+1+1 by omega);refine⟨_,jB (kN (PW.pt (wT (jU (wB hr.units) (pv 1) qK (jX _)) (yQ (jU xR (pv 3) jD (jX _))))) (jE (jS (jW (jA (jH GW hr1 rfl DW.m DW.F.kp DW.b .nil jR (jA (pv 0) (jA (pv 2) jC))) (jA qK (jA qK jC)))))) kA) (jB (kU (pv 1) (kJ rfl (jI (jF (i:=4) scGr.nd rfl (Or.inl rfl)) (jI (jF (i:=5) scGr.nd rfl (Or.inl rfl)) (jI (jF (i:=6) scGr.nd rfl (Or.inl rfl)) kC))))) (jB (kN (jU xR (jH GW hr1 rfl DW.m DW.F.kp DW.b .nil jR (jA (pv 0) (jA jD jC))) jD (jX _)) (jE (jS (jW (jA (pv 4) (jA (jH G hr rfl D.m D.F.kp D.b .nil jR (jA (pv 0) (jA (pv 5) (jA (pv 2) (jA (jK qL (pv 3) jD) jC))))) (jA (pv 6) jC)))))) kA) (jE (jS (jW (jA (pv 4) (jA (pv 5) (jA (jH G hr rfl D.m D.F.kp D.b .nil jR (jA (pv 0) (jA (pv 6) (jA (pv 2) (jA (jK qL (pv 3) jD) jC))))) jC)))))))), ?_⟩;try dsimp only[cxK]
   cases t with
   | all=>
    refine⟨_,rfl,_,_,hv,.str _,vK (t:=.all) (by decide),xJ,_,rfl, ?_⟩;rw[vV];refine vG (vG ⟨_,rfl,_,rfl,tp,many,B,rfl,cl,T,by omega,by omega,Int.lt_of_le_of_lt (show(many:Int)<=3 by omega) (by decide),λr H1 r0 r1 T1 b1=>⟨by show 3<=sizeLine;decide,λpp H2 n2 s2 e2=>?_⟩⟩);obtain⟨l,rfl⟩:=uX r0;exact go _ (.cut l .all .all) H2 (.all (by omega)) (BT e2 (.str _) (.str _)) (b1.trans (But.of s2)) (T1.mono s2 (by omega))
   | cut l a b=>
    refine⟨_,rfl,_,_,hv,.str _,vK (t:=.cut l a b) (by omega),xJ,_,rfl, ?_⟩;rw[vV];refine kY ⟨_,rfl,rfl,_,rfl, ?_⟩;rw[vS,mR (show ¬((left:Nat):Int)=0 by omega)];refine kY ?_;obtain⟨p,x,y,rfl,hp,hx,hy⟩:=BU hv;have dp:max a.dp b.dp+1<=n+1:=dp;have sub:((left:Int)-1)=((left-1:Nat):Int):=by omega
    refine⟨_,rfl,gT3n (SqT.of hp) rfl ?_⟩;refine zW rfl T (by omega) (by decide) (by decide) λr H1 r0 r1 T1 b1=>⟨rfl,_,rfl, ?_⟩;have k1:=Kp.butT b1 T;have hx1:=xD k1 hx;have hy1:=xD k1 hy;rw[vS];by_cases c:r=0
    ·rw[mU c];refine vG ⟨_,rfl,_,rfl,_,rfl,_,rfl,_,rfl,_,_,rfl,rfl,tp,x,a,many,left-1,B+1,by rw[<-sub];rfl,hx1,by omega,by omega,by omega,m1,m3,cl,T1,by omega,λv' t' H2 g2 d2 b2 T2=>⟨_,rfl,by show 3<=sizeLine;decide,λpp H3 n3 s3 e3=>?_⟩⟩;have k2:=Kp.butT b2 T1;exact go _ (.cut l t' b) H3 (.left g2) (BT e3 (DecV.same s3 d2) (DecV.same s3 (xD k2 hy1))) ((b1.trans b2).trans (But.of s3)) (T2.mono s3 (by omega))
    ·rw[mR c];refine kY ⟨_,rfl,_,rfl,_,rfl,_,rfl,_,rfl,_,rfl,_,_,rfl,rfl,tp,y,b,many,left-1,B+1,by rw[<-sub];rfl,hy1,by omega,by omega,by omega,m1,m3,cl,T1,by omega,λv' t' H2 g2 d2 b2 T2=>⟨by show 3<=sizeLine;decide,λpp H3 n3 s3 e3=>?_⟩⟩;have k2:=Kp.butT b2 T1;exact go _ (.cut l a t') H3 (.right g2) (BT e3 (DecV.same s3 (xD k2 hx1)) (DecV.same s3 d2)) ((b1.trans b2).trans (But.of s3)) (T2.mono s3 (by omega))
theorem scDp:FnScope ["tree","deep"] ["tree"] (jQ HE):=⟨rfl,rfl,rfl,by decide +kernel,rfl,by decide +kernel,by decide +kernel⟩
theorem VP(F:Fun K "_law_depth" "_law_depth" HE f fd):FnOk P w K mg base CX0 1 f fd ["tree"] spDepth:=by
 refine F.ok scDp (λvs H Q E h=>?_) (λcdv A outer s H vs Q E hr h=>?_)
 ·obtain⟨v,t,rfl,_⟩:=h
  rfl
 ·obtain⟨v,t,rfl,hv,dp,go⟩:=h;have hu:=hr.units;refine⟨_,jB (jN (i:=1) scDp.nd rfl (Or.inl rfl) (jD)) (jB (yR PassesOwn.never (PW.pt (CF (jU (AI hu) (pv 0) qK (jX _)) (wU (jU zV (pv 1) jD (jX _))))) (jB (jN (i:=1) scDp.nd rfl (Or.inl rfl) (jK kW (pv 1) jD)) (jE (kN (jU (wB hu) (jT jV (pv 0) jD (λ_ _=>rfl)) qK (jX _)) (jE (jN (i:=0) scDp.nd rfl (Or.inl rfl) (jT jV (pv 0) jD (λ_ _=>rfl)))) (jE (jN (i:=0) scDp.nd rfl (Or.inl rfl) (jT jV (pv 0) jD (λ_ _=>rfl)))))))) (jE (jS (pv 1)))), ?_⟩;try dsimp only[cxK]
  refine⟨λm σ H'=>DpI H m σ H',⟨_,.mk hv dp rfl⟩, ?_⟩;rintro m σ H' h;cases h with
  | @mk v t d hv dp e=>
  refine⟨_,rfl,_,_,hv,.str _,vK dp,xJ,_,rfl, ?_⟩;rw[vV];cases t with
  | all=>exact kY (kY ⟨_,rfl,go _⟩)
  | cut l a b=>
   refine vG ⟨_,rfl,_,_,rfl,rfl,_,rfl, ?_⟩;by_cases c:d<50
   ·rw[mU c];refine vG ⟨fun σ H'=>∃m',m'<m/\DpI H m' σ H',fun σ' H' h=>h, ?_⟩;obtain⟨p,x,y,rfl,hp,hx,hy⟩:=BU hv;have dp:max a.dp b.dp+1<=40:=dp;have e:m=max a.dp b.dp+1:=e;refine⟨_,rfl,_,_,rfl,rfl, ?_⟩;try dsimp only[jP]
    refine rvT rfl (SqT.of hp) rfl ⟨_,_,hx,.str _,vK (by omega),xJ,_,rfl, ?_⟩;rw[vV];cases hl:a.leaf with
    | true=>exact vG (rvT rfl (SqT.of hp) rfl ⟨_,by omega,.mk (t:=b) hy (by omega) rfl⟩)
    | false=>exact kY (rvT rfl (SqT.of hp) rfl ⟨_,by omega,.mk (t:=a) hx (by omega) rfl⟩)
   ·rw[mR c];exact kY ⟨_,rfl,go _⟩
abbrev Bt:=List (Rat×Rat)×Tr
structure StI(H:Hp)(l:Addr)(many:Nat)(x:V)(y:Bt):Prop where
 ex:∃(q b:Addr) (v:V) (k:Nat),x=.ref q/\H q=some (.tup [.ref b,v])/\b≠l/\BoxW H b k y.1/\DecV H v (trD y.2)/\k+y.2.dp<=29
 el:y.1.length=many
 ok:y.2.ok many
theorem StI.same{H H':Hp}{l:Addr}{many:Nat}{x:V}{y:Bt}(h:StI H l many x y)(s:Same H H'):StI H' l many x y:=
 let ⟨q,b,v,k,e1,e2,e3,e4,e5,e6⟩:=h.ex
 ⟨⟨q,b,v,k,e1,s _ _ e2,e3,e4.same s,DecV.same s e5,e6⟩,h.el,h.ok⟩
theorem StI.put{H:Hp}{l:Addr}{many:Nat}{x:V}{y:Bt}{xs zs:List V}(h:StI H l many x y)(e:H l=some (.lst xs)):StI (upd H l (.lst zs)) l many x y:=by
 obtain⟨q,b,v,k,e1,e2,e3,⟨⟨bx,f1,f2⟩,f3⟩,e5,e6⟩:=h.ex;have kp:Kp H (upd H l (.lst zs)):=Kp.upd e trivial;exact⟨⟨q,b,v,k,e1,kp.tup _ _ e2,e3,⟨⟨bx,by rw[jM e3];exact f1,Paired.to (λ_ _ y=>y.kp kp) f2⟩,f3⟩,xD kp e5,e6⟩,h.el,h.ok⟩
def stD(y:Bt):PyData:=.tuple [enL y.1,trD y.2]
def EF(st:List Bt):Nat:=(st.map λy=>y.2.sz).sum
theorem xN(st:List Bt)(y:Bt):EF (st++[y])=EF st+y.2.sz:=by
 unfold EF;rw[mQ,List.sum_append];simp
theorem LZ{H:Hp}{l:Addr}{many:Nat} :∀{xs:List V} {st:List Bt},Paired (StI H l many) xs st->DecVs H xs (st.map stD)/\PyData.canLayAll0 (st.map stD)=true/\PyData.depthAll (st.map stD)<=50
 | _,_,.nil=>⟨.nil,by simp [PyData.canLayAll0],by simp [PyData.depthAll]⟩
 | _,_,.cons h t=>by
  obtain⟨q,b,v,k,rfl,e2,e3,⟨⟨bx,f1,f2⟩,f3⟩,e5,e6⟩:=h.ex;obtain⟨g1,g2,g3⟩:=LZ t;rename_i y st _;have okE:=HU II (by decide) y.1;have e1:=BL (λa=>(II a).2) y.1;have dt:=wH y.2;have e0:(enL y.1).depth<=22:=by
   unfold enL;simp [PyData.depth];omega
  have sd:(stD y).canLay0=true:=by
   unfold stD;have c:(enL y.1).canLay0=true:=okE.1;simp [PyData.canLay0,PyData.canLayAll0,c,wG]
  have sp:(stD y).depth<=40:=by
   unfold stD;simp [PyData.depth,PyData.depthAll];omega
  refine⟨.cons (.tup e2 (.cons (.lst f1 (IK f2)) (.cons e5 .nil))) g1, ?_, ?_⟩
  ·simp [PyData.canLayAll0,sd,g2]
  ·simp [PyData.depthAll];omega
theorem st_ok{H:Hp}{l:Addr}{many:Nat}{xs:List V}{st:List Bt}(h:Paired (StI H l many) xs st):DataOk (.list (st.map stD)):=by
 obtain⟨_,g2,g3⟩:=LZ h;refine⟨by simp [PyData.canLay0,g2], ?_⟩;simp [PyData.depth];omega
theorem nil_ok:DataOk (.list []):=⟨by simp [PyData.canLay0,PyData.canLayAll0],by simp [PyData.depth,PyData.depthAll]⟩
theorem st_nil(st:List Bt):PyData.eqv (.list (st.map stD)) (.list [])=st.isEmpty:=by
 cases st<;>simp [PyData.eqv,PyData.eqvAll]
theorem Paired.last{α β:Type}{F:α->β->Prop} :∀{l₁:List α} {l₂:List β},Paired F l₁ l₂->l₂.isEmpty=false->∃a x b y,l₁=a++[x]/\l₂=b++[y]/\Paired F a b/\F x y
 | _,_,.cons h .nil,_=>⟨[],_,[],_,rfl,rfl,.nil,h⟩
 | _,_,.cons h (.cons h' t),_=>by
  obtain⟨a,x,b,y,e1,e2,p,f⟩:=Paired.last (.cons h' t) rfl;rw[e1,e2];exact⟨_::a,x,_::b,y,rfl,rfl,.cons h p,f⟩
def YB(ns:List Nat)(T:List Nat->Rat)(st:List Bt):Bool:=st.all λy=>y.2.holds ns T y.1
theorem AQ(ns:List Nat)(T:List Nat->Rat)(st:List Bt)(y:Bt):YB ns T (st++[y])=(YB ns T st&&y.2.holds ns T y.1):=by
 unfold YB;rw[List.all_append];simp
inductive BoI(H:Hp)(p b l:Addr)(v:V)(many:Nat)(ns:List Nat)(T:List Nat->Rat)(goal:Bool)(m:Nat):L2.St->Hp->Prop where
 | mk {st:List Bt} {xs:List V} {u5 u6 u7 u8:Option V} {H':Hp} {n:Nat} (s:Same H H') (e:H' l=some (.lst xs)) (pr:Paired (StI H' l many) xs st) (tot:m=EF st) (tn:n+m<=2900) (h:goal=YB ns T st):BoI H p b l v many ns T goal m [some (.ref p),some (.ref b),some v,some (.ref l),some (.int (n:Int)),u5,u6,u7,u8] H'
def spBorne:Sp:=λvs H Q _=>∃(p b:Addr) (v:V) (many k:Nat) (ts:List Trm) (ends:List (Rat×Rat)) (t:Tr),vs=[.ref p,.ref b,v]/\SumW H p many ts/\BoxW H b k ends/\ends.length=many/\DecV H v (trD t)/\t.ok many/\k+t.dp<=29/\t.sz<=2900/\∀H',Same H H'->Q (.bl (t.holds (szT many (ts.map Trm.ns)) (cfN (tl ts)) ends)) H'
theorem scBo:FnScope ["whole","box","tree","left","turns","here","cuts","one","other"] ["whole","box","tree"] (jQ HF):=⟨rfl,rfl,rfl,by decide +kernel,rfl,by decide +kernel,by decide +kernel⟩
theorem VR{fL fH:Addr}{fdL fdH:FuncData}(F:Fun K "_law_borne" "_law_borne" HF f fd)(T:Txt mg)(DL:Df K mg "_law_least" AB ["whole","box"] fL fdL)(GL:FnOk P w K mg base CX0 7 fL fdL ["whole","box"] spLeast)(DH:Df K mg "_law_halves" zF ["box","letter"] fH fdH)(GH:FnOk P w K mg base CX0 2 fH fdH ["box","letter"] spHalves):FnOk P w K mg base CX0 8 f fd ["whole","box","tree"] spBorne:=by
 refine F.ok scBo (λvs H Q E h=>?_) (λcdv A outer s H vs Q E hr h=>?_)
 ·obtain⟨p,b,v,many,k,ts,ends,t,rfl,_⟩:=h
  rfl
 ·obtain⟨p,b,v,many,k,ts,ends,t,rfl,S,B,el,hv,ok,kd,sz,go⟩:=h;have hr2:=hr.mono (show 2<=7 by omega);have hu:=hr.units;refine⟨_,jB (jN (i:=3) scBo.nd rfl (Or.inl rfl) (qC (jA (jW (jA (qB yJ (by rfl) T.lst boot_list (jA (pv 1) jC)) (jA (pv 2) jC))) jC))) (jB (jN (i:=4) scBo.nd rfl (Or.inl rfl) (jD)) (jB (yR PassesOwn.never (jU (AI hu) (pv 3) (qC jC) (jX _)) (jB (jN (i:=4) scBo.nd rfl (Or.inl rfl) (jK kW (pv 4) jD)) (jB (kU (UY PySem.F.plainAttrs_list PySem.F.slot_list_pop PySem.F.type_list_pop mt_pop (pv 3)) (kJ rfl (jI (jF (i:=5) scBo.nd rfl (Or.inl rfl)) (jI (jF (i:=6) scBo.nd rfl (Or.inl rfl)) kC)))) (jE (kN (jU (wB hu) (pv 6) qK (jX _)) (jE (kN (jU zV (jT jV (jH GL hr rfl DL.m DL.F.kp DL.b .nil jR (jA (pv 0) (jA (pv 5) jC))) jD (λ_ _=>rfl)) jD (jX _)) (jE (jS AS)) kA)) (jE (kN (PW.pt (wT (jU OK (pv 4) jD (jX _)) (wT (MG (xK (AH IB T.isi T.tup boot_tuple (pv 6)))) (yQ (jU JR (qD qG (by rfl) T.len PySem.boot_len (jA (pv 6) jC)) jD (jX _)))))) (jE (jS AS)) (jB (kU (jH GH hr2 rfl DH.m DH.F.kp DH.b .nil jR (jA (pv 5) (jA (jT jV (pv 6) jD (λ_ _=>rfl)) jC))) (kJ rfl (jI (jF (i:=7) scBo.nd rfl (Or.inl rfl)) (jI (jF (i:=8) scBo.nd rfl (Or.inl rfl)) kC)))) (jB (qQ (wW PySem.F.plainAttrs_list PySem.F.slot_list_append PySem.F.type_list_append kR (pv 3) (jA (jW (jA (pv 7) (jA (jT jV (pv 6) jD (λ_ _=>rfl)) jC))) jC))) (jE (qQ (wW PySem.F.plainAttrs_list PySem.F.slot_list_append PySem.F.type_list_append kR (pv 3) (jA (jW (jA (pv 8) (jA (jT jV (pv 6) jD (λ_ _=>rfl)) jC))) jC))))))))))))) (jE (jS AS)))), ?_⟩
  try dsimp only[cxK]
  obtain⟨⟨bx,hb,hE⟩,hC⟩:=B;have z2:2<=sizeLine:=by decide
  have z1:1<=sizeLine:=by decide
  refine⟨_,rfl,b,bx,rfl,.inl (SqL.of hb),λc H1 n1 s1 e1=>⟨_,rfl,z2,λq H2 n2 s2 e2=>⟨z1,λl H3 n3 s3 e3=>?_⟩⟩⟩;have s03:=(s1.trans s2).trans s3;have cl:c≠l:=λz=>by rw[z]at e1;rw[s2 _ _ e1]at n3;cases n3
  have nl0:H l=none:=(s1.trans s2).free n3;try dsimp only[jP]
  generalize hg:t.holds (szT many (ts.map Trm.ns)) (cfN (tl ts)) ends=goal at go;refine⟨λm σ H'=>BoI H p b l v many (szT many (ts.map Trm.ns)) (cfN (tl ts)) goal m σ H',⟨_,BoI.mk (st:=[(ends,t)]) (n:=0) (u5:=none) (u6:=none) (u7:=none) (u8:=none) s03 e3 (.cons ⟨⟨q,c,v,k,rfl,s3 _ _ e2,cl,⟨⟨bx,(s2.trans s3) _ _ e1,Paired.to (λ_ _ y=>y.kp (Kp.of s03)) hE⟩,hC⟩,DecV.same s03 hv,kd⟩,el,ok⟩ .nil) rfl (by show 0+(t.sz+0)<=2900;omega) (by unfold YB;simp [hg])⟩, ?_⟩;clear e1 e2 e3 n1 n2 n3 s1 s2 s3 hE s03;rintro m σ H1 h;cases h with
  | @mk st xs u5 u6 u7 u8 _ n s1 e1 pr tot tn hgo=>
  have z0:0<=sizeLine:=nX _;refine⟨_,rfl,z0,λem H2 n2 s2 e2=>⟨.list (st.map stD),.list [],.lst (s2 _ _ e1) (DecVs.same s2 (LZ pr).1),.lst e2 .nil,st_ok pr,nil_ok,_,rfl, ?_⟩⟩;rw[st_nil];have s12:=s1.trans s2;cases hem:st.isEmpty with
  | true=>
   refine kY ?_;have:=go H2 s12;rw[hgo,List.isEmpty_iff.mp hem]at this;exact this
  | false=>
   refine vG ⟨fun σ' H'=>∃m',m'<m/\BoI H p b l v many (szT many (ts.map Trm.ns)) (cfN (tl ts)) goal m' σ' H',fun σ' H' h=>h, ?_⟩;obtain⟨xs',x,st',y,rfl,rfl,pr',sx⟩:=Paired.last pr hem;rw[xN]at tot;rw[AQ]at hgo;have e12:=s2 _ _ e1;have S2:=S.kp (Kp.of s12);refine⟨_,rfl,_,_,rfl,rfl, ?_⟩;try dsimp only[jP]
   refine⟨_,rfl,.inl ⟨rfl,_,SqL.of e12⟩,l,_,x,rfl,rfl,e12,by simp, ?_⟩;rw[List.dropLast_concat];have sx:=(sx.same s2).put (zs:=xs') e12;have pr3:=Paired.to (λ_ _ h=>StI.put (zs:=xs') (StI.same h s2) e12) pr';have S3:=S2.kp (Kp.upd (y:=.lst xs') e12 trivial);have s3:Same H (upd H2 l (.lst xs')):=jZ s12 nl0;have e3:(upd H2 l (.lst xs')) l=some (.lst xs'):=jG;generalize upd H2 l (.lst xs')=H3 at sx pr3 S3 s3 e3;clear pr pr' e12 e1 e2 n2 s2 s12 S2 s1;obtain⟨⟨q,c,u,k',rfl,g1,g2,g3,g4,g5⟩,yl,yo⟩:=sx;obtain⟨ye,yt⟩:=y;refine gT2 (SqT.of g1) rfl ?_;refine⟨_,rfl,_,_,g4,.str _,vK (by omega),xJ,_,rfl, ?_⟩;rw[vV];cases yt with
   | all=>
    refine vG ⟨_,rfl,_,rfl,p,c,many,k',ts,ye,rfl,S3,g3,by omega,yl,λa r H4 s4 e4 nn=>?_⟩;refine⟨a,_,_,_,rfl,rfl,SqT.of e4,rfl,_,_,rfl,rfl,_,rfl, ?_⟩;have hh:Tr.holds (szT many (ts.map Trm.ns)) (cfN (tl ts)) ye .all=NnB (szT many (ts.map Trm.ns)) (cfN (tl ts)) ye:=rfl;rw[hh]at hgo;cases hn:NnB (szT many (ts.map Trm.ns)) (cfN (tl ts)) ye with
    | false=>
     rw[hn]at nn hgo;rw[mU (mB nn)];refine vG ?_;have:=go H4 (s3.trans s4);rw[hgo,Bool.and_false]at this;exact this
    | true=>
     rw[hn]at nn hgo;rw[mR (of_decide_eq_false nn)];refine kY ⟨EF st',by have:((ye,Tr.all):Bt).2.sz=1:=rfl;omega,.mk (n:=n+1) (s3.trans s4) (s4 _ _ e3) (Paired.to (λ_ _ h=>StI.same h s4) pr3) rfl ?_ (by rw[hgo,Bool.and_true])⟩;have:((ye,Tr.all):Bt).2.sz=1:=rfl;omega
   | cut j a b'=>
    have sc:(Tr.cut j a b').sz=1+a.sz+b'.sz:=rfl;have dc:(Tr.cut j a b').dp=max a.dp b'.dp+1:=rfl;have sc':((ye,Tr.cut j a b'):Bt).2.sz=1+a.sz+b'.sz:=rfl;have g5:k'+(max a.dp b'.dp+1)<=29:=g5;obtain⟨o1,o2,o3⟩:=yo;obtain⟨pc,v1,v2,rfl,hp,hx,hy⟩:=BU g4;refine kY ⟨_,rfl,_,_,rfl,rfl,_,rfl, ?_⟩;rw[mR (show ¬((3000:Int)<(n:Int)+1) by omega)];refine kY ⟨_,rfl,rfl,.tup,.tup hp,_,rfl,kY ⟨_,rfl,pc,_,rfl,.inr (SqT.of hp),rfl,_,rfl,CT ?_ ?_⟩⟩
    ·rfl
    have yl:ye.length=many:=yl;have m3:=S.m3;refine⟨_,rfl,rvT rfl (SqT.of hp) rfl ⟨c,j,k',ye,rfl,g3,by omega,by omega,by omega,λq2 b1 b2 H4 n4 m1 m2 s4 e4 B1 B2=>?_⟩⟩;refine gT2 (SqT.of e4) rfl ?_;have l4:=s4 _ _ e3;have hp4:=s4 _ _ hp;have lx:xs'.length<10000:=by
     have:=Paired.length pr3;have:∀st:List Bt,st.length<=EF st:=λst=>by
      induction st with
      | nil=>exact nW _
      | cons y st ih=>
       have:1<=y.2.sz:=by cases y.2<;>simp [Tr.sz];omega
       show st.length+1<=y.2.sz+EF st;omega
     have:=this st';omega
    refine⟨_,rfl,.inl ⟨rfl,_,SqL.of l4⟩,_,rfl,rvT rfl (SqT.of hp4) rfl ⟨z2,λq3 H5 n5 s5 e5=>⟨l,_,_,rfl,rfl,s5 _ _ l4,by rw[sizeLine_eq];omega, ?_⟩⟩⟩;have l5:=s5 _ _ l4;have s45:=s4.trans s5;have nb1:b1≠l:=λz=>by rw[z,e3]at m1;cases m1
    have nb2:b2≠l:=λz=>by rw[z,e3]at m2;cases m2
    have i1:StI H5 l many (.ref q3) (loE ye j,a):=⟨⟨q3,b1,v1,k'+1,rfl,e5,nb1,B1.same s5,DecV.same s45 hx,by show k'+1+a.dp<=29;omega⟩,by rw[wZ];exact yl,o2⟩;have i1:=i1.put (zs:=xs'++[.ref q3]) l5;have pr5:=Paired.to (λ_ _ h=>StI.put (zs:=xs'++[.ref q3]) (StI.same h s45) l5) pr3;have kp:=Kp.upd (y:=.lst (xs'++[.ref q3])) l5 trivial;have hy6:=xD kp (DecV.same s45 hy);have hp6:=kp.tup _ _ (s5 _ _ hp4);have s6:Same H (upd H5 l (.lst (xs'++[.ref q3]))):=jZ (s3.trans s45) nl0;have e6:(upd H5 l (.lst (xs'++[.ref q3]))) l=some (.lst (xs'++[.ref q3])):=jG;have B26:BoxW (upd H5 l (.lst (xs'++[.ref q3]))) b2 (k'+1) (hiE ye j):=by
     obtain⟨⟨bx2,f1,f2⟩,f3⟩:=B2.same s5;exact⟨⟨bx2,by rw[jM nb2];exact f1,Paired.to (λ_ _ y=>y.kp kp) f2⟩,f3⟩
    generalize upd H5 l (.lst (xs'++[.ref q3]))=H6 at i1 pr5 hy6 hp6 s6 e6 B26;refine⟨_,rfl,.inl ⟨rfl,_,SqL.of e6⟩,_,rfl,rvT rfl (SqT.of hp6) rfl ⟨z2,λq4 H7 n7 s7 e7=>⟨l,_,_,rfl,rfl,s7 _ _ e6,by rw[gS,sizeLine_eq,gG];omega, ?_⟩⟩⟩;have l7:=s7 _ _ e6;have i2:StI H7 l many (.ref q4) (hiE ye j,b'):=⟨⟨q4,b2,v2,k'+1,rfl,e7,nb2,B26.same s7,DecV.same s7 hy6,by show k'+1+b'.dp<=29;omega⟩,by rw[uE];exact yl,o3⟩;have pr7:=Paired.to (λ_ _ h=>StI.put (zs:=xs'++[.ref q3]++[.ref q4]) h l7) (Paired.app (Paired.to (λ_ _ h=>StI.same h s7) (Paired.app pr5 (.cons i1 .nil))) (.cons i2 .nil));refine⟨EF (st'++[(loE ye j,a)]++[(hiE ye j,b')]), ?_,.mk (n:=n+1) (jZ (s6.trans s7) nl0) jG pr7 rfl ?_ ?_⟩
    ·rw[xN,xN];show EF st'+a.sz+b'.sz<m;omega
    ·rw[xN,xN];show n+1+(EF st'+a.sz+b'.sz)<=2900;omega
    ·rw[AQ,AQ,hgo,Bool.and_assoc]
     rfl
theorem QP{x:Rat}{t b:Int}{R:Nat}(hb:0<b)(h:x=fv t b)(k:Bd R x):t.natAbs<=R*b.natAbs:=by
 have c:=QL hb h;have c:x.num.natAbs*b.natAbs=t.natAbs*x.den:=by
  have:=congrArg Int.natAbs c;rw[mV,mV,gX]at this;exact this
 have xp:=x.den_pos;refine Nat.le_of_mul_le_mul_right (c:=x.den) ?_ xp;rw[<-c,Nat.mul_assoc,Nat.mul_comm b.natAbs,<-Nat.mul_assoc];exact gL _ k
theorem PX{l:List Rat}{x:Rat}{i:Nat}(h:i<l.length):(l++[x]).getD i 0=l.getD i 0:=by
 rw[uR,uV h,<-uR]
theorem KR{l:List Rat}{x:Rat}{i:Nat}(h:l.length=i):(l++[x]).getD i 0=x:=by
 subst h;rw[uR,List.getElem?_concat_length]
 rfl
structure GoodS(ends:List (Rat×Rat))(n:Nat)(ss:List Sp2):Prop where
 ls:ss.length=n
 b:SpB ss 200 8
 tt:∃tt:List Rat,tt.length=n/\∀i,i<n->(0<=tt.getD i 0/\tt.getD i 0<=1)/\(1-tt.getD i 0)*(ends.getD i (0,0)).1+tt.getD i 0*(ends.getD i (0,0)).2=(ss.map Sp2.v).getD i 0
theorem GoodS.nil(ends:List (Rat×Rat)):GoodS ends 0 []:=⟨rfl,⟨(λ_ h=>nomatch h),(λ_ h=>nomatch h),(λ_ h=>nomatch h)⟩,[],rfl,λi h=>absurd h (Nat.not_lt_zero _)⟩
theorem GoodS.snoc{ends:List (Rat×Rat)}{n:Nat}{ss:List Sp2}{e:Rat×Rat}{τ:Rat}{s:Sp2}(h:GoodS ends n ss)(he:ends[n]? = some e)(t0:0<=τ)(t1:τ<=1)(v:s.v=(1-τ)*e.1+τ*e.2)(p:0<s.b)(d:s.b.natAbs<=2^200)(m:s.t.natAbs<=2^8*s.b.natAbs):GoodS ends (n+1) (ss++[s]):=by
 obtain⟨tt,l,ht⟩:=h.tt;have ls:=h.ls;have ee:ends.getD n (0,0)=e:=by rw[uR,he];rfl
 have up:∀{Pp:Sp2->Prop},(∀s∈ss,Pp s)->Pp s->∀x∈ss++[s],Pp x:=λh1 h2 x hx=>by
  rcases mS.mp hx with hx | hx
  ·exact h1 x hx
  ·rw[gW.mp hx];exact h2
 refine⟨by rw[gS,ls];rfl,⟨up h.b.p p,up h.b.d d,up h.b.n m⟩,tt++[τ],by rw[gS,l];rfl,λi hi=>?_⟩;rw[mQ];by_cases c:i<n
 ·rw[PX (by omega),List.map_singleton,PX (by rw[mP];omega)];exact ht i c
 ·obtain rfl:i=n:=by omega
  rw[KR l,List.map_singleton,KR (by rw[mP,ls]),ee,v];exact⟨⟨t0,t1⟩,rfl⟩
theorem GoodS.inT{ends:List (Rat×Rat)}{ss:List Sp2}(h:GoodS ends ends.length ss):∃tt,InT ends tt (ss.map Sp2.v):=by
 obtain⟨tt,l,ht⟩:=h.tt;exact⟨tt,l,by rw[mP,h.ls],λi hi=>(ht i hi).1,λi hi=>(ht i hi).2⟩
def SpotB(tp fl:Addr)(H:Hp)(v:V)(ss:List Sp2):Prop:=∃(a:Addr) (ys:List V),v=.ref a/\a≠tp/\a≠fl/\H a=some (.lst ys)/\Paired (SpV H) ys ss
theorem SpotB.but{tp fl:Addr}{H H':Hp}{v:V}{ss:List Sp2}(h:SpotB tp fl H v ss)(b:But tp H H')(k:Kp H H'):SpotB tp fl H' v ss:=
 let ⟨a,ys,e1,e2,e3,e4,e5⟩:=h
 ⟨a,ys,e1,e2,e3,b _ _ e4 e2,Paired.to (λ_ _ y=>SpV.kp y k) e5⟩
theorem SpotB.put{tp fl:Addr}{H:Hp}{v:V}{ss:List Sp2}{xs zs:List V}(h:SpotB tp fl H v ss)(e:H fl=some (.lst xs)):SpotB tp fl (upd H fl (.lst zs)) v ss:=
 let ⟨a,ys,e1,e2,e3,e4,e5⟩:=h;have k:Kp H (upd H fl (.lst zs)):=Kp.upd e trivial
 ⟨a,ys,e1,e2,e3,by rw[jM e3];exact e4,Paired.to (λ_ _ y=>SpV.kp y k) e5⟩
def spSpots:Sp:=λvs H Q _=>∃(tp b:Addr) (B:Int) (k:Nat) (ends:List (Rat×Rat)),vs=[.ref tp,.ref b]/\BoxW H b k ends/\k<=30/\b≠tp/\ends.length<=4/\∃cl,Tape cl H tp B/\B<2^31/\
 ∀(l:Addr) (xs:List V) (Ss:List (List Sp2)) (H':Hp),H l=none->But tp H H'->Tape cl H' tp (B+16)->H' l=some (.lst xs)->Paired (SpotB tp l H') xs Ss->Ss.length=4->(∀ss∈Ss,GoodS ends ends.length ss)->Q (.ref l) H'
inductive SoI(H:Hp)(cl tp b fl:Addr)(B:Int)(ends:List (Rat×Rat))(i:Nat):L2.St->Hp->Prop where
 | mk {u3 u4 u5 u6 u7 u8:Option V} {H':Hp} {fx:List V} {Ss:List (List Sp2)} (bt:But tp H H') (T:Tape cl H' tp (B+4*i)) (e:H' fl=some (.lst fx)) (pr:Paired (SpotB tp fl H') fx Ss) (ln:Ss.length=i) (gd:∀ss∈Ss,GoodS ends ends.length ss):SoI H cl tp b fl B ends i [some (.ref tp),some (.ref b),some (.ref fl),u3,u4,u5,u6,u7,u8] H'
inductive SpJ(H:Hp)(cl tp b fl sp:Addr)(B:Int)(ends:List (Rat×Rat))(k:V)(i:Nat):L2.St->Hp->Prop where
 | mk {u5 u6 u7 u8:Option V} {H':Hp} {ys:List V} {ss:List Sp2} (bt:But tp H H') (T:Tape cl H' tp (B+i)) (e:H' sp=some (.lst ys)) (pr:Paired (SpV H') ys ss) (gd:GoodS ends i ss):SpJ H cl tp b fl sp B ends k i [some (.ref tp),some (.ref b),some (.ref fl),some k,some (.ref sp),u5,u6,u7,u8] H'
theorem OM(n:Nat)(i:Int):nic n (.int i)=true:=by cases n<;>rfl
theorem ML:∀(t:Tr) (n:Nat),t.dp<=n->nic n (trD t)=true
 | .all,0,_=>rfl
 | .all,n+1,_=>rfl
 | .cut l a b,0,h=>absurd h (by show ¬(max a.dp b.dp+1<=0);omega)
 | .cut l a b,n+1,h=>by
  have h:max a.dp b.dp+1<=n+1:=h;show(decide (3<=24)&&[PyData.int l,trD a,trD b].all (nic n))=true;simp [OM,ML a n (by omega),ML b n (by omega)]
theorem nic_fr(n:Nat)(r:Rat):nic (n+1) (frD r)=true:=by
 show(decide (2<=24)&&[PyData.int r.num,.int r.den].all (nic n))=true;simp [OM]
theorem nic_en(n:Nat)(e:Rat×Rat):nic (n+2) (enD e)=true:=by
 show(decide (2<=24)&&[frD e.1,frD e.2].all (nic (n+1)))=true;simp [nic_fr]
theorem nic_ens(n:Nat){es:List (Rat×Rat)}(h:es.length<=24):nic (n+3) (enL es)=true:=by
 show(decide ((es.map enD).length<=24)&&(es.map enD).all (nic (n+2)))=true;rw[mP,mU h,Bool.true_and,List.all_eq_true];intro d hd;obtain⟨e,_,rfl⟩:=nN.mp hd;exact nic_en n e
theorem nic_st{y:Bt}(h:y.1.length<=24)(d:y.2.dp<=24):nic 25 (stD y)=true:=by
 show(decide (2<=24)&&[enL y.1,trD y.2].all (nic 24))=true;have h1:=nic_ens 21 h;have h2:=ML y.2 24 d;simp [h1,h2]
theorem PR(H:Hp):hid [] H=H:=by
 funext a
 unfold hid;rw[tH (by simp)]
theorem stD_ok{y:Bt}(d:y.2.dp<=30):DataOk (stD y):=by
 have okE:=HU II (by decide) y.1;have e1:=BL (λa=>(II a).2) y.1;have dt:=wH y.2;have e0:(enL y.1).depth<=22:=by
  unfold enL;simp [PyData.depth];omega
 refine⟨?_, ?_⟩
 ·unfold stD;have c:(enL y.1).canLay0=true:=okE.1;simp [PyData.canLay0,PyData.canLayAll0,c,wG]
 ·unfold stD;simp [PyData.depth,PyData.depthAll];omega
def spTold:Sp:=λvs H Q _=>∃(p b:Addr) (v:V) (many k:Nat) (ts:List Trm) (ends:List (Rat×Rat)) (t:Tr),vs=[.ref p,.ref b,v]/\SumW H p many ts/\BoxW H b k ends/\ends.length=many/\DecV H v (trD t)/\t.ok many/\k<=5/\t.dp<=24/\t.sz<=2900/\∀H',Same H H'->Q (.bl (t.holds (szT many (ts.map Trm.ns)) (cfN (tl ts)) ends)) H'
theorem scSo:FnScope ["tape","box","found","k","spot","low","high","share","width"] ["tape","box"] (jQ HC):=⟨rfl,rfl,rfl,by decide +kernel,rfl,by decide +kernel,by decide +kernel⟩
theorem VF{fW fL fP fM:Addr}{fdW fdL fdP fdM:FuncData}(F:Fun K "_law_spots" "_law_spots" HC f fd)(T:Txt mg)(DW:Df K mg "_law_draw" wQ ["tape","many"] fW fdW)(GW:FnOk P w K mg base CX0 1 fW fdW ["tape","many"] spDraw)(DL:Df K mg "_law_low" EH ["top","bottom"] fL fdL)(GL:FnOk P w K mg base CX0 1 fL fdL ["top","bottom"] spLow)(DP:Df K mg "_law_plus" wN ["one","other"] fP fdP)(GP:FnOk P w K mg base CX0 1 fP fdP ["one","other"] spPlus)(DM:Df K mg "_law_mul" CC ["one","other"] fM fdM)(GM:FnOk P w K mg base CX0 1 fM fdM ["one","other"] (BV K)):FnOk P w K mg base CX0 2 f fd ["tape","box"] spSpots:=by
 refine F.ok scSo (λvs H Q E h=>?_) (λcdv A outer s H vs Q E hr h=>?_)
 ·obtain⟨tp,b,B,k,ends,rfl,_⟩:=h
  rfl
 ·obtain⟨tp,b,B,k,ends,rfl,⟨⟨bx,hb,hE⟩,hC⟩,k30,btp,e4,cl,hT,hB,go⟩:=h;refine⟨_,jB (jN (i:=2) scSo.nd rfl (Or.inl rfl) (qC jC)) (jB (kO PassesOwn.never rfl (kQ (by rfl) T.rng (jA jD jC)) (jF (i:=3) scSo.nd rfl (Or.inl rfl)) (jB (jN (i:=4) scSo.nd rfl (Or.inl rfl) (qC jC)) (jB (kO PassesOwn.never rfl (kZ (pv 1)) (kJ rfl (jI (jF (i:=5) scSo.nd rfl (Or.inl rfl)) (jI (jF (i:=6) scSo.nd rfl (Or.inl rfl)) kC))) (jB (jN (i:=7) scSo.nd rfl (Or.inl rfl) (jH GL hr rfl DL.m DL.F.kp DL.b .nil jR (jA (jH GW hr rfl DW.m DW.F.kp DW.b .nil jR (jA (pv 0) (jA jD jC))) (jA jD jC)))) (jB (jN (i:=8) scSo.nd rfl (Or.inl rfl) (jH GP hr rfl DP.m DP.F.kp DP.b .nil jR (jA (pv 6) (jA (jW (jA (jK qL jD (jT jV (pv 5) jD (λ_ _=>rfl))) (jA (jT jV (pv 5) jD (λ_ _=>rfl)) jC))) jC)))) (jE (qQ (wW PySem.F.plainAttrs_list PySem.F.slot_list_append PySem.F.type_list_append kR (pv 4) (jA (jH GP hr rfl DP.m DP.F.kp DP.b .nil jR (jA (pv 5) (jA (jH GM hr rfl DM.m DM.F.kp DM.b .nil jR (jA (pv 8) (jA (pv 7) jC))) jC))) jC))))))) (jE (qQ (wW PySem.F.plainAttrs_list PySem.F.slot_list_append PySem.F.type_list_append kR (pv 2) (jA (pv 4) jC))))))) (jE (jS (pv 2)))), ?_⟩
  try dsimp only[cxK]
  have p40:(2:Int)^31+100<2^40:=by decide
  have two:2<=sizeLine:=by decide
  have lbx:bx.length=ends.length:=Paired.length hE;refine⟨nX _,λfl H1 n1 s1 e1=>?_⟩;have of:=hT.off n1;try dsimp only[jP]
  refine⟨(4:Int),rfl,by omega,by omega, ?_⟩;refine qR (n:=4) (SoI H cl tp b fl B ends) (.mk (fx:=[]) (Ss:=[]) (But.of s1) (hT.mono s1 (by omega)) e1 .nil rfl (λ_ h=>nomatch h)) (λi σ H2 hi h=>?_) (fun σ H2 h=>?_)
  ·cases h with
   | @mk u3 u4 u5 u6 u7 u8 _ fx Ss bt T2 e2 pr2 ln gd=>
   try dsimp only[jP]
   refine⟨nX _,λsp H3 n3 s3 e3=>?_⟩;have os:=T2.off n3;have T3:=T2.mono s3 uP ;have k02:Kp H H2:=Kp.butT bt hT;have hb2:=bt _ _ hb btp;have hE2:=Paired.to (λ_ _ (y:EndH H _ _)=>y.kp k02) hE;try dsimp only[jP]
   refine⟨_,rfl,b,rfl,⟨bx,SqL.of (s3 _ _ hb2)⟩,qT (K:=K) (a:=b) (xs:=bx) (SpJ H2 cl tp b fl sp (B+4*i) ends (.int (0+(i:Int)))) (.mk (ys:=[]) (ss:=[]) (But.of s3) (by rw[show B+4*(i:Int)+((0:Nat):Int)=B+4*i by omega];exact T3) e3 .nil (GoodS.nil _)) (λj σ H4 _ h=>?_) (λj x σ H4 hx h=>?_) (fun σ H4 h=>?_)⟩
   ·cases h with
    | mk bt4 T4 e4 pr4 gd4=>exact SqL.of (bt4 _ _ hb2 btp)
   ·cases h with
    | @mk u5 u6 u7 u8 _ ys ss bt4 T4 e4' pr4 gd4=>
    have jl:j<bx.length:=(uU.mp hx).1;have k24:=Kp.butT bt4 T2;obtain⟨e,he,hh⟩:=Paired.at hE2 hx;obtain⟨r,a1,a2,rfl,g1,g2,g3⟩:=hh.ex;have eC:=hC e (gH he);obtain⟨_,z1,z2⟩:=eC.sz k30;have b1:((e.1.den:Int)).natAbs<2^60:=by rw[gX];exact z1.2
    have b2:((e.2.den:Int)).natAbs<2^60:=by rw[gX];exact z2.2
    have p1:=e.1.den_pos;have p2:=e.2.den_pos;refine gT2 (SqT.of (k24.tup _ _ g1)) rfl ?_;refine zW rfl T4 (by omega) (by decide) (by decide) λd H5 d0 d1 T5 b5=>⟨d,12,rfl,by decide,.inl (by exact gU (show(12:Int).natAbs<2^4 by decide) (gJ (by decide) (by decide))),λsh H6 n6 s6 e6=>?_⟩;have k45:=Kp.butT b5 T4;have e6:=wE (z:=fv d 12) e6 (by decide) rfl;try dsimp only[jP]
    have k26:=(k24.trans k45).trans (Kp.of s6);have h1:=k26.tup _ _ g2;have h2:=k26.tup _ _ g3;have dd:=zQ (x:=fv d 12) (t:=d) (b:=12) (by decide) rfl;have dl:=Int.le_of_dvd (by decide) dd.1;have d12:((fv d 12).den:Int).natAbs<2^4:=by rw[gX];omega
    have dn:(fv d 12).num.natAbs<2^4:=by have:=dd.2;omega
    have dpos:=(fv d 12).den_pos;have τ0:0<=fv d 12:=by
     unfold fv;rw[Rat.div_def];exact mY (Rat.intCast_nonneg.mpr d0) (by decide +kernel)
    have τ1:fv d 12<=1:=by
     have:(0:Rat)<=fv (12-d) 12:=by
      unfold fv;rw[Rat.div_def];exact mY (Rat.intCast_nonneg.mpr (by omega)) (by decide +kernel)
     have e:fv (12-d) 12=1-fv d 12:=by
      unfold fv;rw[Rat.intCast_sub];have:((12:Int):Rat)=12:=rfl
      grind
     grind
    refine⟨_,rfl,rvT rfl (SqT.of h1) rfl ⟨_,_,rfl,rfl,rvT rfl (SqT.of h1) rfl ⟨two,λq H7 n7 s7 e7=>?_⟩⟩⟩;refine⟨a2,q,e.2.num,e.2.den,0-e.1.num,e.1.den,rfl,s7 _ _ h2,e7,by omega,by omega,jJ z2.1 (by decide),jJ b2 (by decide),jJ (by rw[show(0-e.1.num).natAbs=e.1.num.natAbs by omega];exact z1.1) (by decide),jJ b1 (by decide),λwd T0 U0 H8 n8 s8 e8 pU lU eq=>?_⟩;have vw:fv T0 U0=e.2-e.1:=by
     rw[zN (by omega) (by omega) pU eq,qH];have:fv (0-e.1.num) e.1.den = - e.1:=by
      conv=>rhs;rw[<-qH e.1]
      unfold fv;rw[Rat.intCast_sub];have:((0:Int):Rat)=0:=rfl
      grind
     rw[this]
     grind
    have bU:U0.natAbs<2^120:=gR lU (by have:=kT b2 b1;rw[mV]at this;exact this);obtain⟨_,_,j1,j2,eCb⟩:∃_:Unit,∃_:Unit,Bd 16 e.1/\Bd 16 e.2/\True:=by
     obtain⟨_,_,h⟩:=eC;exact⟨(),(),h.b1,h.b2,trivial⟩
    have bw:Bd 32 (fv T0 U0):=by rw[vw];exact j2.sub j1
    have tw:=QP pU rfl bw;have s68:=s7.trans s8;try dsimp only[jP]
    have T8:=T5.mono (s6.trans s68) uP ;have sp5:=b5 _ _ e4' os.1;have sp8:=(s6.trans s68) _ _ sp5;refine⟨_,rfl,.inl ⟨rfl,_,SqL.of sp8⟩,_,rfl,_,rfl,_,rfl,wd,sh,T0,U0,(fv d 12).num,(fv d 12).den,rfl,SqT.of e8,SqT.of (s68 _ _ e6), ?_,jJ bU (by decide),jJ dn (by decide),jJ d12 (by decide),λpr H9 n9 s9 e9=>?_⟩
    ·have:T0.natAbs<2^(5+120):=by
      rw[tD];exact gR tw (Nat.mul_lt_mul_of_pos_left bU (by decide))
     exact jJ this (by decide)
    have bU2:=kT bU d12;have tp2:(T0*(fv d 12).num).natAbs<2^(125+4):=kT (by
      show T0.natAbs<2^(5+120);rw[tD];exact gR tw (Nat.mul_lt_mul_of_pos_left bU (by decide))) dn
    have pU2:0<U0*((fv d 12).den:Int):=nY pU (by omega);refine⟨a1,pr,e.1.num,e.1.den,_,_,rfl,(s68.trans s9) _ _ h1,e9,by omega,pU2,jJ z1.1 (by decide),jJ b1 (by decide),jJ tp2 (by decide),jJ bU2 (by decide),λnr T1 U1 Ha na sa ea pU1 lU1 eq1=>?_⟩;have vn:fv T1 U1=(1-fv d 12)*e.1+fv d 12*e.2:=by
     rw[zN (by omega) pU2 pU1 eq1,qH,IE pU (by omega),vw,qH]
     grind
    have bU1:U1.natAbs<=2^200:=by
     have:=kT b1 bU2;rw[mV]at this;exact Nat.le_of_lt (gR lU1 (gU this (gJ (by decide) (by decide))))
    have bd1:Bd 1 (fv d 12):=LO (t:=d) (b:=12) (by decide) rfl (by omega);have bn:Bd 48 (fv T1 U1):=by
     rw[show fv T1 U1=e.1+(fv T0 U0)*fv d 12 by rw[vn,vw];grind];exact j1.add (bw.mul bd1)
    have tn:=QP pU1 rfl bn;have s8a:=s9.trans sa;have spa:=s8a _ _ sp8;have ly:ys.length=j:=by rw[Paired.length pr4,gd4.ls]
    refine⟨sp,ys,.ref nr,rfl,rfl,spa,by rw[ly,sizeLine_eq];omega, ?_⟩;have s5a:=(s6.trans s68).trans s8a;have ku:Kp Ha (upd Ha sp (.lst (ys++[.ref nr]))):=Kp.upd spa trivial;have k4:Kp H4 (upd Ha sp (.lst (ys++[.ref nr]))):=(k45.trans (Kp.of s5a)).trans ku;refine .mk (ss:=ss++[(⟨T1,U1⟩:Sp2)]) (uK ((bt4.trans b5).trans (But.of s5a)) n3) ((T5.mono s5a uP).upd _ os.1 os.2 (by omega)) jG (Paired.app (Paired.to (λ_ _ h=>SpV.kp h k4) pr4) (.cons (show SpV _ _ (⟨T1,U1⟩:Sp2)from⟨nr,rfl,ku.tup _ _ ea⟩) .nil)) (gd4.snoc (s:=⟨T1,U1⟩) he τ0 τ1 vn pU1 bU1 (nK tn (gL _ (by decide))))
   ·cases h with
    | @mk u5 u6 u7 u8 _ ys ss bt4 T4 e4' pr4 gd4=>
    rw[lbx]at T4 gd4;have k24:=Kp.butT bt4 T2;have f4:=bt4 _ _ e2 of.1;have lf:fx.length=i:=by rw[Paired.length pr2,ln]
    refine⟨_,rfl,.inl ⟨rfl,_,SqL.of f4⟩,_,rfl,fl,fx,.ref sp,rfl,rfl,f4,by rw[lf,sizeLine_eq];omega, ?_⟩;have spf:sp≠fl:=λz=>by rw[z,e2]at n3;cases n3
    refine .mk (Ss:=Ss++[ss]) (uK (bt.trans bt4) n1) (T4.upd _ of.1 of.2 (by omega)) jG (Paired.app (Paired.to (λ_ _ h=>(SpotB.but h bt4 k24).put f4) pr2) (.cons (SpotB.put ⟨sp,ys,rfl,os.1,spf,e4',pr4⟩ f4) .nil)) (by rw[gS,ln];rfl) (λs hs=>?_);rcases mS.mp hs with h | h
    ·exact gd s h
    ·rw[gW.mp h];exact gd4
  ·cases h with
   | @mk u3 u4 u5 u6 u7 u8 _ fx Ss bt T2 e2 pr2 ln gd=>exact⟨_,rfl,go fl fx Ss H2 n1 bt (by rw[show B+16=B+4*((4:Nat):Int) by omega];exact T2) e2 pr2 ln gd⟩
theorem scTo:FnScope ["whole","box","tree","seen","found"] ["whole","box","tree"] (jQ NU):=⟨rfl,rfl,rfl,by decide +kernel,rfl,by decide +kernel,by decide +kernel⟩
theorem ZG{fC fB fO:Addr}{fdC fdB fdO:FuncData}(F:Fun K "_law_told" "_law_told" NU f fd)(T:Txt mg)(DC:Df K mg "_law_copied" zG ["thing"] fC fdC)(GC:FnOk P w K mg base CX0 26 fC fdC ["thing"] (IZ 25))(DB:Df K mg "bears_tree" CD ["one","box","tree"] fB fdB)(GB:FnOk P w K mg base CX0 30 fB fdB ["one","box","tree"] (GI K 24))(DO:Df K mg "_law_borne" HF ["whole","box","tree"] fO fdO)(GO:FnOk P w K mg base CX0 8 fO fdO ["whole","box","tree"] spBorne):FnOk P w K mg base CX0 31 f fd ["whole","box","tree"] spTold:=by
 refine F.ok scTo (λvs H Q E h=>?_) (λcdv A outer s H vs Q E hr h=>?_)
 ·obtain⟨p,b,v,many,k,ts,ends,t,rfl,_⟩:=h
  rfl
 ·obtain⟨p,b,v,many,k,ts,ends,t,rfl,S,B,el,hv,ok,k5,dp,sz,go⟩:=h;have hr26:=hr.mono (show 26<=30 by omega);have hr8:=hr.mono (show 8<=30 by omega);have hu:=hr.units;refine⟨_,jB (jN (i:=3) scTo.nd rfl (Or.inl rfl) (jH GC hr26 rfl DC.m DC.F.kp DC.b .nil jR (jA (jW (jA (pv 1) (jA (pv 2) jC))) jC))) (jB (jN (i:=4) scTo.nd rfl (Or.inl rfl) (jH GB hr rfl DB.m DB.F.kp DB.b .nil jR (jA (pv 0) (jA (pv 1) (jA (pv 2) jC))))) (jB (kN (PW.pt (wT (MG (xK (AH WS T.isi T.bool boot_bool (pv 4)))) (yQ (jU (AI hu) (jW (jA (pv 1) (jA (pv 2) jC))) (pv 3) (jX _))))) (jE (jS HM)) kA) (jB (kN (jU JR (pv 4) (jH GO hr8 rfl DO.m DO.F.kp DO.b .nil jR (jA (pv 0) (jA (pv 1) (jA (pv 2) jC)))) (jX _)) (jE (jS HM)) kA) (jE (jS (pv 4)))))), ?_⟩;try dsimp only[cxK]
  have two:2<=sizeLine:=by decide
  have m3:=S.m3;obtain⟨⟨bx,hb,hE⟩,hC⟩:=B;have dk:=stD_ok (y:=(ends,t)) (by show t.dp<=30;omega);refine⟨_,rfl,_,rfl,two,λq H1 n1 s1 e1=>?_⟩;have dec:∀{H':Hp} {q:Addr},Same H H'->H' q=some (.tup [.ref b,v])->DecV H' (.ref q) (stD (ends,t)):=λs' e'=>.tup e' (.cons (.lst (s' _ _ hb) (IK (Paired.to (λ_ _ y=>y.kp (Kp.of s')) hE))) (.cons (DecV.same s' hv) .nil));refine⟨_,_,[],rfl,(λa h=>nomatch h),by rw[PR];exact dec s1 e1,nic_st (by show ends.length<=24;omega) (by exact dp),λv2 H2 s2 d2=>?_⟩;rw[PR]at d2;try dsimp only[jP]
  have s02:=s1.trans s2;obtain⟨z,hP,zS,zv⟩:=S.ex;refine⟨_,rfl,_,rfl,_,rfl,p,b,v,many,z,ts,bx,ends,t,rfl,hP.kp (Kp.of s02),zS,zv,S.t63,SqL.of (s02 _ _ hb),λH' s'=>SqL.of ((s02.trans s') _ _ hb),Paired.to (λ_ _ h=>(h.kp (Kp.of s02)).toV) hE,λe he=>((hC e he).sz (by omega)).1,el,by omega,S.s200,S.s5,DecV.same s02 hv,ok,dp,by decide,λH3 s3=>?_⟩;have s03:=s02.trans s3;try dsimp only[jP]
  refine⟨_,rfl,rfl,.bl,.bl _,_,rfl,kY ⟨_,rfl,_,rfl,two,λq2 H4 n4 s4 e4=>⟨_,rfl,_,_,dec (s03.trans s4) e4,DecV.same (s3.trans s4) d2,dk,dk,_,rfl, ?_⟩⟩⟩;rw[SeqAt.eqv_refl _ dk.1];have s04:=s03.trans s4;refine kY ?_;refine⟨_,rfl,_,rfl,_,rfl,_,rfl,p,b,v,many,k,ts,ends,t,rfl,S.kp (Kp.of s04),⟨⟨bx,s04 _ _ hb,Paired.to (λ_ _ y=>y.kp (Kp.of s04)) hE⟩,hC⟩,el,DecV.same s04 hv,ok,by omega,sz,λH5 s5=>⟨rfl,_,rfl, ?_⟩⟩;rw[mU rfl];exact kY ⟨_,rfl,go H5 (s04.trans s5)⟩
def msT(many:Nat)(ks:List (List Int)):List Nat:=(List.range many).map λi=>mxK ks i
theorem msT_sz(many:Nat)(ks:List (List Int)):(msT many ks).map (· + 1)=szT many ks:=by
 unfold msT szT;rw[nP]
 rfl
def EK(many:Nat):Nat:=if many=1 then 4 else 2
theorem RG{many:Nat}{E:List Ent}(m1:1<=many)(m3:many<=3)(ky:KyB (EK many) E):(∀m∈msT many (E.map Ent.ns),m<=EK many)/\(∀m∈msT many (E.map Ent.ns),m<=4)/\(∀n∈szT many (E.map Ent.ns),n<=5)/\LwB.szP (szT many (E.map Ent.ns))<=27:=by
 have hm:∀m∈msT many (E.map Ent.ns),m<=EK many:=λm hm=>by
  unfold msT at hm;obtain⟨i,_,rfl⟩:=nN.mp hm;refine CP λa ha=>?_;obtain⟨e,he,rfl⟩:=nN.mp ha;by_cases c:i<e.ns.length
  ·have:=ky e he e.ns[i] (mM c);rw[uR,uW c];show(e.ns[i]).toNat<=_;omega
  ·rw[uR,gE (by omega)];exact nX _
 have m4:EK many<=4:=by unfold EK;split<;>omega
 have hn:∀n∈szT many (E.map Ent.ns),n<=EK many+1:=λn hn=>by
  rw[<-msT_sz]at hn;obtain⟨m,h,rfl⟩:=nN.mp hn;have:=hm m h;omega
 refine⟨hm,λm h=>nK (hm m h) m4,λn h=>by have:=hn n h;omega,nK (UC _ hn) ?_⟩;rw[vO];unfold EK;obtain rfl | rfl | rfl:many=1∨many=2∨many=3:=by omega
 all_goals decide
theorem orV{ta tb:TE}{σ:L2.St}{H:Hp}{Q:VK}(h1:∀R:VK,(∀c,R (.bl c) H)->ta σ H R)(h2:∀R:VK,(∀c,R (.bl c) H)->tb σ H R)(q:∀c,Q (.bl c) H):tOrV ta tb σ H Q:=h1 _ λc=>⟨c,rfl,by
 cases c with
 | true=>exact vG (q true)
 | false=>exact kY (h2 _ q)⟩
theorem fv_nn{T B:Int}(hB:0<B)(h:0<=fv T B):0<=T:=by
 have e:((T:Int):Rat)=fv T B*(B:Rat):=by
  unfold fv;have:=cne hB
  grind
 have z:(0:Rat)<=((T:Int):Rat):=by
  rw[e];exact mY h (Rat.intCast_nonneg.mpr (by omega))
 exact Rat.intCast_nonneg.mp z
structure F71(many:Nat)(ts:List Trm)(E:List Ent)(ends:List (Rat×Rat)):Prop where
 el:ends.length=many
 pm:(tl ts).Perm (pl E)
 m1:1<=many
 m3:many<=3
structure W71(many:Nat)(p d b:Addr)(ts:List Trm)(E:List Ent)(ends:List (Rat×Rat))(H:Hp):Prop where
 S:SumW H p many ts
 fq:FQ H d many ⟨6,42,208,26⟩ E
 B:BoxW H b 0 ends
theorem W71.same{many:Nat}{p d b:Addr}{ts:List Trm}{E:List Ent}{ends:List (Rat×Rat)}{H H':Hp}(h:W71 many p d b ts E ends H)(s:Same H H'):W71 many p d b ts E ends H':=⟨h.S.kp (Kp.of s),h.fq.kp (Kp.of s),h.B.same s⟩
theorem W71.kp{many:Nat}{p d b:Addr}{ts:List Trm}{E:List Ent}{ends:List (Rat×Rat)}{H H':Hp}(h:W71 many p d b ts E ends H)(k:Kp H H')(hb:∀xs,H b=some (.lst xs)->H' b=some (.lst xs)):W71 many p d b ts E ends H':=
 let ⟨bx,e1,e2⟩:=h.B.ex
 ⟨h.S.kp k,h.fq.kp k,⟨⟨bx,hb _ e1,Paired.to (λ_ _ y=>y.kp k) e2⟩,h.B.hC⟩⟩
abbrev TrsH(H:Hp)(xs:List V)(L:List Tr):Prop:=Paired (λv t=>DecV H v (trD t)) xs L
structure TrL(many:Nat)(L:List Tr)(g:Nat):Prop where
 l0:L[0]? = some .all
 ch:∀j x y,1<=j->L[j]? = some x->L[j+1]? = some y->Grow many x y
 ok:∀t∈L,t.ok many/\t.dp<=18+g/\t.sz<=100+2*g
 ll:L.length=2+g
theorem TrL.grow{many g:Nat}{L:List Tr}{t t':Tr}(h:TrL many (L++[t]) g)(gr:Grow many t t'):TrL many (L++[t]++[t']) (g+1):=by
 have ll:=h.ll;obtain⟨o1,o2,o3⟩:=h.ok t (gB _ (gW.mpr rfl));have l0:=h.l0;refine⟨by rw[uV (by omega)];exact l0,λj x y hj hx hy=>?_,λu hu=>?_,by rw[gS,ll];show 2+g+1=_;omega⟩
 ·by_cases c:j+1<(L++[t]).length
  ·rw[uV c]at hy;rw[uV (by omega)]at hx;exact h.ch j x y hj hx hy
  ·have jl:=(uU.mp hy).1;rw[gS,gG]at jl;have jj:j+1=(L++[t]).length:=by omega
   rw[jj,List.getElem?_concat_length]at hy;rw[uV (by omega)]at hx;have jL:j=L.length:=by
    rw[gS,gG]at jj;omega
   rw[jL,List.getElem?_concat_length]at hx;cases hx;cases hy;exact gr
 ·rcases mS.mp hu with h1 | h1
  ·obtain⟨a1,a2,a3⟩:=h.ok u h1;exact⟨a1,by omega,by omega⟩
  ·rw[gW.mp h1];have:=gr.dp;have:=gr.sz;exact⟨gr.ok o1,by omega,by omega⟩
def mo1(many:Nat):Nat:=if many=1 then 2 else 1
theorem SI{many:Nat}(m1:1<=many)(m3:many<=3):mo1 many<=4/\many*mo1 many<=6/\(many<3->mo1 many+mo1 many=EK many/\many*mo1 many+many*mo1 many<=6)/\(¬many<3->mo1 many<=EK many):=by
 obtain rfl | rfl | rfl:many=1∨many=2∨many=3:=by omega
 all_goals decide
theorem KyB.mono{M N:Nat}{E:List Ent}(h:KyB M E)(k:M<=N):KyB N E:=λe he n hn=>by have:=h e he n hn;omega
theorem YA{xs:List V}{x:V} :atI (xs++[x]) (-1)=some x:=by
 unfold atI ixN;have:(xs++[x]).length=xs.length+1:=by simp
 rw[tH (by decide),tI (by omega),show((-1:Int)+((xs++[x]).length:Int)).toNat=xs.length by omega];show(xs++[x])[xs.length]? = some x;exact List.getElem?_concat_length
structure Calls71(P:Program)(w:World)(K:tJ)(mg:Str->Option Value)(base:Heap)(fD fY fP fU fL fS fX fN fE fG fO fT fA:Addr)(fdD fdY fdP fdU fdL fdS fdX fdN fdE fdG fdO fdT fdA:FuncData):Prop where
 DD:Df K mg "_law_draw" wQ ["tape","many"] fD fdD
 GD:FnOk P w K mg base CX0 1 fD fdD ["tape","many"] spDraw
 DY:Df K mg "_law_many" NX ["tape","many","most"] fY fdY
 GY:FnOk P w K mg base CX0 3 fY fdY ["tape","many","most"] spMany
 DP:Df K mg "_law_product" NV ["one","other"] fP fdP
 GP:FnOk P w K mg base CX0 3 fP fdP ["one","other"] spProd
 DU:Df K mg "_law_put" RI ["found","powers","number"] fU fdU
 GU:FnOk P w K mg base CX0 2 fU fdU ["found","powers","number"] spPut
 DL:Df K mg "_law_low" EH ["top","bottom"] fL fdL
 GL:FnOk P w K mg base CX0 1 fL fdL ["top","bottom"] spLow
 DS:Df K mg "_law_sum" NY ["many","one"] fS fdS
 GS:FnOk P w K mg base CX0 2 fS fdS ["many","one"] spLSum
 DX:Df K mg "_law_box" YK ["tape","many"] fX fdX
 GX:FnOk P w K mg base CX0 3 fX fdX ["tape","many"] spBox
 DN:Df K mg "_law_needed" zE ["whole","box","many","left"] fN fdN
 GN:FnOk P w K mg base CX0 11 fN fdN ["whole","box","many","left"] (wI 3)
 DE:Df K mg "_law_depth" HE ["tree"] fE fdE
 GE:FnOk P w K mg base CX0 1 fE fdE ["tree"] spDepth
 DG:Df K mg "_law_grown" AC ["tape","tree","many","left"] fG fdG
 GG:FnOk P w K mg base CX0 26 fG fdG ["tape","tree","many","left"] (AZ 24)
 DO:Df K mg "_law_spots" HC ["tape","box"] fO fdO
 GO:FnOk P w K mg base CX0 2 fO fdO ["tape","box"] spSpots
 DT:Df K mg "_law_told" NU ["whole","box","tree"] fT fdT
 GT:FnOk P w K mg base CX0 31 fT fdT ["whole","box","tree"] spTold
 DA:Df K mg "_law_at" sAt ["one","spot"] fA fdA
 GA:FnOk P w K mg base CX0 2 fA fdA ["one","spot"] spAtL
inductive J1(a:Addr):L2.St->Hp->Prop where
 | mk {cl tp d:Addr} {many:Nat} {E:List Ent} {u3:Option V} {H:Hp} (m1:1<=many) (m3:many<=3) (T:Tape cl H tp 100) (e:H d=some (.dT (E.map Ent.kv))) (db:DB H many ⟨6,41,200,25⟩ E) (ky:KyB (EK many) E):J1 a [some (.ref a),some (.ref tp),some (.int (many:Int)),u3,some (.ref d),none,none,none,none,none,none,none,none,none] H
inductive J2(a:Addr)(B:Int):L2.St->Hp->Prop where
 | mk {cl tp p d b tr:Addr} {many:Nat} {ts:List Trm} {E:List Ent} {ends:List (Rat×Rat)} {v:V} {t:Tr} {u3 u8 u9:Option V} {H:Hp} (f:F71 many ts E ends) (w:W71 many p d b ts E ends H) (T:Tape cl H tp B) (bt:b≠tp) (br:b≠tr) (ot:tr≠tp/\tr≠cl) (e:H tr=some (.lst [.str "all",v])) (hv:DecV H v (trD t)) (ok:t.ok many) (dp:t.dp<=18) (sz:t.sz<=100):J2 a B [some (.ref a),some (.ref tp),some (.int (many:Int)),u3,some (.ref d),some (.ref p),some (.ref b),some (.ref tr),u8,u9,none,none,none,none] H
inductive DeI(H0:Hp)(a cl tp p d b tr:Addr)(u3:Option V)(many:Nat)(i:Nat):L2.St->Hp->Prop where
 | mk {v:V} {t:Tr} {u9:Option V} {H:Hp} (bt:But tp H0 H) (T:Tape cl H tp (201+i)) (hv:DecV H v (trD t)) (ok:t.ok many) (dp:t.dp=i) (sz:t.sz=2*i+1):DeI H0 a cl tp p d b tr u3 many i [some (.ref a),some (.ref tp),some (.int (many:Int)),u3,some (.ref d),some (.ref p),some (.ref b),some (.ref tr),some v,u9,none,none,none,none] H
inductive GwI(a cl tp p d b tr:Addr)(u3 u8:Option V)(many:Nat)(ts:List Trm)(E:List Ent)(ends:List (Rat×Rat))(i:Nat):L2.St->Hp->Prop where
 | mk {xs:List V} {L:List Tr} {u9:Option V} {H:Hp} (w:W71 many p d b ts E ends H) (T:Tape cl H tp (300+25*i)) (e:H tr=some (.lst xs)) (tr':TrsH H xs L) (tl':TrL many L i):GwI a cl tp p d b tr u3 u8 many ts E ends i [some (.ref a),some (.ref tp),some (.int (many:Int)),u3,some (.ref d),some (.ref p),some (.ref b),some (.ref tr),u8,u9,none,none,none,none] H
structure S71(tp sp:Addr)(ends:List (Rat×Rat))(ys:List V)(Ss:List (List Sp2))(H:Hp):Prop where
 e:H sp=some (.lst ys)
 pr:Paired (SpotB tp sp H) ys Ss
 l4:Ss.length=4
 gd:∀ss∈Ss,GoodS ends ends.length ss
theorem S71.same{tp sp:Addr}{ends:List (Rat×Rat)}{ys:List V}{Ss:List (List Sp2)}{H H':Hp}(h:S71 tp sp ends ys Ss H)(s:Same H H'):S71 tp sp ends ys Ss H':=⟨s _ _ h.e,Paired.to (λ_ _ y=>SpotB.but y (But.of s) (Kp.of s)) h.pr,h.l4,h.gd⟩
inductive J3(a:Addr):L2.St->Hp->Prop where
 | mk {tp p d b tr sp:Addr} {many g:Nat} {ts:List Trm} {E:List Ent} {ends:List (Rat×Rat)} {xs ys:List V} {L:List Tr} {Ss:List (List Sp2)} {u3 u8 u9:Option V} {H:Hp} (f:F71 many ts E ends) (w:W71 many p d b ts E ends H) (g2:g<=2) (e:H tr=some (.lst xs)) (tr':TrsH H xs L) (tl':TrL many L g) (s:S71 tp sp ends ys Ss H):J3 a [some (.ref a),some (.ref tp),some (.int (many:Int)),u3,some (.ref d),some (.ref p),some (.ref b),some (.ref tr),u8,u9,some (.ref sp),some .non,none,none] H
inductive TnI(H0:Hp)(a tp p d b tr sp:Addr)(many:Nat)(u3 u8 u9:Option V)(hs:Nat->Bool)(i:Nat):L2.St->Hp->Prop where
 | mk {u11 u12 u13:Option V} {H:Hp} (s:Same H0 H) (u:∀j,i=j+1->u11=some (.bl (hs j))):TnI H0 a tp p d b tr sp many u3 u8 u9 hs i [some (.ref a),some (.ref tp),some (.int (many:Int)),u3,some (.ref d),some (.ref p),some (.ref b),some (.ref tr),u8,u9,some (.ref sp),u11,u12,u13] H
structure SmI(H5:Hp)(q:Addr)(i:Nat)(ys:List V)(H:Hp):Prop where
 s:Same H5 H
 e:H q=some (.lst ys)
 ns:∃ns:List Int,ys=ns.map V.int/\(∀n∈ns,0<=n)/\ns.length=i
theorem scLw:FnScope ["script","tape","many","line","one","whole","box","trees","deep","k","spots","before","tree","found"] ["script"] (jQ MC):=⟨rfl,rfl,rfl,by decide +kernel,rfl,by decide +kernel,by decide +kernel⟩
theorem ok_law{fD fY fP fU fL fS fX fN fE fG fO fT fA:Addr}{fdD fdY fdP fdU fdL fdS fdX fdN fdE fdG fdO fdT fdA:FuncData}(F:Fun K "law" "law" MC f fd)(T:Txt mg)(CL:Calls71 P w K mg base fD fY fP fU fL fS fX fN fE fG fO fT fA fdD fdY fdP fdU fdL fdS fdX fdN fdE fdG fdO fdT fdA):FnOk P w K mg base CX0 32 f fd ["script"] (NQ K):=by
 refine F.ok scLw (λvs H Q E h=>?_) (λcdv A outer s H vs Q E hr h=>?_)
 ·obtain⟨a,ns,rfl,_⟩:=h
  rfl
 ·obtain⟨a,ns,rfl,hS,h63,go⟩:=h;have hr1:Room 1 _:=hr.mono (by decide);have hr2:Room 2 _:=hr.mono (by decide);have hr3:Room 3 _:=hr.mono (by decide);have hr11:Room 11 _:=hr.mono (by decide);have hr26:Room 26 _:=hr.mono (by decide);have hu:_+64<cLine:=hr.units;refine⟨_,jB (jN (i:=1) scLw.nd rfl (Or.inl rfl) (qC (jA (qB yJ (by rfl) T.lst boot_list (jA (vR vQ (pv 0) xE (vW jD)) jC)) (jA jD (jA jD (jA jD jC)))))) (jB (jN (i:=2) scLw.nd rfl (Or.inl rfl) (jK kW jD (jH CL.GD hr1 rfl CL.DD.m CL.DD.F.kp CL.DD.b .nil jR (jA (pv 1) (jA jD jC))))) (jB (jN (i:=3) scLw.nd rfl (Or.inl rfl) (jH CL.GY hr3 rfl CL.DY.m CL.DY.F.kp CL.DY.b .nil jR (jA (pv 1) (jA (pv 2) (jA (jK kW jD (qB FK (by rfl) T.int boot_int (jA (zJ xR (pv 2) jD (jX _)) jC))) jC))))) (jB (jN (i:=4) scLw.nd rfl (Or.inr rfl) (pv 3)) (jB (kN (jU zV (pv 2) jD (jX _)) (jE (jN (i:=4) scLw.nd rfl (Or.inr rfl) (jH CL.GP hr3 rfl CL.DP.m CL.DP.F.kp CL.DP.b .nil jR (jA (LwD.MJ (pv 3)) (jA (pv 3) jC))))) kA) (jB (qQ (jH CL.GU hr2 rfl CL.DU.m CL.DU.F.kp CL.DU.b .nil jR (jA (pv 4) (jA (jK LwD.ZC (jW (jA jD jC)) (pv 2)) (jA (jH CL.GL hr1 rfl CL.DL.m CL.DL.F.kp CL.DL.b .nil jR (jA (jK qL (jH CL.GD hr1 rfl CL.DD.m CL.DD.F.kp CL.DD.b .nil jR (jA (pv 1) (jA jD jC))) jD) (jA jD jC))) jC))))) (jB (jN (i:=5) scLw.nd rfl (Or.inl rfl) (jH CL.GS hr2 rfl CL.DS.m CL.DS.F.kp CL.DS.b .nil jR (jA (pv 2) (jA (LwD.MJ (pv 4)) jC)))) (jB (jN (i:=6) scLw.nd rfl (Or.inl rfl) (jH CL.GX hr3 rfl CL.DX.m CL.DX.F.kp CL.DX.b .nil jR (jA (pv 1) (jA (pv 2) jC)))) (jB (jN (i:=7) scLw.nd rfl (Or.inl rfl) (qC (jA qK (jA (jH CL.GN hr11 rfl CL.DN.m CL.DN.F.kp CL.DN.b .nil jR (jA (pv 5) (jA (pv 6) (jA (pv 2) (jA jD jC))))) jC)))) (jB (kN (PW.pt (CF (jU xR (pv 2) jD (jX _)) (wU (jU xR (jH CL.GD hr1 rfl CL.DD.m CL.DD.F.kp CL.DD.b .nil jR (jA (pv 1) (jA jD jC))) jD (jX _))))) (jB (jN (i:=8) scLw.nd rfl (Or.inl rfl) (qK)) (jB (kO PassesOwn.never rfl (kQ (by rfl) T.rng (jA jD jC)) (jF (i:=9) scLw.nd rfl (Or.inl rfl)) (jE (jN (i:=8) scLw.nd rfl (Or.inl rfl) (jT kK (qC (jA (jW (jA jD (jA (pv 8) (jA qK jC)))) (jA (jW (jA jD (jA qK (jA (pv 8) jC)))) jC))) (jH CL.GD hr1 rfl CL.DD.m CL.DD.F.kp CL.DD.b .nil jR (jA (pv 1) (jA jD jC))) (λ_ _=>rfl))))) (jE (kU (pv 8) (xY (pv 7) jD vC))))) kA) (jB (kO PassesOwn.never rfl (kQ (by rfl) T.rng (jA (jK kH jD (qB FK (by rfl) T.int boot_int (jA (pe_or (zJ (wB hu) (jT kK (pv 7) jD (λ_ _=>rfl)) qK (jX _)) (UW (zJ zV (jH CL.GE hr1 rfl CL.DE.m CL.DE.F.kp CL.DE.b .nil jR (jA (jT kK (pv 7) jD (λ_ _=>rfl)) jC)) jD (jX _)))) jC))) jC)) (jF (i:=9) scLw.nd rfl (Or.inl rfl)) (jE (qQ (wW PySem.F.plainAttrs_list PySem.F.slot_list_append PySem.F.type_list_append kR (pv 7) (jA (jH CL.GG hr26 rfl CL.DG.m CL.DG.F.kp CL.DG.b .nil jR (jA (pv 1) (jA (jT kK (pv 7) (JM BR jD) (λ_ _=>rfl)) (jA (pv 2) (jA jD jC))))) jC))))) (jB (jN (i:=10) scLw.nd rfl (Or.inl rfl) (jH CL.GO hr2 rfl CL.DO.m CL.DO.F.kp CL.DO.b .nil jR (jA (pv 1) (jA (pv 6) jC)))) (jB (jN (i:=11) scLw.nd rfl (Or.inl rfl) (HM)) (jB (kO PassesOwn.never rfl (kZ (pv 7)) (jF (i:=12) scLw.nd rfl (Or.inl rfl)) (jB (jN (i:=13) scLw.nd rfl (Or.inl rfl) (jH CL.GT hr rfl CL.DT.m CL.DT.F.kp CL.DT.b .nil jR (jA (pv 5) (jA (pv 6) (jA (pv 12) jC))))) (jB (kN (MH (VA (pv 13))) (jE (jS AS)) kA) (jB (kN (PW.pt (CF (xK (pv 13)) (wU (jU zV (qD (AO rfl) (by rfl) T.min EB (jA (kX (own:=1) (idx:=[4]) (N:=["spot","one"]) rfl rfl rfl (by decide +kernel) (by decide +kernel) (qW (by intro y hy;simp only[nF,mJ,or_false]at hy;rcases hy with rfl;rfl)) (qJ rfl) rfl (qU rfl ⟨rfl,rfl,rfl,rfl⟩) (kZ (pv 10)) (λC fp s2 H2=>(jF (i:=0) (show List.Nodup (["spot","one"]:List Str) by decide +kernel) rfl (Or.inl rfl) (Or.inr rfl))) (λC fp s2 H2=>jT (show IxR (jO _ ["spot","one"] _ _ C fp s2 H2) (UP K)from jV) (jH CL.GA hr2 rfl CL.DA.m CL.DA.F.kp CL.DA.b .nil jR (jA (pv 1) (jA (pv 0) jC))) jD (λ_ _=>rfl))) jC)) jD (jX _))))) (jE (jS AS)) kA) (jB (kN (PW.pt (CF (jU (AI hu) (pv 12) (jT kK (pv 7) jD (λ_ _=>rfl)) (jX _)) (wU (jU (AI hu) (pv 12) (jT kK (pv 7) jD (λ_ _=>rfl)) (jX _))))) (jE (kN (PW.pt (CF (xK (pv 11)) (wU (MG (xK (pv 13)))))) (jE (jS AS)) kA)) kA) (jE (jN (i:=11) scLw.nd rfl (Or.inl rfl) (pv 13)))))))) (jE (jS AS))))))))))))))), ?_⟩
  try dsimp only[cxK]
  have two:2<=sizeLine:=by decide
  have three:3<=sizeLine:=by decide
  refine UK (J1 a) (λTT hTT=>?_) ?_
  ·obtain⟨cs0,em,hm⟩:=cut63 ns;refine⟨_,rfl,_,rfl,a,_,rfl,hS,λp1 H1 n1 s1 e1=>?_⟩;refine⟨p1,_,rfl,.inl (SqL.of e1),λcl H2 n2 s2 e2=>⟨(by show 4<=sizeLine;decide),λtp H3 n3 s3 e3=>?_⟩⟩;have T3:Tape cl H3 tp 0:=⟨cs0,0,0,0,e3,by rw[s3 _ _ e2,em],hm,by decide,by decide⟩;try dsimp only[jP]
   refine zW rfl T3 (by decide) (by decide) (by decide) λr H4 r0 r1 T4 b4=>⟨_,_,rfl,rfl, ?_⟩;obtain⟨many,hmany,m1,m3⟩:∃many:Nat,1+r=(many:Int)/\1<=many/\many<=3:=⟨(1+r).toNat,by omega,by omega,by omega⟩;dsimp only[jP];rw[hmany];obtain⟨f1,f2,f3,f4⟩:=SI m1 m3;refine⟨_,rfl,_,rfl,_,rfl,rfl,.inr ⟨_,rfl,_,_,rfl,rfl, ?_⟩⟩;have emo:(1+(if decide (V.int (many:Int)=V.int 1)then 1 else 0):Int)=(mo1 many:Int):=by
    rw[vS];unfold mo1;by_cases c:many=1
    ·subst c;rfl
    ·rw[mR (by omega),tH c];rfl
   refine⟨tp,many,mo1 many,1,by rw[<-emo];rfl,m1,m3,f1,f2,cl,T4,by decide,λd H5E H5 n5 b5 T5 e5 db5 ky5=>?_⟩;try dsimp only[jP]
   refine⟨_,rfl, ?_⟩;try dsimp only[jP]
   refine⟨_,rfl,_,_,rfl,rfl,_,rfl,AV (λhlt=>?_) (λhge=>?_)⟩
   ·have lt:many<3:=by have:=mB hlt;omega
    obtain⟨g1,g2⟩:=f3 lt;refine⟨_,rfl,d,_,rfl,e5,λo5=>?_⟩;have dt:=T5.ne e5 (λ_ z=>by cases z);have T6:Tape cl (upd H5 d (.frz o5 (.dT (H5E.map Ent.kv)))) tp 41:=T5.upd _ dt.1 dt.2 (by decide);have fq6:FQ (upd H5 d (.frz o5 (.dT (H5E.map Ent.kv)))) d many ⟨many*mo1 many,8,20,5⟩ H5E:=⟨⟨o5,jG⟩,db5.kp (Kp.upd e5 trivial)⟩;generalize upd H5 d (.frz o5 (.dT (H5E.map Ent.kv)))=H6 at T6 fq6;refine⟨_,rfl,d,d,many,mo1 many,_,_,H5E,H5E,rfl,fq6,fq6,by omega,by show 5<=5;decide,by show 5<=5;decide,by show 20<=20;decide,by show 20<=20;decide,by show 8<=8;decide,by show 8<=8;decide,ky5,ky5,λd3 E3 H7 n7 s7 e7 db7 ky7=>?_⟩;exact hTT _ _ (.mk m1 m3 (T6.mono s7 (by decide)) e7 (db7.up (by show many*mo1 many+many*mo1 many<=6;omega) (by show 41<=41;decide) (by show 200<=200;decide) (by show 25<=25;decide)) (by rw[<-g1];exact ky7))
   ·have ge:¬many<3:=λz=>hge (mU (by omega));exact hTT _ _ (.mk m1 m3 (T5.mono (Same.refl _) (by decide)) e5 (db5.up f2 (by show 8<=41;decide) (by show 20<=200;decide) (by show 5<=25;decide)) (ky5.mono (f4 ge)))
  intro σ1 H1 h1;refine JC (J2 a 200) (λTT hTT=>?_) ?_
  ·cases h1 with
   | @mk cl tp d many E u3 _ m1 m3 T1 e1 db1 ky1=>
   have dt:=T1.ne e1 (λ_ z=>by cases z);refine⟨_,rfl,by show 1<=sizeLine;decide,λq H2 n2 s2 e2=>⟨_,rfl,q,many,_,rfl,rfl,e2,m1,by omega,λz H3 s3 e3=>?_⟩⟩;have s13:=s2.trans s3;have T3:=T1.mono s13 uP ;refine zW rfl T3 (by decide) (by decide) (by decide) λr H4 r0 r1 T4 b4=>⟨_,_,rfl,rfl,r-2,4,rfl,by decide,.inl (by exact gU (show(4:Int).natAbs<2^4 by decide) (gJ (by decide) (by decide))),λnr H5 n5 s5 e5=>?_⟩;have e5:=wE (z:=fv (r-2) 4) e5 (by decide) rfl;have dd:=zQ (x:=fv (r-2) 4) (t:=r-2) (b:=4) (by decide) rfl;have dl:=Int.le_of_dvd (by decide) dd.1;have dpos:=(fv (r-2) 4).den_pos;have dn:(fv (r-2) 4).num.natAbs<=8:=by have:=dd.2;omega
   have k14:Kp H1 H4:=(Kp.of s13).trans (Kp.butT b4 T3);have k15:=k14.trans (Kp.of s5);have d5:H5 d=some (.dT (E.map Ent.kv)):=s5 _ _ (b4 _ _ (s13 _ _ e1) dt.1);have z5:H5 z=some (.tup ((List.replicate many (0:Int)).map V.int)):=by
    rw[List.map_replicate];exact s5 _ _ ((Kp.butT b4 T3).tup _ _ e3)
   have zn:∀n∈List.replicate many (0:Int),n=0:=λn hn=>(List.mem_replicate.mp hn).2;have T5:=T4.mono s5 uP ;refine⟨d,z,nr,List.replicate many 0,(fv (r-2) 4).num,(fv (r-2) 4).den,many,8,⟨6,41,200,25⟩,E,λ_=>200,rfl,d5,db1.kp k15,(db1.kp k15).kb,by show 200<=40000;decide,by decide,by decide,by decide,z5,gC,λn hn=>by rw[zn n hn];decide, ?_,e5,by omega,by rw[gX];show _<=2^8;omega, ?_,λE' H6 b6 e6 db6 kb6 cf6=>?_⟩
   ·have z0:(List.replicate many (0:Int)).sum=0:=by
     obtain rfl | rfl | rfl:many=1∨many=2∨many=3:=by omega
     all_goals rfl
    rw[z0];show(0:Int)<=((6:Nat):Int)
    decide
   ·rw[gX];show _<=2^41*_;omega
   have ky6:=ky1.put db6 cf6 (λn hn=>by rw[zn n hn];omega);have T6:=T5.aside b6 dt.1 dt.2;try dsimp only[jP]
   refine⟨_,rfl,_,rfl,d,_,rfl,e6,λo6=>?_⟩;have T7:Tape cl (upd H6 d (.frz o6 (.dT (E'.map Ent.kv)))) tp 101:=T6.upd _ dt.1 dt.2 (by decide);have fq7:FQ (upd H6 d (.frz o6 (.dT (E'.map Ent.kv)))) d many ⟨6,42,208,26⟩ E':=⟨⟨o6,jG⟩,db6.kp (Kp.upd e6 trivial)⟩;generalize upd H6 d (.frz o6 (.dT (E'.map Ent.kv)))=H7 at T7 fq7;refine⟨d,many,_,E',rfl,fq7.rd,fq7.db,m1,by decide,by decide,λp ts H8 n8 s8 P8 pm8=>?_⟩;obtain⟨sf1,sf2,sf3,sf4⟩:=RG m1 m3 ky6;have kt:szT many (ts.map Trm.ns)=szT many (E'.map Ent.ns):=by rw[PJ,PL];exact IV pm8
   have S8:SumW H8 p many ts:=⟨⟨_,P8,by decide,by decide⟩,nK P8.few (by decide),m1,m3,by rw[kt];omega,by rw[kt];exact sf3⟩;have T8:=T7.mono s8 uP ;try dsimp only[jP]
   refine⟨_,rfl,_,rfl,tp,many,101,rfl,m3,cl,T8,by decide,λb bx ends H9 n9 b9 T9 e9 p9 c9 l9=>?_⟩;have ob:=T8.off n9;have k89:=Kp.butT b9 T8;have B9:BoxW H9 b 0 ends:=⟨⟨bx,e9,p9⟩,λe he=>⟨0,nW _,c9 e he⟩⟩;have S9:=S8.kp k89;have fq9:=(fq7.kp (Kp.of s8)).kp k89;try dsimp only[jP]
   refine⟨_,rfl,_,rfl,_,rfl,p,b,many,0,3,ts,ends,rfl,by decide,S9,B9,by decide,l9,λv t HA sA dA oA pA zA=>⟨two,λtr HB nB sB eB=>?_⟩⟩;have TA:=T9.mono sA uP ;have ot:=TA.off nB;have W9:W71 many p d b ts E' ends H9:=⟨S9,fq9,B9⟩;have WB:=W9.same (sA.trans sB);have br:b≠tr:=λz=>by rw[<-z,sA _ _ e9]at nB;cases nB
   have p16:(2:Nat)^(3+1)=16:=by decide
   exact hTT _ _ (.mk ⟨l9,pm8,m1,m3⟩ WB (TA.mono sB (by decide)) ob.1 br ot eB (DecV.same sB dA) oA (by omega) (by omega))
  clear h1;intro σ2 H2 h2;refine JC (J3 a) (λTT hTT=>?_) ?_
  ·refine wM (t:=RF _ _ _) (J2 a 300) ?_ (λgo2=>?_)
   ·
    intro σ3 H3 h3;cases h3 with
    | @mk cl tp p d b tr many ts E ends v t u3 u8 u9 _ ff W T3 bt br ot e3 hv ok dp sz=>
    have m1:=ff.m1;have m3:=ff.m3;have x1:atI [V.str "all",v] 1=some v:=rfl;refine orV (λR hR=>⟨_,rfl,tr,_,_,_,rfl,rfl,SqL.of e3,x1,_,_,hv,.str _,vK (by omega),xJ,hR _⟩) (λR hR=>⟨_,rfl,tr,_,_,_,rfl,rfl,SqL.of e3,x1,v,t,rfl,hv,by omega,λn=>⟨_,_,rfl,rfl,hR _⟩⟩) (λc=>?_);refine .inr ⟨c,rfl,_,_,rfl,rfl,⟨gU (show(2:Int).natAbs<2^4 by decide) (gJ (by decide) (by decide)),gU (show((if c then 1 else 0:Int)).natAbs<2^4 by cases c<;>decide) (gJ (by decide) (by decide))⟩,_,rfl,by cases c<;>decide,by cases c<;>decide, ?_⟩;obtain⟨g,hg,g2⟩:∃g:Nat,(2*(if c then 1 else 0:Int))=(g:Int)/\g<=2:=by cases c;exact⟨0,rfl,by decide⟩;exact⟨2,rfl,by decide⟩
    rw[hg,mG];refine qR (n:=g) (GwI a cl tp p d b tr u3 u8 many ts E ends) (.mk W (T3.mono (Same.refl _) (by omega)) e3 (.cons (.str _) (.cons hv .nil)) ⟨rfl,λj x y hj hx hy=>?_,λx hx=>?_,rfl⟩) (λi σ H4 hi h=>?_) (fun σ H4 h=>?_)
    ·have:=(uU.mp hy).1;have:j+1<2:=this;omega
    ·rcases nF.mp hx with rfl | hx
     ·exact⟨trivial,nX _,by decide⟩
     ·rw[gW.mp hx];exact⟨ok,by omega,by omega⟩
    ·cases h with
     | @mk xs L w9 _ W4 T4 e4 tr4 tl4=>
     have ll:=tl4.ll;have hne:L.isEmpty=false:=by cases L with
      | nil=>exact absurd ll (by show ¬(0=2+i);omega)
      | cons _ _=>rfl
     obtain⟨xs',x,L',y,rfl,rfl,_,hy⟩:=Paired.last tr4 hne;obtain⟨o1,o2,o3⟩:=tl4.ok y (gB _ (gW.mpr rfl));try dsimp only[jP]
     refine⟨_,rfl,.inl ⟨rfl,_,SqL.of e4⟩,_,rfl,_,rfl,⟨_,rfl,tr,_,_,_,rfl,rfl,SqL.of e4,YA,_,rfl,tp,x,y,many,60,300+25*i,rfl,hy,by omega,by decide,by decide,m1,m3,cl,T4,by omega,λv' t' H5 g5 d5 b5 T5=>?_⟩⟩;have k45:=Kp.butT b5 T4;have e5:=b5 _ _ e4 ot.1;have lx:(xs'++[x]).length=2+i:=by rw[Paired.length tr4,ll]
     refine⟨tr,_,_,rfl,rfl,e5,by rw[lx,sizeLine_eq];omega, ?_⟩;have ku:Kp H5 (upd H5 tr (.lst (xs'++[x]++[v']))):=Kp.upd e5 trivial;refine .mk (L:=L'++[y]++[t']) (W4.kp (k45.trans ku) λzs hz=>?_) (T5.upd _ ot.1 ot.2 (by omega)) jG (Paired.app (Paired.to (λ_ _ h=>xD (k45.trans ku) h) tr4) (.cons (xD ku d5) .nil)) (tl4.grow g5);rw[jM br];exact b5 _ _ hz bt
    ·cases h with
     | @mk xs L w9 _ W4 T4 e4 tr4 tl4=>
     try dsimp only[jP]
     refine⟨_,rfl,_,rfl,tp,b,300+25*g,0,ends,rfl,W4.B,by decide,bt,by have:=ff.el;omega,cl,T4,by omega,λsp ys Ss H5 n5 b5 T5 e5 p5 l5 g5=>?_⟩;have k45:=Kp.butT b5 T4;try dsimp only[jP]
     exact hTT _ _ (.mk ff (W4.kp k45 λzs hz=>b5 _ _ hz bt) g2 (b5 _ _ e4 ot.1) (Paired.to (λ_ _ h=>xD k45 h) tr4) tl4 ⟨e5,p5,l5,g5⟩)
   ·cases h2 with
    | @mk cl tp p d b tr many ts E ends v t u3 u8 u9 _ ff W T2 bt br ot e2 hv ok dp sz=>
    refine⟨_,rfl,rfl,_,rfl,AV (λheq=>?_) (λ_=>kY (go2 _ _ (.mk ff W (T2.mono (Same.refl _) (by decide)) bt br ot e2 hv ok dp sz)))⟩;have one:many=1:=by
     rw[vS]at heq;have:=mB heq;omega
    refine zW rfl T2 (by decide) (by decide) (by decide) λc H3 c0 c1 T3 b3=>⟨rfl,_,rfl,AV (λ_=>?_) (λ_=>?_)⟩
    ·have k23:=Kp.butT b3 T2;have T3':Tape cl H3 tp 201:=T3;refine⟨(18:Int),rfl,by decide,by decide, ?_⟩;refine qR (n:=18) (DeI H3 a cl tp p d b tr u3 many) (.mk (t:=.all) (But.refl _ _) (T3'.mono (Same.refl _) (by decide)) (.str _) trivial rfl rfl) (λi σ H4 hi h=>?_) (fun σ H4 h=>?_)
     ·cases h with
      | @mk v4 t4 w9 _ bt4 T4 hv4 ok4 dp4 sz4=>
      try dsimp only[jP]
      refine⟨_,rfl,three,λq1 H5 n5 s5 e5=>⟨_,rfl,three,λq2 H6 n6 s6 e6=>⟨two,λq3 H7 n7 s7 e7=>?_⟩⟩⟩;have s47:=(s5.trans s6).trans s7;have T7:=T4.mono s47 uP ;have o7:=(T4.mono (s5.trans s6) uP).off n7;refine zW rfl T7 (by omega) (by decide) (by decide) λwh H8 w0 w1 T8 b8=>?_;have k78:=Kp.butT b8 T7;have hv8:=xD k78 (DecV.same s47 hv4);obtain⟨v8,t8,ea,d8,ok8,dp8,sz8⟩:∃(v8:V) (t8:Tr),atI [V.ref q1,V.ref q2] wh=some v8/\DecV H8 v8 (trD t8)/\t8.ok many/\t8.dp=i+1/\t8.sz=2*(i+1)+1:=by
       obtain rfl | rfl:wh=0∨wh=1:=by omega
       ·exact⟨.ref q1,.cut 0 t4 .all,rfl,BT (k78.tup _ _ ((s6.trans s7) _ _ e5)) hv8 (.str _),⟨by omega,ok4,trivial⟩,by show max t4.dp 0+1=i+1;omega,by show 1+t4.sz+1=_;omega⟩
       ·exact⟨.ref q2,.cut 0 .all t4,rfl,BT (k78.tup _ _ (s7 _ _ e6)) (.str _) hv8,⟨by omega,trivial,ok4⟩,by show max 0 t4.dp+1=i+1;omega,by show 1+1+t4.sz=_;omega⟩
      refine⟨q3,_,_,_,rfl,rfl,SqL.of (b8 _ _ e7 o7.1),ea, ?_⟩;exact .mk ((bt4.trans (But.of s47)).trans b8) (T8.mono (Same.refl _) (by omega)) d8 ok8 dp8 sz8
     ·cases h with
      | @mk v4 t4 w9 _ bt4 T4 hv4 ok4 dp4 sz4=>
      have b24:=b3.trans bt4;have k24:=Kp.butT b24 T2;have e4:=b24 _ _ e2 ot.1;refine⟨_,rfl,_,rfl,tr,_,_,1,rfl,rfl,e4,rfl, ?_⟩;have ku:Kp H4 (upd H4 tr (.lst [.str "all",v4])):=Kp.upd e4 trivial;refine go2 _ _ (.mk ff (W.kp (k24.trans ku) λzs hz=>?_) (T4.upd _ ot.1 ot.2 (by decide)) bt br ot jG (xD ku hv4) ok4 (by omega) (by omega));rw[jM br];exact b24 _ _ hz bt
    ·have k23:=Kp.butT b3 T2;exact go2 _ _ (.mk ff (W.kp k23 λzs hz=>b3 _ _ hz bt) (T3.mono (Same.refl _) (by decide)) bt br ot (b3 _ _ e2 ot.1) (xD k23 hv) ok dp sz)
  clear h2;intro σ3 H3 h3;cases h3 with
  | @mk tp p d b tr sp many g ts E ends xs ys L Ss u3 u8 u9 _ ff W g2 e3 tr3 tl3 S3=>
  have m1:=ff.m1;have m3:=ff.m3;have el:=ff.el;have ll:=tl3.ll;have lxL:xs.length=L.length:=Paired.length tr3;have kt:szT many (ts.map Trm.ns)=szT many (E.map Ent.ns):=by rw[PJ,PL];exact IV ff.pm
  have kc:cfN (tl ts)=cfN (pl E):=funext λq=>cf_perm ff.pm _;have szl:=vO many (E.map Ent.ns);have szp:=zB many (E.map Ent.ns);have kin:=keys_in W.fq.db;let hs:Nat->Bool:=λj=>(L.getD j .all).holds (szT many (ts.map Trm.ns)) (cfN (tl ts)) ends;obtain⟨y0,hy0,dy0⟩:∃y0,atI xs 0=some y0/\DecV H3 y0 (trD .all):=by
   have l0:0<xs.length:=by omega
   have e:=uW l0;obtain⟨t,ht,hd⟩:=Paired.at tr3 e;rw[tl3.l0]at ht;cases ht;exact⟨_,qS (j:=0) e,hd⟩
  obtain⟨y1,t1,hy1,ht1,dy1⟩:∃y1 t1,atI xs 1=some y1/\L[1]? = some t1/\DecV H3 y1 (trD t1):=by
   have l1:1<xs.length:=by omega
   have e:=uW l1;obtain⟨t,ht,hd⟩:=Paired.at tr3 e;exact⟨_,t,qS (j:=1) e,ht,hd⟩
  refine⟨_,rfl,tr,rfl,⟨xs,SqL.of e3⟩,qT (K:=K) (a:=tr) (xs:=xs) (TnI H3 a tp p d b tr sp many u3 u8 u9 hs) (.mk (Same.refl _) (λj hj=>by omega)) (λi σ H4 _ h=>?_) (λi x σ H4 hx h=>?_) (fun σ H4 h=>?_)⟩
  ·cases h with
   | mk s4 hu4=>exact SqL.of (s4 _ _ e3)
  ·cases h with
   | @mk u11 u12 u13 _ s4 hu4=>
   obtain⟨t,ht,hxt⟩:=Paired.at tr3 hx;obtain⟨o1,o2,o3⟩:=tl3.ok t (gH ht);have W4:=W.same s4;try dsimp only[jP]
   refine⟨_,rfl,_,rfl,_,rfl,p,b,x,many,0,ts,ends,t,rfl,W4.S,W4.B,el,DecV.same s4 hxt,o1,by decide,by omega,by omega,λH5 s5=>?_⟩;have s35:=s4.trans s5;have hsi:hs i=t.holds (szT many (ts.map Trm.ns)) (cfN (tl ts)) ends:=by
    show(L.getD i .all).holds _ _ _=_;rw[uR,ht]
    rfl
   generalize hc:t.holds (szT many (ts.map Trm.ns)) (cfN (tl ts)) ends=c at hsi;try dsimp only[jP]
   refine⟨_,rfl,_,rfl, ?_⟩;rw[mR (λz=>nomatch z)];refine kY ?_;dsimp only[tNext];refine wM (t:=RF _ _ _) (fun σ H'=>σ=[some (.ref a),some (.ref tp),some (.int (many:Int)),u3,some (.ref d),some (.ref p),some (.ref b),some (.ref tr),u8,u9,some (.ref sp),u11,some x,some (.bl c)]/\Same H3 H') ?_ (λgo2=>?_)
   ·rintro σ H6 ⟨rfl,s36⟩;have e6:=s36 _ _ e3;have dx6:=DecV.same s36 hxt;have okt:=vK (t:=t) (by omega);refine wM (t:=RF _ _ _) (fun σ H'=>σ=[some (.ref a),some (.ref tp),some (.int (many:Int)),u3,some (.ref d),some (.ref p),some (.ref b),some (.ref tr),u8,u9,some (.ref sp),u11,some x,some (.bl c)]/\H'=H6) ?_ (λgo3=>?_)
    ·rintro σ H7 ⟨rfl,rfl⟩;exact⟨_,rfl,.mk s36 (λj hj=>by rw[show j=i by omega,hsi])⟩
    ·refine⟨_,rfl,_,rfl,tr,xs,_,_,rfl,rfl,SqL.of e6,hy0,_,_,dx6,DecV.same s36 dy0,okt,vK (t:=.all) (by decide),_,rfl, ?_⟩;by_cases i0:i=0
     ·subst i0;rw[tl3.l0]at ht;cases ht;rw[SeqAt.eqv_refl _ okt.1];exact kY (kY (go3 _ _ ⟨rfl,rfl⟩))
     refine AV (λ_=>?_) (λ_=>kY (go3 _ _ ⟨rfl,rfl⟩));refine⟨_,rfl,_,rfl,tr,xs,_,_,rfl,rfl,SqL.of e6,hy1,_,_,dx6,DecV.same s36 dy1,okt,vK (by have:=(tl3.ok t1 (gH ht1)).2.1;omega),_,rfl, ?_⟩;by_cases i1:i=1
     ·subst i1;rw[ht1]at ht;cases ht;rw[SeqAt.eqv_refl _ okt.1];exact kY (go3 _ _ ⟨rfl,rfl⟩)
     refine AV (λ_=>?_) (λ_=>go3 _ _ ⟨rfl,rfl⟩);obtain⟨j,rfl⟩:∃j,i=j+1:=⟨i-1,by omega⟩;obtain rfl:=hu4 j rfl;refine⟨_,rfl,_,rfl, ?_⟩;cases hj:hs j with
     | false=>exact kY (kY (go3 _ _ ⟨by rw[hj],rfl⟩))
     | true=>
      have lj:j<L.length:=by have:=(uU.mp ht).1;omega
      have gr:=tl3.ch j _ t (by omega) (uW lj) ht;have hj':(L[j]).holds (szT many (ts.map Trm.ns)) (cfN (tl ts)) ends=true:=by
       have e:hs j=(L.getD j .all).holds (szT many (ts.map Trm.ns)) (cfN (tl ts)) ends:=rfl;rw[uR,uW lj]at e;rw[hj]at e;exact e.symm
      have gr':Grow (szT many (ts.map Trm.ns)).length L[j] t:=by rw[vO];exact gr
      have:=gr'.holds (T:=cfN (tl ts)) (zB _ _) ends (by rw[vO,el]) hj';rw[hc]at this;subst this;exact vG ⟨_,rfl,_,rfl,kY (go3 _ _ ⟨by rw[hj],rfl⟩)⟩
   ·refine⟨_,rfl,_,rfl, ?_⟩;cases c with
    | false=>exact kY (kY (go2 _ _ ⟨rfl,s35⟩))
    | true=>
     refine vG ?_;have S5:=S3.same s35;have W5:=W.same s35;have ly:ys.length=4:=by rw[Paired.length S5.pr,S5.l4]
     refine⟨_,rfl,sp,rfl,⟨ys,SqL.of S5.e⟩,λq H6 n6 s6 e6=>?_⟩;refine qX (K:=K) (a:=sp) (xs:=ys) (SmI H5 q) (by rw[ly,sizeLine_eq];omega) ⟨s6,e6,[],rfl,(λn h=>nomatch h),rfl⟩ (λk zs H7 h=>⟨SqL.of (h.s _ _ S5.e),h.e⟩) ?_ ?_
     ·rintro k m zs z H7 hz hm hl ⟨s7,e7,nz,rfl,nn,nl⟩;obtain⟨ss,hss,a2,us,rfl,_,_,g1,g2⟩:=Paired.at S5.pr hz;have gs:=S5.gd ss (gH hss);obtain⟨tt,hin⟩:=gs.inT;have wn:0<=AF (pw (ss.map Sp2.v)) (pl E):=zX szp kin t ends tt (by rw[szl];exact o1) (by rw[szl,el]) hin (by rw[<-kt,<-kc];exact hc);have W7:=W5.same s7;refine⟨yN,_,rfl,_,rfl,d,a2,many,200,8,_,E,us,ss,rfl,W7.fq,s7 _ _ g1,Paired.to (λ_ _ h=>SpV.kp h (Kp.of s7)) g2,by rw[gs.ls,el],gs.b,by decide,by decide,by decide,by decide,by decide,λr T0 B0 H8 n8 s8 e8 pB bB tB vB=>⟨r,_,_,_,rfl,rfl,SqT.of e8,rfl, ?_⟩⟩;refine kF hz hm hl (s8 _ _ e7) ⟨jZ (s7.trans s8) n6,jG,nz++[T0],by rw[mQ];rfl,λn hn=>?_,by rw[gS,nl];rfl⟩;rcases mS.mp hn with h | h
      ·exact nn n h
      ·rw[gW.mp h];exact fv_nn pB (by rw[vB];exact wn)
     ·rintro zs H7 hl ⟨s7,e7,nz,rfl,nn,nl⟩;refine⟨q,nz,rfl,e7,(λz=>by rw[z,ly]at nl;cases nl),λm hm _=>⟨_,_,rfl,rfl,_,rfl, ?_⟩⟩;rw[mR (show ¬m<0 by have:=nn m hm;omega)];exact kY (go2 _ _ ⟨rfl,s35.trans s7⟩)
  ·cases h with
   | mk s4 hu4=>exact go _
theorem ZR(F:Fun K "_law_copied" "_law_copied" zG f fd)(D:Df K mg "_law_copied" zG ["thing"] f fd)(T:Txt mg):FnOk P w K mg base CX0 26 f fd ["thing"] (IZ 25):=by exact VQ D T 25
theorem SA{fR:Addr}{fdR:FuncData}(F:Fun K "holds" "holds" zY f fd)(D:Df K mg "holds" zY ["row","tree","lines"] f fd)(T:Txt mg)(DR:Df K mg "row_halved" CA ["row","lines"] fR fdR)(GR:FnOk P w K mg base CX0 2 fR fdR ["row","lines"] spRHalf):FnOk P w K mg base CX0 27 f fd ["row","tree","lines"] (wJ 24):=by exact JU D T DR GR 24
theorem SE{fR fS fA fH:Addr}{fdR fdS fdA fdH:FuncData}(F:Fun K "bears_tree" "bears_tree" CD f fd)(DR:Df K mg "box_row" zI ["one","box"] fR fdR)(GR:FnOk P w K mg base CX0 5 fR fdR ["one","box"] (wK K))(DS:Df K mg "sizes_of" AA ["one"] fS fdS)(GS:FnOk P w K mg base CX0 1 fS fdS ["one"] spSizes)(DA:Df K mg "all_lines" JD ["sizes"] fA fdA)(GA:FnOk P w K mg base CX0 3 fA fdA ["sizes"] spAllL)(DH:Df K mg "holds" zY ["row","tree","lines"] fH fdH)(GH:FnOk P w K mg base CX0 27 fH fdH ["row","tree","lines"] (wJ 24)):FnOk P w K mg base CX0 30 f fd ["one","box","tree"] (GI K 24):=by exact VS (n:=24) F DR GR DS GS DA GA DH GH
theorem MK{fL fH:Addr}{fdL fdH:FuncData}(F:Fun K "_law_needed" "_law_needed" zE f fd)(D:Df K mg "_law_needed" zE ["whole","box","many","left"] f fd)(DL:Df K mg "_law_least" AB ["whole","box"] fL fdL)(GL:FnOk P w K mg base CX0 7 fL fdL ["whole","box"] spLeast)(DH:Df K mg "_law_halves" zF ["box","letter"] fH fdH)(GH:FnOk P w K mg base CX0 2 fH fdH ["box","letter"] spHalves):FnOk P w K mg base CX0 11 f fd ["whole","box","many","left"] (wI 3):=by exact EX D DL GL DH GH 3
theorem SC{fW:Addr}{fdW:FuncData}(F:Fun K "_law_grown" "_law_grown" AC f fd)(D:Df K mg "_law_grown" AC ["tape","tree","many","left"] f fd)(DW:Df K mg "_law_draw" wQ ["tape","many"] fW fdW)(GW:FnOk P w K mg base CX0 1 fW fdW ["tape","many"] spDraw):FnOk P w K mg base CX0 26 f fd ["tape","tree","many","left"] (AZ 24):=by exact JV D DW GW 24
end Lw
namespace Lw
open PySem PySem.Spec PyProof.Rows L2
theorem len1{us:List Value}(h:us.length=1):∃a,us=[a]:=by cases us with | nil=>cases h | cons a r=>have e:r=[]:=List.length_eq_zero_iff.mp (by simpa using h);subst e;exact⟨a,rfl⟩
theorem len2{us:List Value}(h:us.length=2):∃a b,us=[a,b]:=by cases us with | nil=>cases h | cons a r=>obtain⟨b,rfl⟩:=len1 (us:=r) (by simpa using h);exact⟨a,b,rfl⟩
theorem len3{us:List Value}(h:us.length=3):∃a b c,us=[a,b,c]:=by cases us with | nil=>cases h | cons a r=>obtain⟨b,c,rfl⟩:=len2 (us:=r) (by simpa using h);exact⟨a,b,c,rfl⟩
theorem len4{us:List Value}(h:us.length=4):∃a b c d,us=[a,b,c,d]:=by cases us with | nil=>cases h | cons a r=>obtain⟨b,c,d,rfl⟩:=len3 (us:=r) (by simpa using h);exact⟨a,b,c,d,rfl⟩
abbrev fo(x:Str)(st:Stmt)(kV dc pm:Value)(an:Option Addr)(cd ct:Value):FuncData:=PySem.W.fnOf x x (yG st) (xG st) (jQ st) .none kV dc pm an cd ct
abbrev BdA(x:Str)(st:Stmt)(ps:List Str)(us:List Value):Prop:=∀(kV dc pm:Value) (an:Option Addr) (cd ct:Value),bindArgs (fo x st kV dc pm an cd ct) ⟨us,[]⟩=pure (ps.zip us)
theorem bd1{x:Str}{st:Stmt}{ps:List Str}(hp:ps.length=1)(h:∀a,BdA x st ps [a]):∀us:List Value,us.length=ps.length->BdA x st ps us:=λus e=>by obtain⟨_,rfl⟩:=len1 (e.trans hp);exact λ_ _ _ _ _ _=>h ..
theorem bd2{x:Str}{st:Stmt}{ps:List Str}(hp:ps.length=2)(h:∀a b,BdA x st ps [a,b]):∀us:List Value,us.length=ps.length->BdA x st ps us:=λus e=>by obtain⟨_,_,rfl⟩:=len2 (e.trans hp);exact λ_ _ _ _ _ _=>h ..
theorem bd3{x:Str}{st:Stmt}{ps:List Str}(hp:ps.length=3)(h:∀a b c,BdA x st ps [a,b,c]):∀us:List Value,us.length=ps.length->BdA x st ps us:=λus e=>by obtain⟨_,_,_,rfl⟩:=len3 (e.trans hp);exact λ_ _ _ _ _ _=>h ..
theorem bd4{x:Str}{st:Stmt}{ps:List Str}(hp:ps.length=4)(h:∀a b c d,BdA x st ps [a,b,c,d]):∀us:List Value,us.length=ps.length->BdA x st ps us:=λus e=>by obtain⟨_,_,_,_,rfl⟩:=len4 (e.trans hp);exact λ_ _ _ _ _ _=>h ..
theorem df{K:tJ}{h:Heap}{mg:Str->Option Value}{x:Str}{st:Stmt}(X:K.In h)(G:h.Ns mainGlobals mg)(A:FnAt K x st)(ps:List Str)(b:∀us:List Value,us.length=ps.length->BdA x st ps us):∃f fd,Df K mg x st ps f fd:=by
 obtain⟨a,l,c,k⟩:=A;exact⟨_,_,MW l c k,(MW l c k).binds λkV dc pm an cd ct us h=>b us h kV dc pm an cd ct,PySem.W.mg_of X G a⟩
theorem all_mk{l:PySem.W.OpenLaw}{w:World}{K:tJ}{h:Heap}{mg:Str->Option Value}{fa:Addr}(X:K.In h)(G:h.Ns mainGlobals mg)(hfa:mg "law" = some (.ref fa))(A:Facts K) :
  ∃fd:FuncData,(∀(s:Shared) (v:Value),BindsTo s fd ⟨[v],[]⟩ [("script",v)])/\∀base:Heap,K.In base->base.Ns mainGlobals mg->FnOk l.prog w K mg base CX0 32 fa fd ["script"] (NQ K):=by
 obtain @⟨f40,oc40,kV40,dc40,pm40,cd40,ct40,od40,an40,sl40,a40,l40,c40,k40⟩:=A.f40;obtain⟨v1⟩:=A.v1;obtain⟨n1a,n1b⟩:=A.n1;have e:=hfa.symm.trans (PySem.W.mg_of X G a40);cases e;have T:Txt mg:={ isi:=gZ X G A.z1,len:=gZ X G A.z2,int:=gZ X G A.z3,bool:=gZ X G A.z4,tup:=gZ X G A.z5,lst:=gZ X G A.z6,abs:=gZ X G A.z7,rng:=gZ X G A.z8,lbits:=⟨_,PySem.W.mg_of X G v1⟩,zip:=gZ X G A.z9,sorted:=gZ X G A.z10,enum:=gZ X G A.z13,dct:=gZ X G A.z14,max:=gZ X G A.z11,min:=gZ X G A.z12 };have N:Ngt K mg:=⟨_,PySem.W.mg_of X G n1a,λH=>.inr ⟨_,_,_,n1b,rfl,rfl,by show 2<=sizeLine;decide,.cons ⟨_,rfl⟩ (.cons ⟨_,rfl⟩ .nil)⟩⟩;have F40:=MW (st:=MC) l40 c40 k40;obtain⟨f1,d1,D1⟩:=df X G A.f1 ["one","other"] (bd2 rfl λ_ _ _ _ _ _ _ _=>rfl);obtain⟨f2,d2,D2⟩:=df X G A.f2 ["one","other"] (bd2 rfl λ_ _ _ _ _ _ _ _=>rfl);obtain⟨f3,d3,D3⟩:=df X G A.f3 ["one","other"] (bd2 rfl λ_ _ _ _ _ _ _ _=>rfl);obtain⟨f4,d4,D4⟩:=df X G A.f4 ["some"] (bd1 rfl λ_ _ _ _ _ _ _=>rfl);obtain⟨f5,d5,D5⟩:=df X G A.f5 ["one"] (bd1 rfl λ_ _ _ _ _ _ _=>rfl);obtain⟨f6,d6,D6⟩:=df X G A.f6 ["sizes"] (bd1 rfl λ_ _ _ _ _ _ _=>rfl);obtain⟨f7,d7,D7⟩:=df X G A.f7 ["sizes","letter"] (bd2 rfl λ_ _ _ _ _ _ _ _=>rfl);obtain⟨f8,d8,D8⟩:=df X G A.f8 ["sizes"] (bd1 rfl λ_ _ _ _ _ _ _=>rfl);obtain⟨f9,d9,D9⟩:=df X G A.f9 ["many"] (bd1 rfl λ_ _ _ _ _ _ _=>rfl)
 obtain⟨f10,d10,D10⟩:=df X G A.f10 ["line","tops","under"] (bd3 rfl λ_ _ _ _ _ _ _ _ _=>rfl);obtain⟨f11,d11,D11⟩:=df X G A.f11 ["line","low","high","under"] (bd4 rfl λ_ _ _ _ _ _ _ _ _ _=>rfl);obtain⟨f12,d12,D12⟩:=df X G A.f12 ["one","box"] (bd2 rfl λ_ _ _ _ _ _ _ _=>rfl);obtain⟨f13,d13,D13⟩:=df X G A.f13 ["one","box"] (bd2 rfl λ_ _ _ _ _ _ _ _=>rfl);obtain⟨f14,d14,D14⟩:=df X G A.f14 ["line"] (bd1 rfl λ_ _ _ _ _ _ _=>rfl);obtain⟨f15,d15,D15⟩:=df X G A.f15 ["row","lines"] (bd2 rfl λ_ _ _ _ _ _ _ _=>rfl);obtain⟨f16,d16,D16⟩:=df X G A.f16 ["row","tree","lines"] (bd3 rfl λ_ _ _ _ _ _ _ _ _=>rfl);obtain⟨f17,d17,D17⟩:=df X G A.f17 ["one","box","tree"] (bd3 rfl λ_ _ _ _ _ _ _ _ _=>rfl);obtain⟨f18,d18,D18⟩:=df X G A.f18 ["tape","many"] (bd2 rfl λ_ _ _ _ _ _ _ _=>rfl);obtain⟨f19,d19,D19⟩:=df X G A.f19 ["thing"] (bd1 rfl λ_ _ _ _ _ _ _=>rfl);obtain⟨f20,d20,D20⟩:=df X G A.f20 ["top","bottom"] (bd2 rfl λ_ _ _ _ _ _ _ _=>rfl);obtain⟨f21,d21,D21⟩:=df X G A.f21 ["one","other"] (bd2 rfl λ_ _ _ _ _ _ _ _=>rfl);obtain⟨f22,d22,D22⟩:=df X G A.f22 ["one","other"] (bd2 rfl λ_ _ _ _ _ _ _ _=>rfl);obtain⟨f23,d23,D23⟩:=df X G A.f23 ["found","powers","number"] (bd3 rfl λ_ _ _ _ _ _ _ _ _=>rfl);obtain⟨f24,d24,D24⟩:=df X G A.f24 ["one","other"] (bd2 rfl λ_ _ _ _ _ _ _ _=>rfl);obtain⟨f25,d25,D25⟩:=df X G A.f25 ["one","spot"] (bd2 rfl λ_ _ _ _ _ _ _ _=>rfl);obtain⟨f26,d26,D26⟩:=df X G A.f26 ["many","one"] (bd2 rfl λ_ _ _ _ _ _ _ _=>rfl);obtain⟨f27,d27,D27⟩:=df X G A.f27 ["one","other"] (bd2 rfl λ_ _ _ _ _ _ _ _=>rfl)
 obtain⟨f28,d28,D28⟩:=df X G A.f28 ["tape"] (bd1 rfl λ_ _ _ _ _ _ _=>rfl);obtain⟨f29,d29,D29⟩:=df X G A.f29 ["tape","many","most"] (bd3 rfl λ_ _ _ _ _ _ _ _ _=>rfl);obtain⟨f30,d30,D30⟩:=df X G A.f30 ["tape","many"] (bd2 rfl λ_ _ _ _ _ _ _ _=>rfl);obtain⟨f31,d31,D31⟩:=df X G A.f31 ["one","other"] (bd2 rfl λ_ _ _ _ _ _ _ _=>rfl);obtain⟨f32,d32,D32⟩:=df X G A.f32 ["box","letter"] (bd2 rfl λ_ _ _ _ _ _ _ _=>rfl);obtain⟨f33,d33,D33⟩:=df X G A.f33 ["whole","box"] (bd2 rfl λ_ _ _ _ _ _ _ _=>rfl);obtain⟨f34,d34,D34⟩:=df X G A.f34 ["whole","box","tree"] (bd3 rfl λ_ _ _ _ _ _ _ _ _=>rfl);obtain⟨f35,d35,D35⟩:=df X G A.f35 ["tape","tree","many","left"] (bd4 rfl λ_ _ _ _ _ _ _ _ _ _=>rfl);obtain⟨f36,d36,D36⟩:=df X G A.f36 ["whole","box","many","left"] (bd4 rfl λ_ _ _ _ _ _ _ _ _ _=>rfl);obtain⟨f37,d37,D37⟩:=df X G A.f37 ["tape","box"] (bd2 rfl λ_ _ _ _ _ _ _ _=>rfl);obtain⟨f38,d38,D38⟩:=df X G A.f38 ["whole","box","tree"] (bd3 rfl λ_ _ _ _ _ _ _ _ _=>rfl);obtain⟨f39,d39,D39⟩:=df X G A.f39 ["tree"] (bd1 rfl λ_ _ _ _ _ _ _=>rfl);refine⟨PySem.W.fnOf "law" "law" (yG MC) (xG MC) (jQ MC) .none kV40 dc40 pm40 an40 cd40 ct40,λs v=>.of_eq rfl,λbase _ _=>?_⟩;have G_gcd:=VO (P:=l.prog) (w:=w) (base:=base) (mg:=mg) D1.F T;have G_low:=ok_low (P:=l.prog) (w:=w) (base:=base) (mg:=mg) D20.F T;have G_draw:=ZQ (P:=l.prog) (w:=w) (base:=base) (mg:=mg) D18.F T;have G_mul:=VI (P:=l.prog) (w:=w) (base:=base) (mg:=mg) D2.F T D1;have G_divN:=HN (P:=l.prog) (w:=w) (base:=base) (mg:=mg) D3.F T D2 D1
 have G_plus:=OL (P:=l.prog) (w:=w) (base:=base) (mg:=mg) D21.F;have G_put:=ok_put (P:=l.prog) (w:=w) (base:=base) (mg:=mg) D23.F D21;have G_lmul:=ZN (P:=l.prog) (w:=w) (base:=base) (mg:=mg) D22.F;have G_lsum:=ZK (P:=l.prog) (w:=w) (base:=base) (mg:=mg) D26.F T D20 G_low;have G_level:=VM (P:=l.prog) (w:=w) (base:=base) (mg:=mg) D4.F T D3 D2 D1;have G_levelT:=RZ (P:=l.prog) (w:=w) (base:=base) (mg:=mg) D4.F T D3 D2 D1;have G_fact:=ZP (P:=l.prog) (w:=w) (base:=base) (mg:=mg) D9.F T;have G_fold:=ZO (P:=l.prog) (w:=w) (base:=base) (mg:=mg) D10.F T;have G_lnum:=ZM (P:=l.prog) (w:=w) (base:=base) (mg:=mg) D11.F T D9 G_fact D10 G_fold;have G_sizes:=VG (P:=l.prog) (w:=w) (base:=base) (mg:=mg) D5.F T;have G_places:=RY (P:=l.prog) (w:=w) (base:=base) (mg:=mg) D6.F T;have G_lines:=VJ (P:=l.prog) (w:=w) (base:=base) (mg:=mg) D7.F T D6 G_places;have G_boxrow:=SD (P:=l.prog) (w:=w) (base:=base) (mg:=mg) D12.F T N D5 G_sizes D6 G_places D4 G_level G_levelT D7 G_lines D11 G_lnum D9 G_fact;have G_boxn:=ZS (P:=l.prog) (w:=w) (base:=base) (mg:=mg) D13.F T D12 G_boxrow D3 G_divN;have G_atT:=ok_atT (P:=l.prog) (w:=w) (base:=base) (mg:=mg) D25.F T D21 G_plus D22 G_lmul;have G_atL:=ok_atL (P:=l.prog) (w:=w) (base:=base) (mg:=mg) D25.F T D21 G_plus D22 G_lmul;have G_nb:=ok_nb (P:=l.prog) (w:=w) (base:=base) (mg:=mg) D28.F T D18 G_draw D20 G_low;have G_more:=ZI (P:=l.prog) (w:=w) (base:=base) (mg:=mg) D27.F T D21 G_plus D20 G_low
 have G_many:=ZJ (P:=l.prog) (w:=w) (base:=base) (mg:=mg) D29.F T D18 G_draw D28 G_nb D23 G_put;have G_prod:=ZH (P:=l.prog) (w:=w) (base:=base) (mg:=mg) D24.F T D22 G_lmul D23 G_put;have G_box:=ok_box (P:=l.prog) (w:=w) (base:=base) (mg:=mg) D30.F T D28 G_nb D20 G_low D27 G_more;have G_lhalf:=VL (P:=l.prog) (w:=w) (base:=base) (mg:=mg) D14.F T;have G_allL:=ZV (P:=l.prog) (w:=w) (base:=base) (mg:=mg) D8.F T D7 G_lines;have G_rhalf:=VH (P:=l.prog) (w:=w) (base:=base) (mg:=mg) D15.F T D14 G_lhalf;have G_under:=VE (P:=l.prog) (w:=w) (base:=base) (mg:=mg) D31.F;have G_halves:=SB (P:=l.prog) (w:=w) (base:=base) (mg:=mg) D32.F D21 G_plus D20 G_low;have G_least:=VN (P:=l.prog) (w:=w) (base:=base) (mg:=mg) D33.F D13 G_boxn D31 G_under;have G_depth:=VP (P:=l.prog) (w:=w) (base:=base) (mg:=mg) D39.F;have G_copI:=ZR (P:=l.prog) (w:=w) (base:=base) (mg:=mg) D19.F D19 T;have G_holdsI:=SA (P:=l.prog) (w:=w) (base:=base) (mg:=mg) D16.F D16 T D15 G_rhalf;have G_bearsI:=SE (P:=l.prog) (w:=w) (base:=base) (mg:=mg) D17.F D12 G_boxrow D5 G_sizes D8 G_allL D16 G_holdsI;have G_neededI:=MK (P:=l.prog) (w:=w) (base:=base) (mg:=mg) D36.F D36 D33 G_least D32 G_halves;have G_grownI:=SC (P:=l.prog) (w:=w) (base:=base) (mg:=mg) D35.F D35 D18 G_draw;have G_borne:=VR (P:=l.prog) (w:=w) (base:=base) (mg:=mg) D34.F T D33 G_least D32 G_halves;have G_spots:=VF (P:=l.prog) (w:=w) (base:=base) (mg:=mg) D37.F T D18 G_draw D20 G_low D21 G_plus D22 G_lmul
 have G_told:=ZG (P:=l.prog) (w:=w) (base:=base) (mg:=mg) D38.F T D19 G_copI D17 G_bearsI D34 G_borne;exact ok_law F40 T ⟨D18,G_draw,D29,G_many,D24,G_prod,D23,G_put,D20,G_low,D26,G_lsum,D30,G_box,D36,G_neededI,D39,G_depth,D35,G_grownI,D37,G_spots,D38,G_told,D25,G_atL⟩
theorem walk{l:PySem.W.OpenLaw}{q:Program}{loose:List Str}{XP:(Str->Option Value)->Heap->Prop}{YP:World->Heap->Prop}{d:DefRec}{K:Params->tJ}(hn:l.most=some 63)(hdf:d.params.defaults=[])
  (hY:∀(w:World) (h:Heap),YP w h->(K w.params).In h)
  (F:∀(w:World) (mg:Str->Option Value) (fa:Addr) (h:Heap),(K w.params).In h->h.Ns mainGlobals mg->mg d.name=some (.ref fa)->
   ∃fd:FuncData,(∀(s:Shared) (u:Value),BindsTo s fd ⟨[u],[]⟩ [("script",u)])/\∀base:Heap,(K w.params).In base->base.Ns mainGlobals mg->FnOk l.prog w (K w.params) mg base CX0 32 fa fd ["script"] (NQ (K w.params))) :
  PySem.W.WalkO q loose XP YP l.row.toRowW d [] (λf vs=>PySem.call f vs):=
 L2.YC (n:=63) (k:=32) (x:="script") (CX:=λ_=>CX0) (sp:=λw=>NQ (K w.params)) hn (by decide) hdf ⟨rfl,by decide,by decide⟩ hY F (λ_ _ a ns hl _ hS=>⟨a,ns,rfl,hS,hl,λ_=>rfl⟩) λ_ _ _ _ _ z=>z
end Lw
open PySem PySem.W PyProof.Rows
set_option maxRecDepth 100000 in
theorem PySem.Challenge.cw_lowwater_k71_trees_looked_at_holds : PySem.Challenge.rw_lowwater_k71_trees_looked_at.Holds := by
 refine Lw.head λK YP d A hY hd hn=>Lw.walk (l:=PySem.Challenge.rw_lowwater_k71_trees_looked_at) rfl hd hY λw mg fa h KX G hmg=>?_;rw[hn]at hmg;exact Lw.all_mk KX G hmg (A w.params)
end
