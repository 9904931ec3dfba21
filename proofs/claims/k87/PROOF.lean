import PyProof.Rows.All
import Wide.All
import OpenK.AllK
import Wide.FinOn
import Lean
import PyProof.EqAt
import PyProof.EqKinds
import PyProof.TupleCall
import PySem.Challenge.RW_lowwater_k87_rows_handed_by_names
set_option Elab.async false
set_option linter.all false
set_option maxRecDepth 100000
set_option maxHeartbeats 4000000
noncomputable section
section
open PySem PySem.Spec PyProof PyProof.Rows
theorem uJ{n:Nat}:n<=n:=Nat.le_refl n
theorem uK:0<=sizeLine:=by decide
theorem uL:1<=sizeLine:=by decide
theorem uM:2<=sizeLine:=by decide
theorem uN:3<=sizeLine:=by decide
theorem uO:type_of%@List.getD_eq_getElem?_getD:=@List.getD_eq_getElem?_getD
theorem uP:type_of%@Classical.byContradiction:=@Classical.byContradiction
theorem uQ:type_of%@List.getElem?_eq_some_iff:=@List.getElem?_eq_some_iff
theorem uR:type_of%@List.getElem?_eq_getElem:=@List.getElem?_eq_getElem
theorem uS:type_of%@Heap.get?_push_of_some:=@Heap.get?_push_of_some
theorem uT:type_of%@List.mem_append_right:=@List.mem_append_right
theorem uU:type_of%@List.length_replicate:=@List.length_replicate
theorem uV:type_of%@List.mem_iff_getElem?:=@List.mem_iff_getElem?
theorem uW:type_of%@List.mem_of_getElem?:=@List.mem_of_getElem?
theorem uX:type_of%@List.mem_cons_of_mem:=@List.mem_cons_of_mem
theorem uY:type_of%@Nat.pow_le_pow_right:=@Nat.pow_le_pow_right
theorem uZ:type_of%@Nat.pow_lt_pow_right:=@Nat.pow_lt_pow_right
theorem gC:type_of%@Heap.get?_push_size:=@Heap.get?_push_size
theorem gD:type_of%@Nat.lt_of_le_of_lt:=@Nat.lt_of_le_of_lt
theorem gE:type_of%@List.length_append:=@List.length_append
theorem gF:type_of%@Bool.false_ne_true:=@Bool.false_ne_true
theorem gG:type_of%@Nat.lt_of_lt_of_le:=@Nat.lt_of_lt_of_le
theorem gH:type_of%@List.mem_singleton:=@List.mem_singleton
theorem gI:type_of%@Int.natAbs_natCast:=@Int.natAbs_natCast
theorem gJ:type_of%@List.mem_cons_self:=@List.mem_cons_self
theorem gL:type_of%@PySem.W.mg_none_of:=@PySem.W.mg_none_of
theorem gM:type_of%@List.getElem?_map:=@List.getElem?_map
theorem gN:type_of%@List.size_toArray:=@List.size_toArray
theorem gO:type_of%@List.take_add_one:=@List.take_add_one
theorem gP:type_of%@of_decide_eq_true:=@of_decide_eq_true
theorem gQ:type_of%@List.length_range:=@List.length_range
theorem gR:type_of%@Int.gcd_dvd_right:=@Int.gcd_dvd_right
theorem gS:type_of%@Int.toNat_natCast:=@Int.toNat_natCast
theorem gT:type_of%@List.length_take:=@List.length_take
theorem gU:type_of%@List.not_mem_nil:=@List.not_mem_nil
theorem gW:type_of%@List.take_length:=@List.take_length
theorem gX:type_of%@List.length_cons:=@List.length_cons
theorem gY:type_of%@Bool.and_eq_true:=@Bool.and_eq_true
theorem gZ:type_of%@Int.gcd_dvd_left:=@Int.gcd_dvd_left
theorem hJ:type_of%@Nat.lt_succ_self:=@Nat.lt_succ_self
theorem hU:type_of%@List.length_map:=@List.length_map
theorem hV:type_of%@List.map_append:=@List.map_append
theorem hW:type_of%@decide_eq_false:=@decide_eq_false
theorem mB:type_of%@List.mem_append:=@List.mem_append
theorem mC:type_of%@decide_eq_true:=@decide_eq_true
theorem mD:type_of%@Int.natAbs_mul:=@Int.natAbs_mul
theorem mE:type_of%@Nat.mul_le_mul:=@Nat.mul_le_mul
theorem mF:type_of%@List.nodup_nil:=@List.nodup_nil
theorem mG:type_of%@Heap.size_push:=@Heap.size_push
theorem mH:type_of%@List.map_cons:=@List.map_cons
theorem mI:type_of%@List.mem_cons:=@List.mem_cons
theorem mJ:type_of%@Nat.lt_irrefl:=@Nat.lt_irrefl
theorem mK:type_of%@PySem.W.mg_of:=@PySem.W.mg_of
theorem mM:type_of%@Heap.lt_size:=@Heap.lt_size
theorem mN:type_of%@Nat.le_trans:=@Nat.le_trans
theorem mO:type_of%@Nat.ne_of_lt:=@Nat.ne_of_lt
theorem mP:type_of%@List.mem_map:=@List.mem_map
theorem mQ:type_of%@Rat.zero_add:=@Rat.zero_add
theorem mR:type_of%@Rat.add_zero:=@Rat.add_zero
theorem mS:type_of%@Rat.zero_mul:=@Rat.zero_mul
theorem mT:type_of%@Nat.le_of_lt:=@Nat.le_of_lt
theorem mU:type_of%@Rat.mul_comm:=@Rat.mul_comm
theorem mV:type_of%@Int.mul_comm:=@Int.mul_comm
theorem mW:type_of%@Nat.le_refl:=@Nat.le_refl
theorem mX:type_of%@Nat.zero_le:=@Nat.zero_le
theorem mY:type_of%@Int.mul_pos:=@Int.mul_pos
theorem mZ:type_of%@Int.le_refl:=@Int.le_refl
theorem nC:type_of%@wpAny_bind:=@wpAny_bind
theorem nE:type_of%@wpAny_pure:=@wpAny_pure
theorem nF:type_of%@wpAny_mono:=@wpAny_mono
theorem nG:type_of%@if_neg:=@if_neg
theorem nH:type_of%@if_pos:=@if_pos
abbrev nI:=PySem.W.Frag
end
namespace L2
open PySem PySem.Spec PyProof.Rows
def xX(s:Stmt):Arguments:=match s with
 | .FunctionDef _ a _ _ _ _ _ _ _ _=>a
 | _=>{ posonlyargs:=[],args:=[],vararg:=none,kwonlyargs:=[],kw_defaults:=[],kwarg:=none,defaults:=[] }
def vU(s:Stmt):List Stmt:=match s with
 | .FunctionDef _ _ b _ _ _ _ _ _ _=>b
 | _=>[]
def jJ(s:Stmt):Scope:=match s with
 | .FunctionDef _ _ _ _ _ _ sc _ _ _=>sc
 | _=>{ kind:=.function,names:=[],isGenerator:=false,isCoroutine:=false }
end L2
namespace Lw
open PySem PySem.Spec PyProof.Rows L2
def top(i:Nat):Stmt:=PySem.Challenge.pw_lowwater_k87_rows_handed_by_names.main.body.getD i (.Pass ⟨0,0,0,0⟩)
abbrev wI:Stmt:=top 8
abbrev DB:Stmt:=top 11
abbrev LF:Stmt:=top 12
abbrev FL:Stmt:=top 13
abbrev MY:Stmt:=top 14
abbrev LE:Stmt:=top 15
abbrev LG:Stmt:=top 16
abbrev sWF:Stmt:=top 24
abbrev sPw:Stmt:=top 25
abbrev MS:Stmt:=top 26
abbrev XD:Stmt:=top 27
abbrev yJ:Stmt:=top 28
abbrev wX:Stmt:=top 29
abbrev MR:Stmt:=top 30
abbrev yY:Stmt:=top 31
abbrev wJ:Stmt:=top 32
abbrev BR:Stmt:=top 33
abbrev MX:Stmt:=top 34
abbrev HK:Stmt:=top 35
abbrev BQ:Stmt:=top 36
abbrev wK:Stmt:=top 37
abbrev yX:Stmt:=top 38
abbrev xV:Stmt:=top 39
abbrev HJ:Stmt:=top 43
abbrev NA:Stmt:=top 44
abbrev HI:Stmt:=top 45
abbrev IS:Stmt:=top 46
abbrev BS:Stmt:=top 47
abbrev XE:Stmt:=top 48
abbrev wY:Stmt:=top 49
abbrev wD:Stmt:=top 53
abbrev CY:Stmt:=top 54
abbrev FJ:Stmt:=top 55
abbrev SV:Stmt:=top 56
abbrev SU:Stmt:=top 57
abbrev IR:Stmt:=top 58
abbrev MQ:Stmt:=top 59
abbrev GZ:Stmt:=top 60
abbrev SW:Stmt:=top 61
abbrev CZ:Stmt:=top 65
abbrev MW:Stmt:=top 66
abbrev SS:Stmt:=top 67
abbrev SX:Stmt:=top 68
abbrev sSqS:Stmt:=top 69
abbrev IT:Stmt:=top 70
abbrev sPlS:Stmt:=top 71
abbrev sTiS:Stmt:=top 72
abbrev MV:Stmt:=top 74
abbrev MU:Stmt:=top 75
abbrev MT:Stmt:=top 77
abbrev FK:Stmt:=top 78
abbrev AL:Stmt:=top 79
abbrev MZ:Stmt:=top 80
abbrev SR:Stmt:=top 81
abbrev wL:Stmt:=top 82
abbrev AM:Stmt:=top 83
inductive FnAt(K:nI)(x:Str)(st:Stmt):Prop
 | mk {f:Addr} {oc kV dc pm cd ct:Value} {od an:Option Addr} {sl:Array (Option Value)} (a:PySem.W.nsIn K mainGlobals x=some (some (.ref f))) (l:K.lookup f=some ⟨oc,od,.func (PySem.W.fnOf x x (xX st) (vU st) (jJ st) .none kV dc pm an cd ct),sl⟩) (c:PySem.W.codeIn K cd x=true) (k:PySem.W.keepIn K (.ref f)=true)
inductive PrAt(K:nI)(x:Str)(i j:Int):Prop
 | mk {f:Addr} {od:Option Addr} {sl:Array (Option Value)} {t u:Tok} {n:Nat} (a:PySem.W.nsIn K mainGlobals x=some (some (.ref f))) (l:K.lookup f=some ⟨.type "tuple",od,.seq #[.int i t,.int j u] n,sl⟩)
inductive IntAt(K:nI)(x:Str)(i:Int):Prop
 | mk {t:Tok} (a:PySem.W.nsIn K mainGlobals x=some (some (.int i t)))
inductive BgAt(K:nI)(x:Str):Prop
 | mk {i:Int} {t:Tok} (a:PySem.W.nsIn K mainGlobals x=some (some (.int i t))) (b:Nat.ble 9000 i.toNat.log2=true)
inductive KdAt(p:Params)(K:nI):Prop
 | mk {d f0 f1 f2 f3 f4:Addr} {n:Nat} {h0 h1 h2 h3 h4:Int} {t0 t1 t2 t3 t4:Tok} (a:PySem.W.nsIn K mainGlobals "KINDS" = some (some (.ref d))) (l:K.lookup d=some ⟨.type "dict",none,.dict #[⟨h0,.str (Str.ofString "rim") t0,.ref f0⟩,⟨h1,.str (Str.ofString "number") t1,.ref f1⟩,⟨h2,.str (Str.ofString "square") t2,.ref f2⟩,⟨h3,.str (Str.ofString "plus") t3,.ref f3⟩,⟨h4,.str (Str.ofString "times") t4,.ref f4⟩] n,#[]⟩)
  (m0:PySem.W.nsIn K mainGlobals "rim_sum" = some (some (.ref f0))) (m1:PySem.W.nsIn K mainGlobals "number_sum" = some (some (.ref f1))) (m2:PySem.W.nsIn K mainGlobals "square_sum" = some (some (.ref f2))) (m3:PySem.W.nsIn K mainGlobals "plus_sum" = some (some (.ref f3))) (m4:PySem.W.nsIn K mainGlobals "times_sum" = some (some (.ref f4)))
  (e0:h0=reduceHash (p.strHash (Str.ofString "rim").cps)) (e1:h1=reduceHash (p.strHash (Str.ofString "number").cps)) (e2:h2=reduceHash (p.strHash (Str.ofString "square").cps)) (e3:h3=reduceHash (p.strHash (Str.ofString "plus").cps)) (e4:h4=reduceHash (p.strHash (Str.ofString "times").cps))
  (s:(d==sysModules)=false)
structure Facts(p:Params)(K:nI):Prop where
 f1:FnAt K "is_whole" wI
 f2:FnAt K "greatest_divisor" DB
 f3:FnAt K "is_fraction" LF
 f4:FnAt K "added" FL
 f5:FnAt K "less" MY
 f6:FnAt K "multiplied" LE
 f7:FnAt K "divided" LG
 f8:FnAt K "is_whole_from" sWF
 f9:FnAt K "are_powers" sPw
 f10:FnAt K "is_term" MS
 f11:FnAt K "is_sum" XD
 f12:FnAt K "degree" yJ
 f13:FnAt K "packed" wX
 f14:FnAt K "unpacked" MR
 f15:FnAt K "table_of" yY
 f16:FnAt K "sum_of" wJ
 f17:FnAt K "tables_added" BR
 f18:FnAt K "levelled" MX
 f19:FnAt K "heap_total" HK
 f20:FnAt K "tables_multiplied" BQ
 f21:FnAt K "plus" wK
 f22:FnAt K "times" yX
 f23:FnAt K "scaled" xV
 f24:FnAt K "level" HJ
 f25:FnAt K "all_powers" NA
 f26:FnAt K "moved" HI
 f27:FnAt K "factorial" IS
 f28:FnAt K "spread" BS
 f29:FnAt K "raw_numbers" XE
 f30:FnAt K "numbers" wY
 f31:FnAt K "put" wD
 f32:FnAt K "put_weighted" CY
 f33:FnAt K "put_total" FJ
 f34:FnAt K "rows_of_squares" SV
 f35:FnAt K "rows_of_weights" SU
 f36:FnAt K "put_powers" IR
 f37:FnAt K "ways" MQ
 f38:FnAt K "put_pairs" GZ
 f39:FnAt K "rows_of_piece" SW
 f40:FnAt K "is_place" CZ
 f41:FnAt K "is_long" MW
 f42:FnAt K "rim_sum" SS
 f43:FnAt K "number_sum" SX
 f44:FnAt K "square_sum" sSqS
 f45:FnAt K "are_earlier" IT
 f46:FnAt K "plus_sum" sPlS
 f47:FnAt K "times_sum" sTiS
 f48:FnAt K "one_sum" MV
 f49:FnAt K "row_sums" MU
 f50:FnAt K "_law_tape" MT
 f51:FnAt K "_law_pick" FK
 f52:FnAt K "_law_least" AL
 f53:FnAt K "_law_fraction" MZ
 f54:FnAt K "_law_straight" SR
 f55:FnAt K "_law_alike" wL
 f56:FnAt K "law" AM
 z1:PySem.W.nsIn K mainGlobals "isinstance" = some none
 z2:PySem.W.nsIn K mainGlobals "len" = some none
 z3:PySem.W.nsIn K mainGlobals "int" = some none
 z4:PySem.W.nsIn K mainGlobals "bool" = some none
 z5:PySem.W.nsIn K mainGlobals "tuple" = some none
 z6:PySem.W.nsIn K mainGlobals "list" = some none
 z7:PySem.W.nsIn K mainGlobals "abs" = some none
 z8:PySem.W.nsIn K mainGlobals "range" = some none
 z9:PySem.W.nsIn K mainGlobals "sum" = some none
 z10:PySem.W.nsIn K mainGlobals "zip" = some none
 z11:PySem.W.nsIn K mainGlobals "sorted" = some none
 z12:PySem.W.nsIn K mainGlobals "max" = some none
 z13:PySem.W.nsIn K mainGlobals "enumerate" = some none
 z14:PySem.W.nsIn K mainGlobals "reversed" = some none
 z15:PySem.W.nsIn K mainGlobals "dict" = some none
 z16:PySem.W.nsIn K mainGlobals "all" = some none
 z17:PySem.W.nsIn K mainGlobals "any" = some none
 z18:PySem.W.nsIn K mainGlobals "str" = some none
 v1:IntAt K "LONG_BITS" 8000
 v2:IntAt K "MOST_LETTERS" 4
 v3:IntAt K "MOST_DEGREE" 16
 v4:IntAt K "MOST_TERMS" 500
 v5:IntAt K "PACK" 256
 v6:IntAt K "SHORT_BITS" 1500
 n1:PrAt K "NOUGHT_sums" 0 1
 n2:PrAt K "NOUGHT_pieces" 0 1
 n3:PrAt K "ONE_pieces" 1 1
 n4:PrAt K "NOUGHT_turned" 0 1
 n5:PrAt K "ONE_turned" 1 1
 n6:PrAt K "ONE_rows" 1 1
 kd:KdAt p K
 bg:BgAt K "TOO_LONG"
end Lw
theorem Lw.comb{α β γ δ:Type}{o:Option α}{f1 f2:α->Option β}{g:β->γ}{k:β->δ}{x:γ}{y1 y2:δ}(S:o.bind f1=o.bind f2)(V:y1=y2)(a:(o.bind f1).map g=some x)(b:(o.bind f1).map k=some y1):o.map (λs=>((f1 s).map λs=>(g s,k s),(f2 s).map λs=>(g s,k s)))=some (some (x,y1),some (x,y2)):=by
 cases o with
 | none=>cases a
 | some s=>
  have S:f1 s=f2 s:=S;have a:(f1 s).map g=some x:=a;have b:(f1 s).map k=some y1:=b;have one:(f1 s).map (λs=>(g s,k s))=some (x,y1):=by
   cases e:f1 s with
   | none=>rw[e]at a;cases a
   | some u=>
    rw[e]at a b;have a:some (g u)=some x:=a;have b:some (k u)=some y1:=b;show some (g u,k u)=_;rw[Option.some.inj a,Option.some.inj b]
  show some ((f1 s).map λs=>(g s,k s),(f2 s).map λs=>(g s,k s))=_;rw[<-S,<-V,one]
theorem Lw.join{β:Type}{o:Option β}{T1 T2 T3 T4 T5 T6 T7 T8 T9:Type}{a:β->T1}{b:β->T2}{c:β->T3}{d:β->T4}{e:β->T5}{f:β->T6}{g:β->T7}{h:β->T8}{i:β->T9}{a':T1}{b':T2}{c':T3}{d':T4}{e':T5}{f':T6}{g':T7}{h':T8}{i':T9}(x:o.map (λs=>(a s,b s,c s))=some (a',b',c'))(y:o.map (λs=>(d s,e s,f s,g s,h s,i s))=some (d',e',f',g',h',i')):o.map (λs=>(a s,b s,c s,d s,e s,f s,g s,h s,i s))=some (a',b',c',d',e',f',g',h',i'):=by
 cases o with
 | none=>cases x
 | some s=>
  have x:some (a s,b s,c s)=some (a',b',c'):=x;have y:some (d s,e s,f s,g s,h s,i s)=some (d',e',f',g',h',i'):=y;have x:=Option.some.inj x;have y:=Option.some.inj y;show some (a s,b s,c s,d s,e s,f s,g s,h s,i s)=_;rw[(Prod.mk.inj x).1,(Prod.mk.inj (Prod.mk.inj x).2).1,(Prod.mk.inj (Prod.mk.inj x).2).2,y]
section
open PySem PySem.W PyProof.Rows
namespace Lw
def view87:Program:={ PySem.Challenge.pw_lowwater_k87_rows_handed_by_names with main:={ PySem.Challenge.pw_lowwater_k87_rows_handed_by_names.main with body:=([1,2,3,4,6,7,8,9,10,11,12,13,14,15,16,18,19,20,21,22,23,24,25,26,27,28,29,30,31,32,33,34,35,36,37,38,39,41,42,43,44,45,46,47,48,49,51,52,53,54,55,56,57,58,59,60,61,63,64,65,66,67,68,69,70,71,72,73,74,75,77,78,79,80,81,82,83]:List Nat).filterMap λi=>PySem.Challenge.pw_lowwater_k87_rows_handed_by_names.main.body[i]? } }
end Lw
set_option maxRecDepth 100000 in
set_option maxHeartbeats 0 in
theorem Lw.lookA(w:World):((fencedOpening treeTable PySem.Challenge.pw_lowwater_k87_rows_handed_by_names w 6094).bind λs₀=>topFrom treeTable PySem.Challenge.pw_lowwater_k87_rows_handed_by_names (w.withFollow "special-get-raises" false) 6094 s₀).map (λs=>(Fast.tw5160383126252970620 (R.mapR (λx=>x.name) (Fast.tw3399658132070893891 Lw.view87)) (Fast.tw5991557255702980513 Lw.view87) [] { heap:=s.heap,drawn:=s.drawn,toks:=s.toks,os:=s.os },s.heap.bltView,(Fast.tw10880121769531294198 s.heap (Fast.tw821141287760084731 Lw.view87 [Str.ofString "LowwaterError",Str.ofString "TOO_LONG",Str.ofString "KINDS"]) (R.mapR (λx=>x.name) (Fast.tw3399658132070893891 Lw.view87)) (R.mapR (λx=>x.fst) (Fast.tw7409074990110511671 Lw.view87)) (R.mapR (λx=>x.name) (Fast.tw13664370479719496447 Lw.view87 (Fast.tw821141287760084731 Lw.view87 [Str.ofString "LowwaterError",Str.ofString "TOO_LONG",Str.ofString "KINDS"])))&&Fast.tw14722251495701143533 s.heap (importedModules (PySem.Challenge.pw_lowwater_k87_rows_handed_by_names).main.body)&&s.heap.isNs mainGlobals&&s.heap.isNs builtinsNs&&Fast.tw10994771534591457954 Lw.view87 s.heap&&(λs=>xlAt Lw.view87 [] s&&recOk (RowW.records (PySem.Challenge.rw_lowwater_k87_rows_handed_by_names).row.toRowW) s) s&&if true=true then s.gens.size==0 else !leftWithCleanup s.gens)))=some (expectedOf Lw.view87,bltViewBooted,true):=by
 unfold fencedOpening topFrom;rw[PySem.W.Fast.te10274390034422433532,PySem.W.Fast.te14082659384304107361,PySem.W.Fast.te1435165496053646825,PySem.W.Fast.te14289696077712309145,PySem.W.Fast.te8920871248978507458,PySem.W.Fast.te14364793385576792824];kernel_rfl
set_option maxRecDepth 100000 in
set_option maxHeartbeats 0 in
theorem Lw.lookB(w:World):((fencedOpening treeTable PySem.Challenge.pw_lowwater_k87_rows_handed_by_names w 6094).bind λs₀=>topFrom treeTable PySem.Challenge.pw_lowwater_k87_rows_handed_by_names (w.withFollow "special-get-raises" false) 6094 s₀).map (λs=>(Fast.tw479339242167458305 Lw.view87 s,Fast.tw16090120013241838585 Lw.view87 (Fast.tw3247288618530077131 Lw.view87) s,Fast.tw2386780881361962483 Lw.view87 (Fast.tw821141287760084731 Lw.view87 [Str.ofString "LowwaterError",Str.ofString "TOO_LONG",Str.ofString "KINDS"]) s,Fast.tw11698064438423848299 Lw.view87 [Str.ofString "LowwaterError",Str.ofString "TOO_LONG",Str.ofString "KINDS"] s,Fast.tw7317090234206586261 Lw.view87 s,Fast.tw7369524293546568484 Lw.view87 [Str.ofString "LowwaterError",Str.ofString "TOO_LONG",Str.ofString "KINDS"] s))=some (true,pinGoodD (drecsOf Lw.view87),plainGoodE Lw.view87 (looseW Lw.view87 [Str.ofString "LowwaterError",Str.ofString "TOO_LONG",Str.ofString "KINDS"]),plainGoodD Lw.view87 [Str.ofString "LowwaterError",Str.ofString "TOO_LONG",Str.ofString "KINDS"],wideGood Lw.view87,clsGoodW Lw.view87 [Str.ofString "LowwaterError",Str.ofString "TOO_LONG",Str.ofString "KINDS"]):=by
 unfold fencedOpening topFrom;rw[PySem.W.Fast.te10274390034422433532,PySem.W.Fast.te14082659384304107361,PySem.W.Fast.te1435165496053646825,PySem.W.Fast.te14289696077712309145,PySem.W.Fast.te8920871248978507458,PySem.W.Fast.te14364793385576792824];kernel_rfl
set_option maxRecDepth 100000 in
set_option maxHeartbeats 0 in
theorem Lw.sameR(w:World):((fencedOpening treeTable PySem.Challenge.pw_lowwater_k87_rows_handed_by_names w 6094).bind λs₀=>topFrom treeTable PySem.Challenge.pw_lowwater_k87_rows_handed_by_names (w.withFollow "special-get-raises" false) 6094 s₀)=((fencedOpening treeTable PySem.Challenge.pw_lowwater_k87_rows_handed_by_names w 6094).bind λs₀=>topFrom treeTable PySem.Challenge.pw_lowwater_k87_rows_handed_by_names (w.withFollow "special-get-raises" true) 6094 s₀):=by
 unfold fencedOpening topFrom;rw[PySem.W.Fast.te10274390034422433532,PySem.W.Fast.te14082659384304107361,PySem.W.Fast.te1435165496053646825,PySem.W.Fast.te14289696077712309145,PySem.W.Fast.te8920871248978507458,PySem.W.Fast.te14364793385576792824];kernel_rfl
set_option maxRecDepth 100000 in
set_option maxHeartbeats 0 in
theorem Lw.look(w:World):((fencedOpening treeTable PySem.Challenge.pw_lowwater_k87_rows_handed_by_names w 6094).bind λs₀=>topFrom treeTable PySem.Challenge.pw_lowwater_k87_rows_handed_by_names (w.withFollow "special-get-raises" false) 6094 s₀).map (λs=>openSeen Lw.view87 [Str.ofString "LowwaterError",Str.ofString "TOO_LONG",Str.ofString "KINDS"] (importedModules (PySem.Challenge.pw_lowwater_k87_rows_handed_by_names).main.body) (λs=>xlAt Lw.view87 [] s&&recOk (RowW.records (PySem.Challenge.rw_lowwater_k87_rows_handed_by_names).row.toRowW) s) true s)=some (openGood Lw.view87 [Str.ofString "LowwaterError",Str.ofString "TOO_LONG",Str.ofString "KINDS"]):=by
 rw[PySem.W.Fast.te4187177175401517315];exact Lw.join (Lw.lookA w) (Lw.lookB w)
set_option maxRecDepth 100000 in
set_option maxHeartbeats 0 in
theorem Lw.said:OpenLaw.wellSaid PySem.Challenge.rw_lowwater_k87_rows_handed_by_names=true:=by kernel_rfl
local macro_rules | `(tactic| o_law)=>`(tactic| refine holds_law Lw.said λsaid=>?_)
local macro_rules | `(tactic| o_head $H)=>`(tactic| refine holds_open (q:=Lw.view87) (loose:=[Str.ofString "LowwaterError",Str.ofString "TOO_LONG",Str.ofString "KINDS"]) (Xt:=λs=>xlAt Lw.view87 [] s&&recOk (RowW.records (PySem.Challenge.rw_lowwater_k87_rows_handed_by_names).row.toRowW) s) (XP:=XL Lw.view87 []) (Yf:=Hook.obs $H) (Ya:=Hook.val $H) (YP:=Hook.says $H) (N:=6094) (LeftO.of_split "special-get-raises" λw=>Lw.comb (Lw.sameR w) (by rfl) (Lw.look w) (by unfold fencedOpening topFrom;rw[PySem.W.Fast.te10274390034422433532,PySem.W.Fast.te14082659384304107361,PySem.W.Fast.te1435165496053646825,PySem.W.Fast.te14289696077712309145,PySem.W.Fast.te8920871248978507458,PySem.W.Fast.te14364793385576792824];kernel_rfl)) (Hook.of $H) (Hook.keeps $H) (λs e=>xl_of s (Bool.and_eq_true_iff.mp e).1) XL.keeps (by rfl) (by rfl) (by rfl) (λs e=>recFacts_of (Bool.and_eq_true_iff.mp e).2) (by rfl) (by first | assumption | decide +kernel) (by decide +kernel) ⟨rfl,rfl,rfl,rfl,rfl,by decide +kernel⟩ ?hw ?hc)
set_option maxRecDepth 100000 in
set_option maxHeartbeats 0 in
theorem Lw.head(hn:∀(K:Params->Frag) (YP:World->Heap->Prop) (d:DefRec),(∀p,Lw.Facts p (K p))->(∀w h,YP w h->(K w.params).In h)->d.params.defaults=[]->d.name="law"->WalkO Lw.view87 [Str.ofString "LowwaterError",Str.ofString "TOO_LONG",Str.ofString "KINDS"] (XL Lw.view87 []) YP PySem.Challenge.rw_lowwater_k87_rows_handed_by_names.row.toRowW d [] λf vs=>PySem.call f vs):PySem.Challenge.rw_lowwater_k87_rows_handed_by_names.Holds:=by
 w_on;o_law;k_head;(case hw=>w_witness2)
 k_fill
 refine hn _ _ _ ?f (λw h Y=>kIn_of Y) rfl rfl;case f=>
  intro p;constructor;case kd=>
   refine' .mk ?a ?l ?m0 ?m1 ?m2 ?m3 ?m4 ?e0 ?e1 ?e2 ?e3 ?e4 ?s
   (case a=>first | k_is | rfl | decide +kernel)
   (case l=>first | k_is | rfl | decide +kernel)
   (case m0=>first | k_is | rfl | decide +kernel)
   (case m1=>first | k_is | rfl | decide +kernel)
   (case m2=>first | k_is | rfl | decide +kernel)
   (case m3=>first | k_is | rfl | decide +kernel)
   (case m4=>first | k_is | rfl | decide +kernel)
   (case e0=>first | k_is | rfl | decide +kernel)
   (case e1=>first | k_is | rfl | decide +kernel)
   (case e2=>first | k_is | rfl | decide +kernel)
   (case e3=>first | k_is | rfl | decide +kernel)
   (case e4=>first | k_is | rfl | decide +kernel)
   (case s=>first | k_is | rfl | decide +kernel)
  case bg=>
   refine' .mk ?a ?b
   (case a=>k_is)
   (case b=>first | rfl | decide +kernel)
  all_goals first | (refine' .mk ?a ?l ?c ?k;(case a=>k_is);(case l=>k_is);(case c=>k_is);(case k=>k_is)) | (refine' .mk ?a ?l;(case a=>k_is);(case l=>k_is)) | (refine' .mk ?v;(case v=>k_is)) | k_is
end
namespace L2
open PySem PySem.Spec PyProof.Rows
abbrev Key:=Sum Int Str
def EO:Key->Value->Bool
 | .inl k,v=>Value.isInt k v
 | .inr x,v=>Value.isStrOf x v
def keyH(w:World):Key->Int
 | .inl k=>hashInt k
 | .inr x=>hashStr w x
theorem kX:∀{k:Key} {v:Value},EO k v=true->(∃i t,k=Sum.inl i/\v=Value.int i t)∨(∃x t,k=Sum.inr x/\v=Value.str x t)
 | .inl i,v,h=>by
  obtain⟨t,e⟩:=Value.isInt_shape (k:=i) (v:=v) h;exact .inl ⟨i,t,rfl,e⟩
 | .inr x,v,h=>by
  obtain⟨t,e⟩:=Value.isStrOf_shape (x:=x) (v:=v) h;exact .inr ⟨x,t,rfl,e⟩
theorem QK(i:Int)(t:Tok):EO (.inl i) (.int i t)=true:=by simp [EO,Value.isInt]
theorem QJ(x:Str)(t:Tok):EO (.inr x) (.str x t)=true:=by simp [EO,Value.isStrOf]
theorem key_ll(a b:Int):decide ((Sum.inl a:Key)=Sum.inl b)=(a==b):=by
 by_cases e:a=b
 ·subst e;simp
 ·have h:¬(Sum.inl a:Key)=Sum.inl b:=λq=>e (Sum.inl.inj q);rw[hW h];exact(beq_eq_false_iff_ne.mpr e).symm
theorem key_rr(a b:Str):decide ((Sum.inr a:Key)=Sum.inr b)=decide (a=b):=by
 by_cases e:a=b
 ·subst e;simp
 ·have h:¬(Sum.inr a:Key)=Sum.inr b:=λq=>e (Sum.inr.inj q);rw[hW h,hW e]
theorem key_lr(a:Int)(b:Str):decide ((Sum.inl a:Key)=Sum.inr b)=false:=hW (λq=>nomatch q)
theorem key_rl(a:Str)(b:Int):decide ((Sum.inr a:Key)=Sum.inl b)=false:=hW (λq=>nomatch q)
def kE(prog:Program)(w:World):PySem.KeyKind prog w Key where
 is:=EO
 hash:=keyH w
 inj:=λv a b ha hb=>by
  rcases kX ha with⟨i,t,rfl,rfl⟩ | ⟨x,t,rfl,rfl⟩
  ·rcases kX hb with⟨j,u,rfl,e⟩ | ⟨y,u,rfl,e⟩
   ·injection e with e1 _;rw[e1]
   ·exact nomatch e
  ·rcases kX hb with⟨j,u,rfl,e⟩ | ⟨y,u,rfl,e⟩
   ·exact nomatch e
   ·injection e with e1 _;rw[e1]
 byValue:=λk v h=>by
  rcases kX h with⟨i,t,rfl,rfl⟩ | ⟨x,t,rfl,rfl⟩<;>rfl
 pyHash:=λhv h=>by
  rcases kX hv with⟨i,t,rfl,rfl⟩ | ⟨x,t,rfl,rfl⟩
  ·exact wpAny_pyHash_int h
  ·exact wpAny_pyHash_str h
 eqBool:=λhu hv h=>by
  rcases kX hu with⟨i,t,rfl,rfl⟩ | ⟨x,t,rfl,rfl⟩
  ·rcases kX hv with⟨j,u,rfl,rfl⟩ | ⟨y,u,rfl,rfl⟩
   ·rw[key_ll]at h;exact wpAny_eqBool_int h
   ·rw[key_lr]at h;exact SeqAt.EqAt.int_str i t y u _ _ _ _ h
  ·rcases kX hv with⟨j,u,rfl,rfl⟩ | ⟨y,u,rfl,rfl⟩
   ·rw[key_rl]at h;exact SeqAt.EqAt.str_int x t j u _ _ _ _ h
   ·rw[key_rr]at h;exact wpAny_eqBool_str h
 «strs» :=λk x t v h=>by
  rcases kX h with⟨i,u,rfl,e⟩ | ⟨y,u,rfl,e⟩
  ·exact nomatch e
  ·injection e with e1 _
   subst e1;cases v<;>rfl
theorem JN(prog:Program)(w:World)(i:Int)(t:Tok):(kE prog w).is (.inl i) (.int i t)=true:=QK i t
theorem JM(prog:Program)(w:World)(x:Str)(t:Tok):(kE prog w).is (.inr x) (.str x t)=true:=QJ x t
inductive V where
 | non | bl (b:Bool) | int (i:Int) | str (x:Str) | byt (b:Array UInt8) | flt (b:UInt64) | ref (a:Addr) | ty (n:String)
 deriving DecidableEq
def RelV:V->Value->Prop
 | .non,u=>u=Value.none
 | .bl b,u=>u=Value.bool b
 | .int i,u=>∃t,u=Value.int i t
 | .str x,u=>∃t,u=Value.str x t
 | .byt b,u=>∃t,u=Value.bytes b t
 | .flt b,u=>∃t,u=Value.float b t
 | .ref a,u=>u=Value.ref a
 | .ty n,u=>u=Value.type n
abbrev Vals:List V->List Value->Prop:=Paired RelV
theorem Vals.length{xs:List V}{us:List Value}(r:Vals xs us):xs.length=us.length:=Paired.length r
theorem Vals.get:∀{xs:List V} {us:List Value} {i:Nat} {x:V},Vals xs us->xs[i]? = some x->∃u,us[i]? = some u/\RelV x u
 | _,_,_,_,.nil,e=>by simp at e
 | _,_,0,_,.cons r _,e=>by simp at e;subst e;exact⟨_,rfl,r⟩
 | _,_,i+1,x,.cons _ t,e=>by
  obtain⟨u,h1,h2⟩:=Vals.get (i:=i) (x:=x) t (by simpa using e);exact⟨u,by simpa using h1,h2⟩
theorem Vals.set{x:V}{u:Value}(r:RelV x u):∀{xs:List V} {us:List Value} (i:Nat),Vals xs us->Vals (xs.set i x) (us.set i u)
 | _,_,_,.nil=>.nil
 | _,_,0,.cons _ t=>.cons r t
 | _,_,i+1,.cons q t=>.cons q (Vals.set r i t)
theorem Vals.append:∀{xs ys:List V} {us ws:List Value},Vals xs us->Vals ys ws->Vals (xs++ys) (us++ws)
 | _,_,_,_,.nil,s=>s
 | _,_,_,_,.cons r t,s=>.cons r (Vals.append t s)
theorem Vals.take:∀{xs:List V} {us:List Value} (n:Nat),Vals xs us->Vals (xs.take n) (us.take n)
 | _,_,0,_=>.nil
 | _,_,_+1,.nil=>.nil
 | _,_,n+1,.cons r t=>.cons r (Vals.take n t)
theorem Vals.drop:∀{xs:List V} {us:List Value} (n:Nat),Vals xs us->Vals (xs.drop n) (us.drop n)
 | _,_,0,r=>r
 | _,_,_+1,.nil=>.nil
 | _,_,n+1,.cons _ t=>Vals.drop n t
def RelO:Option V->Option Value->Prop
 | some v,some u=>RelV v u
 | none,none=>True
 | _,_=>False
def KV{κ:Type} :List (κ×V)->List (κ×Value)->Prop:=Paired λ(p:κ×V) (q:κ×Value)=>p.1=q.1/\RelV p.2 q.2
def kV:Key->V
 | .inl i=>.int i
 | .inr x=>.str x
inductive HO where
 | lst (xs:List V)
 | tup (xs:List V)
 | dK (ag:List (Key×V)) | dT (ag:List (List Key×V))
 | set (S:Int->Bool) (n:Nat)
 | ins (C dx:Addr) (fs:List (Str×V))
 | own (x:Addr)
 | xd (fs:List (Str×V))
 | met (f x:Addr)
 | rng (lo hi:Int)
 | frz (o:Obj) (u:HO)
 | tbl (ps:Array Value)
 | ext (φ:Heap->Prop)
abbrev Hp:=Addr->Option HO
def upd(H:Hp)(a:Addr)(o:HO):Hp:=λb=>if b=a then some o else H b
theorem jI{H:Hp}{a:Addr}{o:HO} :upd H a o a=some o:=by unfold upd;rw[nH rfl]
theorem jL{H:Hp}{a b:Addr}{o:HO}(h:b≠a):upd H a o b=H b:=by unfold upd;rw[nG h]
theorem ne_of{H:Hp}{a b:Addr}{o u:HO}(h:H a=some o)(h':H b=some u)(d:o≠u):a≠b:=by
 intro e;subst e;rw[h]at h';exact d (Option.some.inj h')
theorem jU{H:Hp}{a b:Addr}{o:HO}(h:H a=some o)(h':H b=none):a≠b:=by
 intro e;subst e;rw[h]at h';cases h'
def NoD(h:Heap)(a:Addr):Prop:=∀o,h.get? a=some o->o.dict=none
theorem NoD.of{h:Heap}{a:Addr}{o:Obj}(e:h.get? a=some o)(d:o.dict=none):NoD h a:=λo' e'=>by rw[e]at e';cases e';exact d
section
variable(P:Program)(w:World)
def ObjOk(H:Hp)(h:Heap)(a:Addr):HO->Prop
 | .lst xs=>xs.length<=sizeLine/\∃(its:List Value) (n:Nat),Vals xs its/\h.get? a=some { cls:=.type "list",data:=.seq its.toArray n }
 | .tup xs=>xs.length<=sizeLine/\∃its:List Value,Vals xs its/\IsTup h a its.toArray/\NoD h a
 | .dK ag=>ag.length<=sizeLine/\(a==sysModules)=false/\∃vs,KV ag vs/\h.DictOf (kE P w) a vs
 | .dT ag=>ag.length<=sizeLine/\(a==sysModules)=false/\∃xs:List (List Key×Addr×Value),
   Paired (λ(p:List Key×V) (q:List Key×Addr×Value)=>p.1=q.1/\H q.2.1=some (.tup (p.1.map kV))/\RelV p.2 q.2.2) ag xs/\
   ∃o es ep,h.get? a=some o/\o.ExactDict/\o.data=.dict es ep/\es.toList=xs.map (entryOfKey (tupleKind (kE P w)))/\(xs.map (·.1)).Nodup
 | .set S n=>h.SetOf (intKind P w) a S n
 | .ins C dx fs=>H dx=some (.own a)/\fs.length<=1000/\dx≠a/\h.get? a=some (PySem.W.instObj C dx)/\
   ∃mA,h.Ns1 dx mA/\(∀f,RelO (fs.lookup f) (mA f))/\PySem.Within mA (fs.map (·.1))
 | .own _=>∃o,h.get? a=some o
 | .xd fs=>∃mA,h.Ns1 a mA/\∀f,RelO (fs.lookup f) (mA f)
 | .rng lo hi=>∃t u v,h.get? a=some { cls:=.type "range",data:=.fields #[.int lo t,.int hi u,.int 1 v] }
 | .frz o u=>h.get? a=some o/\ObjOk H h a u
 | .tbl ps=>h.get? a=some { cls:=.none,data:=.fields ps }
 | .met f x=>h.get? a=some (PySem.W.methodObj (.ref f) (.ref x))
 | .ext φ=>φ h/\(∃o,h.get? a=some o)/\∀h1 h2:Heap,φ h1->(∀o,h1.get? a=some o->h2.get? a=some o)->φ h2
def HOk(H:Hp)(h:Heap):Prop:=∀a o,H a=some o->ObjOk P w H h a o
end
section
variable{P:Program}{w:World}{H H':Hp}{h h':Heap}{a:Addr}{o:HO}
theorem ObjOk.lt(x:ObjOk P w H h a o):a<h.objs.size:=by
 cases o with
 | lst xs=>obtain⟨_,_,_,_,e⟩:=x;exact mM e
 | tup xs=>obtain⟨_,_,_,p⟩:=x;exact p.1.lt
 | dK ag=>obtain⟨_,_,_,_,o,_,_,e,_⟩:=x;exact mM e
 | dT ag=>obtain⟨_,_,_,_,o,_,_,e,_⟩:=x;exact mM e
 | set S n=>obtain⟨o,_,_,_,e,_⟩:=x;exact mM e
 | ins C dx fs=>obtain⟨_,_,_,e,_⟩:=x;exact mM e
 | own y=>obtain⟨_,e⟩:=x;exact mM e
 | xd fs=>obtain⟨_,⟨_,_,_,e,_⟩,_⟩:=x;exact mM e
 | rng lo hi=>obtain⟨_,_,_,e⟩:=x;exact mM e
 | frz ob u=>obtain⟨e,_⟩:=x;exact mM e
 | tbl ps=>exact mM (show h.get? a=some _ from x)
 | met f y=>exact mM (show h.get? a=some _ from x)
 | ext φ=>obtain⟨_,⟨_,e⟩,_⟩:=x;exact mM e
theorem Paired.mapP{α β:Type}{F G:α->β->Prop} :∀{l₁:List α} {l₂:List β},Paired F l₁ l₂->(∀a b,F a b->G a b)->Paired G l₁ l₂
 | _,_,.nil,_=>.nil
 | _,_,.cons r t,f=>.cons (f _ _ r) (Paired.mapP t f)
theorem ObjOk.stay(x:ObjOk P w H h a o)(k:∀b u,(b=a∨H b=some (.own a))->h.get? b=some u->h'.get? b=some u)
  (ho:∀b,H b=some (.own a)->H' b=some (.own a)) (ht:∀b xs,H b=some (.tup xs)->H' b=some (.tup xs)):ObjOk P w H' h' a o:=by
 induction o with
 | lst xs=>obtain⟨z,its,n,r,e⟩:=x;exact⟨z,its,n,r,k _ _ (.inl rfl) e⟩
 | tup xs=>obtain⟨z,its,r,⟨ob,e,c⟩,nd⟩:=x;exact⟨z,its,r,⟨ob,k _ _ (.inl rfl) e,c⟩,.of (k _ _ (.inl rfl) e) (nd _ e)⟩
 | dK ag=>obtain⟨z,y,vs,r,ob,es,ep,e,c⟩:=x;exact⟨z,y,vs,r,ob,es,ep,k _ _ (.inl rfl) e,c⟩
 | dT ag=>
  obtain⟨z,y,xs,r,ob,es,ep,e,c⟩:=x;exact⟨z,y,xs,Paired.mapP r λp q z=>⟨z.1,ht _ _ z.2.1,z.2.2⟩,ob,es,ep,k _ _ (.inl rfl) e,c⟩
 | set S n=>obtain⟨ob,es,ep,t,e,c⟩:=x;exact⟨ob,es,ep,t,k _ _ (.inl rfl) e,c⟩
 | ins C dx fs=>
  obtain⟨d,z,ne,e,mA,⟨od,es,ep,e2,c⟩,r⟩:=x;exact⟨ho _ d,z,ne,k _ _ (.inl rfl) e,mA,⟨od,es,ep,k _ _ (.inr d) e2,c⟩,r⟩
 | own y=>obtain⟨ob,e⟩:=x;exact⟨ob,k _ _ (.inl rfl) e⟩
 | xd fs=>obtain⟨mA,⟨od,es,ep,e,c⟩,r⟩:=x;exact⟨mA,⟨od,es,ep,k _ _ (.inl rfl) e,c⟩,r⟩
 | rng lo hi=>obtain⟨t,u,v,e⟩:=x;exact⟨t,u,v,k _ _ (.inl rfl) e⟩
 | frz ob u ih=>obtain⟨e,q⟩:=x;exact⟨k _ _ (.inl rfl) e,ih q⟩
 | tbl ps=>
  have e:h.get? a=some { cls:=.none,data:=.fields ps } :=x;show h'.get? a=some { cls:=.none,data:=.fields ps };exact k a _ (.inl rfl) e
 | met f y=>
  have e:h.get? a=some (PySem.W.methodObj (.ref f) (.ref y)):=x;show h'.get? a=some (PySem.W.methodObj (.ref f) (.ref y));exact k a _ (.inl rfl) e
 | ext φ=>obtain⟨p,⟨o,e⟩,st⟩:=x;exact⟨st _ _ p λo q=>k _ _ (.inl rfl) q,⟨o,k _ _ (.inl rfl) e⟩,st⟩
theorem HOk.lt(x:HOk P w H h)(e:H a=some o):a<h.objs.size:=(x a o e).lt
theorem HOk.fresh(x:HOk P w H h)(e:h.objs.size<=a):H a=none:=by
 cases q:H a with
 | none=>rfl
 | some u=>exact absurd (gG (x.lt q) e) (mJ _)
theorem HOk.kept(x:HOk P w H h)(k:∀b u,h.get? b=some u->h'.get? b=some u):HOk P w H h':=λa o e=>
 (x a o e).stay (λb u _ q=>k b u q) (λ_ q=>q) λ_ _ q=>q
theorem HOk.laid(x:HOk P w H h)(k:∀b u,h.get? b=some u->h'.get? b=some u)(hp:h.objs.size<=a)(new:ObjOk P w (upd H a o) h' a o):HOk P w (upd H a o) h':=λb u e=>by
 have hn:=x.fresh hp;by_cases hb:b=a
 ·subst hb;rw[jI]at e;cases e;exact new
 ·rw[jL hb]at e;exact(x b u e).stay (λc v _ q=>k c v q) (λc q=>by rw[jL (jU q hn)];exact q) λc xs q=>by rw[jL (jU q hn)];exact q
end
def Rd(H:Hp)(a:Addr)(u:HO):Prop:=H a=some u∨∃o,H a=some (.frz o u)
theorem Rd.ok{P:Program}{w:World}{H:Hp}{h:Heap}{a:Addr}{u:HO}(r:Rd H a u)(x:HOk P w H h):ObjOk P w H h a u:=by
 rcases r with r | ⟨o,r⟩
 ·exact x a u r
 ·obtain⟨_,q⟩:=x a _ r;exact q
def Mut:Option HO->Prop
 | some (.lst _)=>True
 | some (.dK _)=>True
 | some (.dT _)=>True
 | some (.set _ _)=>True
 | some (.ins _ _ _)=>True
 | some (.ext _)=>True
 | _=>False
section
variable{P:Program}{w:World}{H:Hp}{h h':Heap}{x e:Addr}{o':HO}
theorem HOk.write(ok:HOk P w H h)(mu:Mut (H x))(he:e=x∨H e=some (.own x))(k:∀b u,b≠e->h.get? b=some u->h'.get? b=some u)(heo:∃u,h'.get? e=some u)
  (new:ObjOk P w (upd H x o') h' x o'):HOk P w (upd H x o') h':=λb u q=>by
 have nown:∀c y,H c=some (.own y)->c≠x:=λc y r z=>by subst z;rw[r]at mu;exact mu
 have ntup:∀c xs,H c=some (.tup xs)->c≠x:=λc xs r z=>by subst z;rw[r]at mu;exact mu
 by_cases hb:b=x
 ·subst hb;rw[jI]at q;cases q;exact new
 ·rw[jL hb]at q;by_cases hbe:b=e
  ·have q':H b=some (.own x):=by
    rcases he with z | z
    ·exact absurd (hbe.trans z) hb
    ·rw[hbe];exact z
   rw[q]at q';cases q';obtain⟨v,hv⟩:=heo;exact⟨v,by rw[hbe];exact hv⟩
  ·refine(ok b u q).stay (λc v hc r=>k c v ?_ r) (λc r=>by rw[jL (nown c b r)];exact r) λc xs r=>by rw[jL (ntup c xs r)];exact r
   rcases hc with rfl | hc
   ·exact hbe
   ·rintro rfl;rcases he with z | z
    ·exact nown c b hc z
    ·rw[hc]at z;cases z;exact hb rfl
end
structure Un(fs ex:List Addr)(H H':Hp)(h h':Heap):Prop where
 keep:∀b o,h.get? b=some o->H b=none->b∉fs->b∉ex->h'.get? b=some o
 slot:∀b o,h.get? b=some o->H b=none->b∈fs->b∉ex->∃sl,h'.get? b=some { o with slots:=sl }
 free:∀b o,h.get? b=some o->H b=none->b∉ex->H' b=none
 there:∀b o,h.get? b=some o->b∉ex->∃o',h'.get? b=some o'
 tups:∀b xs,H b=some (.tup xs)->H' b=some (.tup xs)
 frzs:∀b o u,H b=some (.frz o u)->H' b=some (.frz o u)
 tbls:∀b ps,H b=some (.tbl ps)->∃more,H' b=some (.tbl (ps++more))
section
variable{fs fs' ex ex':List Addr}{H H1 H2:Hp}{h h1 h2 h':Heap}{a x e:Addr}{o:HO}
theorem Un.any(u:Un fs ex H H1 h h1){b:Addr}{ob:Obj}(q:h.get? b=some ob)(n:H b=none)(hx:b∉ex):∃sl,h1.get? b=some { ob with slots:=sl } :=by
 by_cases hb:b∈fs
 ·exact u.slot b ob q n hb hx
 ·exact⟨ob.slots,u.keep b ob q n hb hx⟩
theorem Un.kept(k:∀b u,h.get? b=some u->h'.get? b=some u):Un fs ex H H h h':=
 ⟨λb ob q _ _ _=>k b ob q,λb ob q _ _ _=>⟨ob.slots,k b ob q⟩,λ_ _ _ n _=>n,λb ob q _=>⟨ob,k b ob q⟩,λ_ _ q=>q,λ_ _ _ q=>q,λ_ ps q=>⟨#[],by rw[q];simp⟩⟩
theorem Un.refl:Un fs ex H H h h:=Un.kept λ_ _ q=>q
theorem Un.laid(k:∀b u,h.get? b=some u->h'.get? b=some u)(hp:h.objs.size<=a)(hn:H a=none):Un fs ex H (upd H a o) h h' where
 keep:=λb u q _ _ _=>k b u q
 slot:=λb u q _ _ _=>⟨u.slots,k b u q⟩
 free:=λb u q n _=>by rw[jL (mO (gG (mM q) hp))];exact n
 there:=λb u q _=>⟨u,k b u q⟩
 tups:=λb xs q=>by rw[jL (jU q hn)];exact q
 frzs:=λb u xs q=>by rw[jL (jU q hn)];exact q
 tbls:=λb ps q=>⟨#[],by rw[jL (jU q hn),q];simp⟩
theorem Un.write(mu:Mut (H x))(he:e=x∨H e=some (.own x))(k:∀b u,b≠e->h.get? b=some u->h'.get? b=some u)(heo:∃u,h'.get? e=some u):Un fs ex H (upd H x o) h h':=by
 have hx:∀b,H b=none->b≠x:=λb n z=>by subst z;rw[n]at mu;exact mu
 have hb:∀b,H b=none->b≠e:=λb n z=>by
  subst z;rcases he with r | r
  ·exact hx b n r
  ·rw[n]at r;cases r
 have hm:∀b u,H b=some u->¬Mut (some u)->b≠x:=λb u q nm z=>by subst z;rw[q]at mu;exact nm mu
 refine⟨λb u q n _ _=>k b u (hb b n) q,λb u q n _ _=>⟨u.slots,k b u (hb b n) q⟩,λb u q n _=>by rw[jL (hx b n)];exact n,λb u q _=>?_,
  λb xs q=>by rw[jL (hm b _ q λz=>z)];exact q,λb u xs q=>by rw[jL (hm b _ q λz=>z)];exact q,λb ps q=>⟨#[],by rw[jL (hm b _ q λz=>z),q];simp⟩⟩
 by_cases hbe:b=e
 ·subst hbe;exact heo
 ·exact⟨u,k b u hbe q⟩
end
def trk(h:Heap)(H:Hp):List Addr:=(List.range h.objs.size).filter λa=>(H a).isSome
def IA(h:Heap)(H:Hp):Heap:=PySem.W.hideAll h (trk h H)
theorem QO(h:Heap)(H:Hp):(IA h H).objs.size=h.objs.size:=PySem.W.hideAll_size _ _
theorem VQ{h:Heap}{H:Hp}{b:Addr}{o:Obj}(e:h.get? b=some o)(n:H b=none):(IA h H).get? b=some o:=
 PySem.W.hideAll_get _ e λhm=>by
  have q:(H b).isSome=true:=(List.mem_filter.mp hm).2;rw[n]at q;simp at q
theorem YX{h:Heap}{H:Hp}{b:Addr}{o:Obj}(e:(IA h H).get? b=some o):h.get? b=some o/\H b=none:=by
 have e':h.get? b=some o:=PySem.W.of_hideAll (trk h H) e;refine⟨e', ?_⟩;cases q:H b with
 | none=>rfl
 | some x=>
  have hm:b∈trk h H:=List.mem_filter.mpr ⟨List.mem_range.mpr (mM e'),by simp [q]⟩;have z:(IA h H).get? b=none:=PySem.W.hideAll_none (trk h H) hm;rw[z]at e;cases e
def wB(g h:Heap)(L:Addr):List (Addr×Obj):=(List.range h.objs.size).filterMap λa=>if a=L∨(g.get? a).isSome=true then none else(h.get? a).map λo=>(a,o)
theorem BG{g h:Heap}{L a:Addr}{o:Obj}(h1:a≠L)(h2:g.get? a=none)(h3:h.get? a=some o):(a,o)∈wB g h L:=
 List.mem_filterMap.mpr ⟨a,List.mem_range.mpr (mM h3),by simp [h1,h2,h3]⟩
theorem EI{g h:Heap}{L:Addr}{p:Addr×Obj}(hp:p∈wB g h L):p.1≠L/\g.get? p.1=none/\h.get? p.1=some p.2:=by
 obtain⟨b,_,e⟩:=List.mem_filterMap.mp hp;split at e
 ·cases e
 ·rename_i hn;cases q:h.get? b with
  | none=>rw[q]at e;simp at e
  | some u=>
   rw[q]at e;simp only[Option.map_some,Option.some.injEq]at e;subst e;refine⟨λz=>hn (.inl z), ?_,q⟩;show g.get? b=none;cases r:g.get? b with
   | none=>rfl
   | some v=>exact(hn (.inr (by simp [r]))).elim
theorem UT{g h:Heap}{L:Addr} :News g L h (wB g h L):=λp hp=>let ⟨a,b,c⟩:=EI hp;⟨c,a,b⟩
structure Mod(K:nI)(mg:Str->Option Value)(base:Heap):Prop where
 kin:K.In base
 glob:base.Ns mainGlobals mg
 blt:∃mb,base.Ns builtinsNs mb/\∀x:Str,x≠"__name__"->mb x=bootBuiltins x
 nolimit:base.NoLimit
structure Cx where
 prog:Program
 w:World
 K:nI
 mg:Str->Option Value
 base:Heap
 A:Around
 N:List Str
 s₀:Shared
 H₀:Hp
 env:Env
 outer:List Env
 stack:List Env
 ex:List Addr
 fn:Str->Bool
 calm:Bool
 pn:List (Addr×Obj)
 xe:Value->Shared->Prop
def frs(l:List Env):List Addr:=l.filterMap (·.frame)
abbrev Cx.fs(X:Cx):List Addr:=frs X.outer
def Vis(sc:Scope)(x:Str):Prop:=sc.names.lookup x=some .local∨sc.names.lookup x=some .cell∨sc.names.lookup x=some .free
def Loc(sc:Scope)(x:Str):Prop:=sc.names.lookup x=some .local∨sc.names.lookup x=some .cell
def Look(env:Env)(h:Heap)(m:Str->Option Value)(x:Str)(u:Value):Prop:=
 (env.kindOf x=some .local/\m x=some u)∨((env.kindOf x=some .cell∨env.kindOf x=some .free)/\∃c,env.cells.lookup x=some c/\h.IsCell c (some u))
structure Cx.Ok(X:Cx):Prop where
 mod:Mod X.K X.mg X.base
 kind:X.env.scope.kind=.function
 glob:X.env.globals=mainGlobals
 blt:X.env.builtins=builtinsNs
 above:X.s₀.heap.objs.size<=X.env.locals
 inj:∀x y c,X.env.cells.lookup x=some c->X.env.cells.lookup y=some c->x=y
 has:∀x,(X.env.kindOf x=some .cell∨X.env.kindOf x=some .free)->∃c,X.env.cells.lookup x=some c
 cab:∀x c,X.fn x=true->X.env.cells.lookup x=some c->X.s₀.heap.objs.size<=c
 hd:X.calm=true->X.A.handled=none
 frames:X.A.frames=some X.stack
 stk:X.stack=X.outer∨(X.stack=X.env::X.outer/\X.env.frame=some X.env.locals)
 exf:∀b∈X.ex,b≠X.env.locals/\∀x c,X.env.cells.lookup x=some c->c≠b
 bs:∀b o,X.base.get? b=some o->X.s₀.heap.get? b=some o/\X.H₀ b=none
 bsz:X.base.objs.size<=X.s₀.heap.objs.size
 noex:∀b o,X.base.get? b=some o->b∉X.ex
 exfs:∀b∈X.ex,b∉X.fs
 funs:X.s₀.heap.FunFrames X.base X.outer
 frf:∀b∈X.fs,X.H₀ b=none
structure Inv(X:Cx)(ac:List (Addr×Obj))(σ:List (Option V))(H:Hp)(s:Shared):Prop where
 ok:X.Ok
 os:s.os=X.s₀.os
 bare:AllBare s.gens
 base:Un X.fs X.ex X.H₀ H X.s₀.heap s.heap
 loc:∃m,s.heap.Ns X.env.locals m/\∀(i:Nat) (x:Str) (v:V),X.N[i]? = some x->σ[i]? = some (some v)->Vis X.env.scope x->∃u,RelV v u/\Look X.env s.heap m x u
 cell:∀x c,X.env.cells.lookup x=some c->∃v,s.heap.IsCell c v
 free:H X.env.locals=none
 freeC:∀x c,X.env.cells.lookup x=some c->H c=none
 pin:∀p∈X.pn++ac,s.heap.get? p.1=some p.2/\H p.1=none/\p.1≠X.env.locals/\p.1∉X.fs/\∀v,p.2.data≠.cell v
 hok:HOk X.prog X.w H s.heap
 len:σ.length=X.N.length
section
variable{X:Cx}{ac:List (Addr×Obj)}{σ:List (Option V)}{H H':Hp}{s:Shared}{h':Heap}
theorem Cx.Ok.nofr(ok:X.Ok){b:Addr}{o:Obj}(e:X.base.get? b=some o):b∉X.fs:=λhb=>by
 have:=(ok.funs.mem hb).1;rw[e]at this;cases this
theorem Inv.bs(I:Inv X ac σ H s):∀b o,X.base.get? b=some o->s.heap.get? b=some o/\H b=none:=λb o e=>
 ⟨I.base.keep b o (I.ok.bs b o e).1 (I.ok.bs b o e).2 (I.ok.nofr e) (I.ok.noex b o e),I.base.free b o (I.ok.bs b o e).1 (I.ok.bs b o e).2 (I.ok.noex b o e)⟩
theorem Inv.bk(I:Inv X ac σ H s):∀b o,X.base.get? b=some o->s.heap.get? b=some o:=λb o e=>(I.bs b o e).1
theorem Inv.mod(I:Inv X ac σ H s):Mod X.K X.mg X.base:=I.ok.mod
theorem Inv.kIn(I:Inv X ac σ H s):X.K.In s.heap:=I.ok.mod.kin.keeps I.bk
theorem Inv.fr(I:Inv X ac σ H s):∃m,Fr X.base X.env.locals s.heap m:=
 let ⟨m,hn,_⟩:=I.loc
 ⟨m,hn,I.bk,mN I.ok.bsz I.ok.above⟩
theorem Inv.lt(I:Inv X ac σ H s):X.env.locals<s.heap.objs.size:=let ⟨_,hn,_⟩:=I.loc;hn.lt
theorem Inv.sz(I:Inv X ac σ H s):X.s₀.heap.objs.size<=s.heap.objs.size:=mN I.ok.above (mT I.lt)
theorem Inv.nofs(I:Inv X ac σ H s){a:Addr}(h:s.heap.objs.size<=a):a∉X.fs:=λhb=>by
 obtain⟨_,o,ho,_⟩:=I.ok.funs.mem hb;exact absurd (gG (mM ho) (mN I.sz h)) (mJ _)
theorem Inv.cne(I:Inv X ac σ H s):∀x c,X.env.cells.lookup x=some c->c≠X.env.locals:=λx c e z=>by
 obtain⟨v,o,ho,hd⟩:=I.cell x c e;obtain⟨m,⟨o',es,ep,ho',hd',_⟩,_⟩:=I.loc;rw[z,ho']at ho;cases ho;rw[hd']at hd;cases hd
theorem Inv.funs(I:Inv X ac σ H s):s.heap.FunFrames X.base X.outer:=by
 have all:∀(l:List Env),(∀b∈frs l,b∈X.fs)->X.s₀.heap.FunFrames X.base l->s.heap.FunFrames X.base l:=by
  intro l;induction l with
  | nil=>intro _ _;trivial
  | cons env r ih=>
   intro hs hl;obtain⟨hk,⟨L,o,hf,hn,ho,hd⟩,hr⟩:=hl;have hL:L∈X.fs:=hs L (by unfold frs;rw[List.filterMap_cons,hf];exact gJ);obtain⟨sl,e⟩:=I.base.slot L o ho (I.ok.frf L hL) hL λz=>I.ok.exfs L z hL;exact⟨hk,⟨L,_,hf,hn,e,hd⟩,ih (λb hb=>hs b (by unfold frs;rw[List.filterMap_cons,hf];exact uX _ hb)) hr⟩
 exact all X.outer (λ_ hb=>hb) I.ok.funs
theorem Inv.stack(I:Inv X ac σ H s):s.heap.FunFrames X.base X.stack:=by
 rcases I.ok.stk with e | ⟨e,hf⟩
 ·rw[e];exact I.funs
 ·rw[e];obtain⟨m,hn,_⟩:=I.loc;refine .cons (by rw[I.ok.kind];decide) hf hn ?_ I.funs;exact Heap.get?_none_of_le (mN I.ok.bsz I.ok.above)
theorem Inv.stkSub(I:Inv X ac σ H s):∀b∈frs X.stack,b∈X.env.locals::X.fs:=λb hb=>by
 rcases I.ok.stk with e | ⟨e,hf⟩
 ·rw[e]at hb;exact uX _ hb
 ·rw[e]at hb;unfold frs at hb;rw[List.filterMap_cons,hf]at hb;exact hb
theorem Inv.stkFree(I:Inv X ac σ H s):∀b∈frs X.stack,H b=none:=λb hb=>by
 rcases mI.mp (I.stkSub b hb)with e | hb
 ·rw[e];exact I.free
 ·obtain⟨_,o,ho,_⟩:=I.ok.funs.mem hb;exact I.base.free b o ho (I.ok.frf b hb) λz=>I.ok.exfs b z hb
theorem Inv.step{g':Array GenState}{t':Nat}{d':Drawn}{ch:List Addr}(I:Inv X ac σ H s)
  (hch:∀b∈ch,(b∈X.ex∨X.s₀.heap.objs.size<=b)/\b≠X.env.locals/\(∀x c,X.env.cells.lookup x=some c->c≠b)/\∀p∈X.pn++ac,p.1≠b)
  (keep:∀b o,b≠X.env.locals->b∉X.fs->b∉ch->s.heap.get? b=some o->H b=none->h'.get? b=some o)
  (slot:∀b o,b≠X.env.locals->b∈X.fs->b∉ch->s.heap.get? b=some o->H b=none->∃sl,h'.get? b=some { o with slots:=sl }) (free:∀b o,b∉ch->s.heap.get? b=some o->H b=none->H' b=none)
  (there:∀b o,b∉ch->s.heap.get? b=some o->∃o',h'.get? b=some o')
  (tups:∀b xs,H b=some (.tup xs)->H' b=some (.tup xs)) (frzs:∀b o u,H b=some (.frz o u)->H' b=some (.frz o u)) (tbls:∀b ps,H b=some (.tbl ps)->∃more,H' b=some (.tbl (ps++more)))
  (ns:∀m,s.heap.Ns X.env.locals m->h'.Ns X.env.locals m) (hok:HOk X.prog X.w H' h') (hg:AllBare g') :
  Inv X ac σ H' { s with heap:=h',gens:=g',drawn:=d',toks:=t' } :=by
 have neL:∀b o,X.s₀.heap.get? b=some o->b≠X.env.locals:=λb o e=>mO (gG (mM e) I.ok.above);have neC:∀b o,X.s₀.heap.get? b=some o->b∉X.ex->b∉ch:=λb o e hx hb=>by
  rcases(hch b hb).1 with z | z
  ·exact hx z
  ·exact absurd (gG (mM e) z) (mJ _)
 have cellK:∀x c,X.env.cells.lookup x=some c->∀v,s.heap.IsCell c v->h'.IsCell c v:=λx c e v ⟨o,ho,hd⟩=>by
  have nch:c∉ch:=λz=>(hch c z).2.2.1 x c e rfl;by_cases hc:c∈X.fs
  ·obtain⟨sl,q⟩:=slot c o (I.cne x c e) hc nch ho (I.freeC x c e);exact⟨_,q,hd⟩
  ·exact⟨o,keep c o (I.cne x c e) hc nch ho (I.freeC x c e),hd⟩
 refine⟨I.ok,I.os,hg,⟨λb o e n hb hx=>?_,λb o e n hb hx=>?_,λb o e n hx=>?_,λb o e hx=>?_,λb xs e=>tups b xs (I.base.tups b xs e),λb o xs e=>frzs b o xs (I.base.frzs b o xs e),λb ps e=>?_⟩, ?_,λx c e=>?_, ?_,λx c e=>?_,λp hp=>?_,hok,I.len⟩
 ·exact keep b o (neL b o e) hb (neC b o e hx) (I.base.keep b o e n hb hx) (I.base.free b o e n hx)
 ·obtain⟨sl,e1⟩:=I.base.slot b o e n hb hx;obtain⟨sl',e2⟩:=slot b _ (neL b o e) hb (neC b o e hx) e1 (I.base.free b o e n hx);exact⟨sl',e2⟩
 ·obtain⟨o',e1⟩:=I.base.there b o e hx;exact free b o' (neC b o e hx) e1 (I.base.free b o e n hx)
 ·obtain⟨o',e1⟩:=I.base.there b o e hx;exact there b o' (neC b o e hx) e1
 ·obtain⟨m1,e1⟩:=I.base.tbls b ps e;obtain⟨m2,e2⟩:=tbls b _ e1;exact⟨m1++m2,by rw[e2,Array.append_assoc]⟩
 ·obtain⟨m,hn,hl⟩:=I.loc;refine⟨m,ns m hn,λi x v e1 e2 e3=>?_⟩;obtain⟨u,r,l⟩:=hl i x v e1 e2 e3;refine⟨u,r, ?_⟩;rcases l with l | ⟨k,c,e,z⟩
  ·exact .inl l
  ·exact .inr ⟨k,c,e,cellK x c e _ z⟩
 ·obtain⟨v,z⟩:=I.cell x c e;exact⟨v,cellK x c e v z⟩
 ·obtain⟨m,⟨o,_,_,ho,_⟩,_⟩:=I.loc;exact free _ o (λz=>(hch _ z).2.1 rfl) ho I.free
 ·obtain⟨v,o,ho,hd⟩:=I.cell x c e;exact free c o (λz=>(hch c z).2.2.1 x c e rfl) ho (I.freeC x c e)
 ·obtain⟨e,n,ne,nf,d⟩:=I.pin p hp;have nch:p.1∉ch:=λz=>(hch p.1 z).2.2.2 p hp rfl;exact⟨keep p.1 p.2 ne nf nch e n,free p.1 p.2 nch e n,ne,nf,d⟩
theorem Inv.un{t':Nat}(I:Inv X ac σ H s)(u:Un X.fs [] H H' s.heap h')(hok:HOk X.prog X.w H' h'):Inv X ac σ H' { s with heap:=h',toks:=t' } :=by
 obtain⟨m,⟨o,es,ep,ho,r⟩,_⟩:=id I.loc;obtain⟨sl,hL⟩:=u.any ho I.free (by simp);exact I.step (g':=s.gens) (d':=s.drawn) (ch:=[]) (λ_ z=>nomatch z) (λb o _ hb _ e n=>u.keep b o e n hb (by simp)) (λb o _ hb _ e n=>u.slot b o e n hb (by simp)) (λb o _ e n=>u.free b o e n (by simp)) (λb o _ e=>u.there b o e (by simp)) u.tups u.frzs u.tbls (λm' hm=>by
  obtain⟨o',es',ep',ho',r'⟩:=hm;rw[ho]at ho';cases ho';exact⟨_,es',ep',hL,r'⟩) hok I.bare
theorem Inv.call{g':Array GenState}{t':Nat}{d':Drawn}{ch:List Addr}(I:Inv X ac σ H s)(u:Un (frs X.stack) ch H H' s.heap h')(hok:HOk X.prog X.w H' h')(hg:AllBare g')
  (hch:∀b∈ch,(b∈X.ex∨X.s₀.heap.objs.size<=b)/\b≠X.env.locals/\(∀x c,X.env.cells.lookup x=some c->c≠b)/\∀p∈X.pn++ac,p.1≠b) :
  Inv X ac σ H' { s with heap:=h',gens:=g',drawn:=d',toks:=t' } :=by
 obtain⟨m,⟨o,es,ep,ho,r⟩,_⟩:=id I.loc;obtain⟨sl,hL⟩:=u.any ho I.free λz=>(hch _ z).2.1 rfl;exact I.step (ch:=ch) hch (λb o hL hb hc e n=>u.keep b o e n (λz=>(mI.mp (I.stkSub b z)).elim hL hb) hc) (λb o _ _ hc e n=>u.any e n hc) (λb o hc e n=>u.free b o e n hc) (λb o hc e=>u.there b o e hc) u.tups u.frzs u.tbls (λm' hm=>by
  obtain⟨o',es',ep',ho',r'⟩:=hm;rw[ho]at ho';cases ho';exact⟨_,es',ep',hL,r'⟩) hok hg
theorem Inv.turned{t':Nat}{it:Addr}(I:Inv X ac σ H s)(k:∀b o,b≠it->s.heap.get? b=some o->h'.get? b=some o)(hn:H it=none)(hL:it≠X.env.locals)
  (h1:it∈X.ex∨X.s₀.heap.objs.size<=it) (h2:∀x c,X.env.cells.lookup x=some c->c≠it) (h3:∀p∈X.pn++ac,p.1≠it):Inv X ac σ H { s with heap:=h',toks:=t' } :=by
 have nit:∀b u,H b=some u->b≠it:=λb u e z=>by rw[z,hn]at e;cases e
 refine I.step (g':=s.gens) (d':=s.drawn) (ch:=[it]) (λb hb=>?_) (λb o _ _ hc e _=>k b o (λz=>hc (by simp [z])) e) (λb o _ _ hc e _=>⟨o.slots,k b o (λz=>hc (by simp [z])) e⟩) (λ_ _ _ _ n=>n)
  (λb o hc e=>⟨o,k b o (λz=>hc (by simp [z])) e⟩) (λ_ _ e=>e) (λ_ _ _ e=>e) (λb ps e=>⟨#[],by rw[e];simp⟩) (λm hm=>?_) (λb u e=>?_) I.bare
 ·have e:b=it:=by simpa using hb
  subst e;exact⟨h1,hL,h2,h3⟩
 ·obtain⟨o,es,ep,ho,r⟩:=hm;exact⟨o,es,ep,k _ o (Ne.symm hL) ho,r⟩
 ·refine(I.hok b u e).stay (λc v hc q=>k c v ?_ q) (λ_ q=>q) λ_ _ q=>q;rcases hc with z | z
  ·rw[z];exact nit b u e
  ·exact nit c _ z
theorem Inv.tok(I:Inv X ac σ H s)(t:Nat):Inv X ac σ H { s with toks:=t } :=I.un (h':=s.heap) (t':=t) Un.refl I.hok
theorem Inv.kept{t':Nat}(I:Inv X ac σ H s)(k:∀b u,s.heap.get? b=some u->h'.get? b=some u):Inv X ac σ H { s with heap:=h',toks:=t' } :=I.un (Un.kept k) (I.hok.kept k)
theorem Inv.laid{a:Addr}{o:HO}{t':Nat}(I:Inv X ac σ H s)(k:∀b u,s.heap.get? b=some u->h'.get? b=some u)(hp:s.heap.objs.size<=a)(new:ObjOk X.prog X.w (upd H a o) h' a o) :
  Inv X ac σ (upd H a o) { s with heap:=h',toks:=t' } :=I.un (Un.laid k hp (I.hok.fresh hp)) (I.hok.laid k hp new)
theorem Inv.write{x e:Addr}{o:HO}{t':Nat}(I:Inv X ac σ H s)(mu:Mut (H x))(he:e=x∨H e=some (.own x))(k:∀b u,b≠e->s.heap.get? b=some u->h'.get? b=some u)(heo:∃u,h'.get? e=some u)
  (new:ObjOk X.prog X.w (upd H x o) h' x o):Inv X ac σ (upd H x o) { s with heap:=h',toks:=t' } :=I.un (Un.write mu he k heo) (I.hok.write mu he k heo new)
theorem Inv.weak{σ':List (Option V)}(I:Inv X ac σ H s)(hl:σ'.length=σ.length)(w:∀(i:Nat) v,σ'[i]? = some (some v)->σ[i]? = some (some v)):Inv X ac σ' H s:=
 ⟨I.ok,I.os,I.bare,I.base,let ⟨m,hn,hl'⟩:=I.loc;⟨m,hn,λi x v e1 e2 e3=>hl' i x v e1 (w i v e2) e3⟩,I.cell,I.free,I.freeC,I.pin,I.hok,hl.trans I.len⟩
theorem Inv.pins_of{pins':List (Addr×Obj)}(I:Inv X ac σ H s)(h:∀p∈pins',s.heap.get? p.1=some p.2/\H p.1=none/\p.1≠X.env.locals/\p.1∉X.fs/\∀v,p.2.data≠.cell v):Inv X pins' σ H s:=
 ⟨I.ok,I.os,I.bare,I.base,I.loc,I.cell,I.free,I.freeC,λp hp=>(mB.mp hp).elim (λz=>I.pin p (List.mem_append_left _ z)) (h p),I.hok,I.len⟩
theorem JH{N:List Str}(hN:N.Nodup){i j:Nat}{x:Str}(a:N[i]? = some x)(b:N[j]? = some x):i=j:=by
 obtain⟨h1,e1⟩:=uQ.mp a;obtain⟨h2,e2⟩:=uQ.mp b;exact(List.getElem_inj hN).mp (e1.trans e2.symm)
theorem FI{M:Model}{A:Around}{E:Value->Shared->Prop}{i:Nat}{x:Str}{v:V}{u:Value}{Q:Unit->Shared->Prop}(I:Inv X ac σ H s)(hN:X.N.Nodup)(hi:X.N[i]? = some x)(hx:Loc X.env.scope x)(r:RelV v u)
  (h:∀s',Inv X ac (σ.set i (some v)) H s'->(∃a,Heap.SameBut a s.heap s'.heap/\(a=X.env.locals∨X.env.cells.lookup x=some a))->Q () s') (hf:X.fn x=true∨X.env.scope.names.lookup x=some .local:=by first | exact .inl rfl | exact .inr rfl | assumption):wpAny M A (storeName X.env x u) Q E s:=by
 obtain⟨m,hn,hl⟩:=id I.loc;have hcls:(X.env.scope.kind==.class||(X.env.scope.kind==.module&&X.env.locals != X.env.globals))=false:=by rw[I.ok.kind];rfl
 have hiσ:i<σ.length:=by rw[I.len];exact(uQ.mp hi).1
 have cne:=I.cne;have tracked:∀{a:Addr} {h':Heap},(∃o,s.heap.get? a=some o/\H a=none)->Heap.SameBut a s.heap h'->HOk X.prog X.w H h':=fun {a h'} ha hs b ob e=>by
  obtain⟨_,_,hfree⟩:=ha;refine(I.hok b ob e).stay (λc w' hc q=>(hs.2 c ?_).trans q) (λ_ q=>q) λ_ _ q=>q;rintro rfl;rcases hc with rfl | hc
  ·rw[hfree]at e;cases e
  ·rw[hfree]at hc;cases hc
 rcases hx with hk | hk
 ·refine wpAny_storeName_local hk hn (λh' hn' hs=>?_) hcls;obtain⟨oL,_,_,hoL,_⟩:=id hn;refine h _ ⟨I.ok,I.os,I.bare,⟨λb o e n hb hx=>?_,λb o e n hb hx=>?_,I.base.free,λb o e hx=>?_,I.base.tups,I.base.frzs,I.base.tbls⟩,⟨_,hn',λj y v' e1 e2 e3=>?_⟩,λy c e=>?_,I.free,I.freeC,λp hp=>?_,tracked ⟨oL,hoL,I.free⟩ hs,by simpa using I.len⟩ ⟨_,hs,.inl rfl⟩
  ·exact(hs.2 b (mO (gG (mM e) I.ok.above))).trans (I.base.keep b o e n hb hx)
  ·obtain⟨sl,e1⟩:=I.base.slot b o e n hb hx;exact⟨sl,(hs.2 b (mO (gG (mM e) I.ok.above))).trans e1⟩
  ·obtain⟨o',e1⟩:=I.base.there b o e hx;exact⟨o',(hs.2 b (mO (gG (mM e) I.ok.above))).trans e1⟩
  ·by_cases hj:j=i
   ·subst hj;rw[hi]at e1;cases e1;rw[List.getElem?_set_self hiσ]at e2;cases e2;exact⟨u,r,.inl ⟨hk,by simp⟩⟩
   ·rw[List.getElem?_set_ne (Ne.symm hj)]at e2;obtain⟨u',r',q⟩:=hl j y v' e1 e2 e3;refine⟨u',r', ?_⟩;rcases q with⟨k,e⟩ | ⟨k,c,e,z⟩
    ·refine .inl ⟨k, ?_⟩;have:y≠x:=λe=>hj (JH hN e1 (e▸hi));simp [this,e]
    ·exact .inr ⟨k,c,e,z.sameBut hs (cne y c e)⟩
  ·obtain⟨w',z⟩:=I.cell y c e;exact⟨w',z.sameBut hs (cne y c e)⟩
  ·obtain⟨e,n,ne,nf,d⟩:=I.pin p hp;exact⟨(hs.2 p.1 ne).trans e,n,ne,nf,d⟩
 ·have hfn:X.fn x=true:=by
   rcases hf with z | z
   ·exact z
   ·rw[z]at hk;cases hk
  obtain⟨c,hc⟩:=I.ok.has x (.inl hk);obtain⟨w',z⟩:=I.cell x c hc;refine wpAny_storeName_cell I.ok.kind hk hc z (λh' hc' hs=>?_);obtain⟨oc,hoc,hocd⟩:=id z;refine h { s with heap:=h' } ⟨I.ok,I.os,I.bare,⟨λb o e n hb hx=>?_,λb o e n hb hx=>?_,I.base.free,λb o e hx=>?_,I.base.tups,I.base.frzs,I.base.tbls⟩,⟨m,hn.sameBut hs (Ne.symm (cne x c hc)),λj y v' e1 e2 e3=>?_⟩,λy c' e=>?_,I.free,I.freeC,λp hp=>?_,tracked ⟨oc,hoc,I.freeC x c hc⟩ hs,by simpa using I.len⟩ ⟨c,hs,.inr hc⟩
  ·exact(hs.2 b (mO (gG (mM e) (I.ok.cab x c hfn hc)))).trans (I.base.keep b o e n hb hx)
  ·obtain⟨sl,e1⟩:=I.base.slot b o e n hb hx;exact⟨sl,(hs.2 b (mO (gG (mM e) (I.ok.cab x c hfn hc)))).trans e1⟩
  ·obtain⟨o',e1⟩:=I.base.there b o e hx;exact⟨o',(hs.2 b (mO (gG (mM e) (I.ok.cab x c hfn hc)))).trans e1⟩
  ·by_cases hj:j=i
   ·subst hj;rw[hi]at e1;cases e1;rw[List.getElem?_set_self hiσ]at e2;cases e2;exact⟨u,r,.inr ⟨.inl hk,c,hc,hc'⟩⟩
   ·rw[List.getElem?_set_ne (Ne.symm hj)]at e2;obtain⟨u',r',q⟩:=hl j y v' e1 e2 e3;refine⟨u',r', ?_⟩;rcases q with q | ⟨k,c',e,z'⟩
    ·exact .inl q
    ·refine .inr ⟨k,c',e,z'.sameBut hs ?_⟩;rintro rfl;exact hj (JH hN e1 (I.ok.inj _ _ _ e hc▸hi))
  ·by_cases hcc:c'=c
   ·subst hcc;exact⟨_,hc'⟩
   ·obtain⟨w2,z2⟩:=I.cell y c' e;exact⟨w2,z2.sameBut hs hcc⟩
  ·obtain⟨e,n,ne,nf,d⟩:=I.pin p hp;refine⟨(hs.2 p.1 ?_).trans e,n,ne,nf,d⟩;intro q;rw[q,hoc]at e;have q':oc=p.2:=Option.some.inj e;exact d w' (by rw[<-q'];exact hocd)
theorem wU{M:Model}{A:Around}{E:Value->Shared->Prop}{i:Nat}{x:Str}{v:V}{u:Value}{Q:Unit->Shared->Prop}(I:Inv X ac σ H s)(hN:X.N.Nodup)(hi:X.N[i]? = some x)(hx:Loc X.env.scope x)(r:RelV v u)
  (h:∀s',Inv X ac (σ.set i (some v)) H s'->Q () s') (hf:X.fn x=true∨X.env.scope.names.lookup x=some .local:=by first | exact .inl rfl | exact .inr rfl | assumption):wpAny M A (storeName X.env x u) Q E s:=
 FI I hN hi hx r (λs' I' _=>h s' I') hf
theorem Inv.call'{s':Shared}{ch:List Addr}(I:Inv X ac σ H s)(ho:s'.os=s.os)(u:Un (frs X.stack) ch H H' s.heap s'.heap)(hok:HOk X.prog X.w H' s'.heap)(hg:AllBare s'.gens)
  (hch:∀b∈ch,(b∈X.ex∨X.s₀.heap.objs.size<=b)/\b≠X.env.locals/\(∀x c,X.env.cells.lookup x=some c->c≠b)/\∀p∈X.pn++ac,p.1≠b):Inv X ac σ H' s':=by
 obtain⟨h',g',d',t',o'⟩:=s';have e:o'=s.os:=ho;subst e;exact I.call (g':=g') (t':=t') (d':=d') u hok hg hch
end
abbrev XK:=Value->Option Addr->Hp->Prop
abbrev St:=List (Option V)
abbrev VK:=V->Hp->Prop
abbrev TE:=St->Hp->VK->Prop
abbrev TT:=St->Hp->(Bool->Hp->Prop)->Prop
abbrev TA:=St->Hp->(List V->Hp->Prop)->Prop
structure Ends where
 nx:St->Hp->Prop
 rt:VK
 bk:St->Hp->Prop:=λ_ _=>False
 ct:St->Hp->Prop:=λ_ _=>False
abbrev TS:=Ends->St->Hp->Prop
def EP(X:Cx)(ac:List (Addr×Obj))(σ:St)(Q:VK)(u:Value)(s':Shared):Prop:=∃v H',Inv X ac σ H' s'/\RelV v u/\Q v H'
def TP(X:Cx)(ac:List (Addr×Obj))(σ:St)(Q:Bool->Hp->Prop)(b:Bool)(s':Shared):Prop:=∃H',Inv X ac σ H' s'/\Q b H'
def AP(X:Cx)(ac:List (Addr×Obj))(σ:St)(Q:List V->Hp->Prop)(us:List Value)(s':Shared):Prop:=∃vs H',Inv X ac σ H' s'/\Vals vs us/\Q vs H'
def SP(X:Cx)(ac:List (Addr×Obj))(D:Ends)(f:Flow)(s':Shared):Prop:=
 match f with
 | .next=>∃σ' H',Inv X ac σ' H' s'/\D.nx σ' H'
 | .brk=>∃σ' H',Inv X ac σ' H' s'/\D.bk σ' H'
 | .cont=>∃σ' H',Inv X ac σ' H' s'/\D.ct σ' H'
 | .ret u=>∃v σ' H',Inv X ac σ' H' s'/\RelV v u/\D.rt v H'
def PE(X:Cx)(e:Expr)(t:TE):Prop:=
 ∀(ac:List (Addr×Obj)) (s:Shared) (σ:St) (H:Hp) (Q:VK),Inv X ac σ H s->t σ H Q->wpAny (model X.prog X.w) X.A (eval e X.env) (EP X ac σ Q) X.xe s
def PT(X:Cx)(e:Expr)(t:TT):Prop:=
 ∀(ac:List (Addr×Obj)) (s:Shared) (σ:St) (H:Hp) (Q:Bool->Hp->Prop),Inv X ac σ H s->t σ H Q->wpAny (model X.prog X.w) X.A (isTrue e X.env (eval e X.env)) (TP X ac σ Q) X.xe s
def PW(X:Cx)(e:Expr)(t:TT):Prop:=
 ∀(whole:Sem Value) (ac:List (Addr×Obj)) (s:Shared) (σ:St) (H:Hp) (Q:Bool->Hp->Prop),Inv X ac σ H s->t σ H Q->wpAny (model X.prog X.w) X.A (isTrue e X.env whole) (TP X ac σ Q) X.xe s
theorem PW.pt{X:Cx}{e:Expr}{t:TT}(h:PW X e t):PT X e t:=h _
def PA(X:Cx)(es:List Expr)(t:TA):Prop:=
 ∀(pos:Pos) (ac:List (Addr×Obj)) (s:Shared) (σ:St) (H:Hp) (Q:List V->Hp->Prop),Inv X ac σ H s->t σ H Q->wpAny (model X.prog X.w) X.A (spliced (backTo pos (starEach es X.env))) (AP X ac σ Q) X.xe s
def PS(X:Cx)(st:Stmt)(t:TS):Prop:=
 ∀(ac:List (Addr×Obj)) (s:Shared) (σ:St) (H:Hp) (D:Ends),Inv X ac σ H s->t D σ H->wpAny (model X.prog X.w) X.A (exec st X.env) (SP X ac D) X.xe s
def PSs(X:Cx)(st:List Stmt)(t:TS):Prop:=
 ∀(ac:List (Addr×Obj)) (s:Shared) (σ:St) (H:Hp) (D:Ends),Inv X ac σ H s->t D σ H->wpAny (model X.prog X.w) X.A (execs st X.env) (SP X ac D) X.xe s
theorem thn{α:Type}{t:Sem α}{Q Q':α->Shared->Prop}{M:Model}{A:Around}{E:Value->Shared->Prop}{s:Shared}(h:wpAny M A t Q E s)(hQ:∀a s,Q a s->Q' a s):wpAny M A t Q' E s:=nF h hQ λ_ _ x=>x
section
variable{X:Cx}
theorem bin{a b:Expr}{ta tb:TE}(ha:PE X a ta)(hb:PE X b tb){ac:List (Addr×Obj)}{s:Shared}{σ:St}{H:Hp}{R:V->V->Hp->Prop}(I:Inv X ac σ H s)(h:ta σ H λx H1=>tb σ H1 λy H2=>R x y H2)
  {α:Type} {Q:α->Shared->Prop} {f:Value->Value->Sem α}
  (hf:∀v u s2 x y H2,Inv X ac σ H2 s2->RelV x v->RelV y u->R x y H2->wpAny (model X.prog X.w) X.A (f v u) Q X.xe s2) :
  wpAny (model X.prog X.w) X.A (eval a X.env) (λv s₁=>wpAny (model X.prog X.w) X.A (eval b X.env) (λu s₂=>wpAny (model X.prog X.w) X.A (f v u) Q X.xe s₂) X.xe s₁) X.xe s:=by
 refine thn (ha ac s σ H _ I h) λv s1 ⟨x,H1,I1,r1,q1⟩=>?_;refine thn (hb ac s1 σ H1 _ I1 q1) λu s2 ⟨y,H2,I2,r2,q2⟩=>?_;exact hf v u s2 x y H2 I2 r1 r2 q2
def KZ(i:Nat):TE:=fun σ H Q=>∃v,σ[i]? = some (some v)/\Q v H
def tC(v:V):TE:=λ_ H Q=>Q v H
theorem TN{i:Nat}{x:Str}{pos:Pos}(hN:X.N[i]? = some x)(hv:Vis X.env.scope x)(hd:(x==("__debug__" :Str))=false:=by decide)(hcd:(x==("__classdict__" :Str))=false:=by decide):PE X (.Name x pos) (KZ i):=by
 intro ac s σ H Q I h;obtain⟨v,e,h⟩:=h;obtain⟨m,hn,hl⟩:=I.loc;obtain⟨u,r,l⟩:=hl i x v hN e hv;have fin:EP X ac σ Q u s:=⟨v,H,I,r,h⟩;rcases l with⟨hk,hm⟩ | ⟨hk,c,hc,hcell⟩
 ·exact wpAny_Name (wpAny_loadName_local I.ok.kind hk hn hm fin) hd
 ·rcases hk with hk | hk
  ·exact wpAny_Name (wpAny_loadName_cell I.ok.kind hk hc hcell fin) hd
  ·exact wpAny_Name (wpAny_loadName_free I.ok.kind hk hc hcell fin hcd) hd
theorem jF{i j pos} :PE X (.Constant (.int i) j pos) (tC (.int i)):=λ_ _ _ H _ I h=>wpAny_Constant_int ⟨.int i,H,I.tok _,⟨_,rfl⟩,h⟩
theorem xQ{b j pos} :PE X (.Constant (.bool b) j pos) (tC (.bl b)):=λ_ _ _ H _ I h=>Constant_bool ⟨.bl b,H,I,rfl,h⟩
theorem AQ{j pos} :PE X (.Constant .none j pos) (tC .non):=λ_ _ _ H _ I h=>Constant_none ⟨.non,H,I,rfl,h⟩
theorem vO{x j pos} :PE X (.Constant (.str x) j pos) (tC (.str x)):=λ_ _ _ H _ I h=>Calls.Constant_str ⟨.str x,H,I.tok _,⟨_,rfl⟩,h⟩
def Gl(X:Cx)(x:Str):Prop:=X.env.kindOf x=some .globalImplicit
theorem HW{E:Value->Shared->Prop}{ac:List (Addr×Obj)}{s:Shared}{σ:St}{H:Hp}{x:Str}{u:Value}{pos:Pos}{Q:Value->Shared->Prop}(I:Inv X ac σ H s)(hg:Gl X x)(hm:X.mg x=some u)(h:Q u s)
  (hd:(x==("__debug__" :Str))=false:=by decide):wpAny (model X.prog X.w) X.A (eval (.Name x pos) X.env) Q E s:=
 Calls.Name_function_global I.ok.kind hg (Calls.loadGlobal_global (by rw[I.ok.glob];exact I.mod.glob.keeps I.bk) hm h) hd
theorem xZ{E:Value->Shared->Prop}{ac:List (Addr×Obj)}{s:Shared}{σ:St}{H:Hp}{x:Str}{u:Value}{pos:Pos}{Q:Value->Shared->Prop}(I:Inv X ac σ H s)(hg:Gl X x)(hm:X.mg x=none)(hv:bootBuiltins x=some u)(h:Q u s)
  (hn:x≠"__name__":=by decide) (hd:(x==("__debug__" :Str))=false:=by decide):wpAny (model X.prog X.w) X.A (eval (.Name x pos) X.env) Q E s:=by
 obtain⟨mb,h1,h2⟩:=I.mod.blt;exact Calls.Name_function_global I.ok.kind hg (Calls.loadGlobal_builtin (by rw[I.ok.glob];exact I.mod.glob.keeps I.bk) hm (by rw[I.ok.blt];exact h1.keeps I.bk) ((h2 x hn).trans hv) h) hd
theorem kL{x:Str}{v:V}{u:Value}{pos:Pos}(hg:Gl X x)(hm:X.mg x=some u)(r:RelV v u)(hd:(x==("__debug__" :Str))=false:=by decide):PE X (.Name x pos) (tC v):=
 λ_ _ _ H _ I h=>HW I hg hm ⟨v,H,I,r,h⟩ hd
theorem NK{x:Str}{v:V}{u:Value}{pos:Pos}(hg:Gl X x)(hm:X.mg x=none)(hv:bootBuiltins x=some u)(r:RelV v u)(hn:x≠"__name__":=by decide)(hd:(x==("__debug__" :Str))=false:=by decide):PE X (.Name x pos) (tC v):=
 λ_ _ _ H _ I h=>xZ I hg hm hv ⟨v,H,I,r,h⟩ hn hd
variable{a b:Expr}{ta tb:TE}{pos:Pos}
def PC(X:Cx)(op:CmpOp)(a b:Expr)(t:TE):Prop:=
 ∀(ac:List (Addr×Obj)) (s:Shared) (σ:St) (H:Hp) (Q:VK),Inv X ac σ H s->t σ H Q->
  wpAny (model X.prog X.w) X.A (eval a X.env) (λv s₁=>wpAny (model X.prog X.w) X.A (eval b X.env) (λu s₂=>wpAny (model X.prog X.w) X.A (compareOp op v u) (EP X ac σ Q) X.xe s₂) X.xe s₁) X.xe s
theorem US(b:Expr){op:CmpOp}(h:op≠.In)(h2:op≠.NotIn):behindInMarks op b=false:=by
 have e1:(op==CmpOp.In)=false:=by cases op<;>first | rfl | exact absurd rfl h
 have e2:(op==CmpOp.NotIn)=false:=by cases op<;>first | rfl | exact absurd rfl h2
 cases b<;>simp [behindInMarks,e1,e2]
def tIsN(ta:TE):TE:=fun σ H Q=>ta σ H λx H1=>Q (.bl (decide (x=.non))) H1
theorem RelV.none_iff{x:V}{v:Value}(r:RelV x v):(v==Value.none)=decide (x=.non):=by
 cases x with
 | non=>cases r;rfl
 | bl _=>cases r;rfl
 | int _=>obtain⟨t,rfl⟩:=r;rfl
 | str _=>obtain⟨t,rfl⟩:=r;rfl
 | byt _=>obtain⟨t,rfl⟩:=r;rfl
 | flt _=>obtain⟨t,rfl⟩:=r;rfl
 | ref _=>cases r;rfl
 | ty _=>cases r;rfl
theorem EC{j pos'}(ha:PE X a ta):PC X .Is a (.Constant .none j pos') (tIsN ta):=by
 intro ac s σ H Q I h;refine thn (ha ac s σ H _ I h) λv s1 ⟨x,H1,I1,r1,q1⟩=>?_;exact Constant_none (is_none_gen ⟨.bl _,H1,I1,by rw[r1.none_iff];rfl,q1⟩)
def tB(t:TE):TT:=fun σ H Q=>t σ H λx H1=>∃c,x=.bl c/\Q c H1
theorem AO{op:CmpOp}{t:TE}(h:PC X op a b t)(h1:behindInMarks op b=false:=by first | exact US _ (by decide) (by decide) | rfl):PT X (.Compare a [op] [b] pos) (tB t):=by
 intro ac s σ H Q I hw;refine wpAny_isTrue_Compare1 (thn (h ac s σ H _ I hw) λv s1 h1=>thn h1 λu s2 h2=>thn h2 λc s3 ⟨x,H1,I1,r1,q1⟩=>?_) h1;obtain⟨d,rfl,q⟩:=q1;cases r1;exact wpAny_truthy_bool ⟨H1,I1,q⟩
theorem kU{e:Expr}{t:TE}(h:PE X e t)(he:∀whole,isTrue e X.env whole=(do let v<-whole;standAt e.pos;holding [v] (truthy v)):=by intro _;rfl):PT X e (tB t):=by
 intro ac s σ H Q I hw;refine isTrue_plain (thn (h ac s σ H _ I hw) λv s1 ⟨x,H1,I1,r1,q1⟩=>?_) (he _);obtain⟨d,rfl,q⟩:=q1;cases r1;exact wpAny_truthy_bool ⟨H1,I1,q⟩
variable{tA tB':TT}{rest:List Expr}
def tOr(t u:TT):TT:=fun σ H Q=>t σ H λc H1=>if c=true then Q true H1 else u σ H1 Q
def tNot(t:TT):TT:=fun σ H Q=>t σ H λc H1=>Q (!c) H1
theorem vB(ha:PT X a tA):PW X (.BoolOp .Or [a] pos) tA:=by
 intro wh ac s σ H Q I h;refine isTrue_or (thn (ha ac s σ H Q I h) λc s1 e=>?_);cases c with
 | false=>exact isTrue_or_nil e
 | true=>exact e
theorem qU(ha:PT X a tA)(hb:PW X (.BoolOp .Or (b::rest) pos) tB'):PW X (.BoolOp .Or (a::b::rest) pos) (tOr tA tB'):=by
 intro wh ac s σ H Q I h;refine isTrue_or (thn (ha ac s σ H _ I h) λc s1 ⟨H1,I1,q1⟩=>?_);cases c with
 | true=>exact⟨H1,I1,q1⟩
 | false=>exact hb wh ac s1 σ H1 Q I1 q1
theorem kZ(ha:PT X a tA):PT X (.UnaryOp .Not a pos) (tNot tA):=by
 intro ac s σ H Q I h;exact isTrue_not (ha ac s σ H (λc H1=>Q (!c) H1) I h)
def tAndV(ta tb:TE):TE:=fun σ H Q=>ta σ H λx H1=>∃c,x=.bl c/\if c=true then tb σ H1 Q else Q (.bl false) H1
def tOrV(ta tb:TE):TE:=fun σ H Q=>ta σ H λx H1=>∃c,x=.bl c/\if c=true then Q (.bl true) H1 else tb σ H1 Q
def tNotV(ta:TE):TE:=fun σ H Q=>ta σ H λx H1=>∃c,x=.bl c/\Q (.bl (!c)) H1
theorem wM{op}{t:TE}(h:PE X a t):PE X (.BoolOp op [a] pos) t:=λac s σ H Q I hw=>BoolOp_one (h ac s σ H Q I hw)
theorem yL(ha:PE X a ta)(hb:PE X (.BoolOp .And (b::rest) pos) tb):PE X (.BoolOp .And (a::b::rest) pos) (tAndV ta tb):=by
 intro ac s σ H Q I h;refine BoolOp_and (thn (ha ac s σ H _ I h) λv s1 ⟨x,H1,I1,r1,q1⟩=>?_);obtain⟨c,rfl,q1⟩:=q1;cases r1;refine wpAny_truthy_bool ?_;cases c with
 | true=>exact hb ac s1 σ H1 Q I1 q1
 | false=>exact⟨.bl false,H1,I1,rfl,q1⟩
theorem pe_or(ha:PE X a ta)(hb:PE X (.BoolOp .Or (b::rest) pos) tb):PE X (.BoolOp .Or (a::b::rest) pos) (tOrV ta tb):=by
 intro ac s σ H Q I h;refine BoolOp_or (thn (ha ac s σ H _ I h) λv s1 ⟨x,H1,I1,r1,q1⟩=>?_);obtain⟨c,rfl,q1⟩:=q1;cases r1;refine wpAny_truthy_bool ?_;cases c with
 | false=>exact hb ac s1 σ H1 Q I1 q1
 | true=>exact⟨.bl true,H1,I1,rfl,q1⟩
theorem LL(ha:PE X a ta):PE X (.UnaryOp .Not a pos) (tNotV ta):=by
 intro ac s σ H Q I h;refine UnaryOp_ (thn (ha ac s σ H _ I h) λv s1 ⟨x,H1,I1,r1,q1⟩=>?_);obtain⟨c,rfl,q1⟩:=q1;cases r1;exact not_of (wpAny_truthy_bool ⟨.bl (!c),H1,I1,rfl,q1⟩)
end
def SqL(K:nI)(H:Hp)(a:Addr)(xs:List V):Prop:=
 Rd H a (.lst xs)∨
  ∃(o:Obj) (its:Array Value) (n:Nat),K.lookup a=some o/\o.cls=.type "list"/\o.dict=none/\o.data=.seq its n/\its.size<=sizeLine/\Vals xs its.toList
def SqT(K:nI)(H:Hp)(a:Addr)(xs:List V):Prop:=
 Rd H a (.tup xs)∨
  ∃(o:Obj) (its:Array Value) (n:Nat),K.lookup a=some o/\o.cls=.type "tuple"/\o.data=.seq its n/\its.size<=sizeLine/\Vals xs its.toList
def absV:Value->Option V
 | .none=>some .non
 | .bool b=>some (.bl b)
 | .int i _=>some (.int i)
 | .str x _=>some (.str x)
 | .bytes b _=>some (.byt b)
 | .float b _=>some (.flt b)
 | .ref a=>some (.ref a)
 | .type n=>some (.ty n)
 | _=>none
theorem RelV.abs{x:V}{u:Value}(r:RelV x u):absV u=some x:=by
 cases x with
 | non=>cases r;rfl
 | bl _=>cases r;rfl
 | int _=>obtain⟨t,rfl⟩:=r;rfl
 | str _=>obtain⟨t,rfl⟩:=r;rfl
 | byt _=>obtain⟨t,rfl⟩:=r;rfl
 | flt _=>obtain⟨t,rfl⟩:=r;rfl
 | ref _=>cases r;rfl
 | ty _=>cases r;rfl
theorem RelV.inj{x y:V}{u:Value}(r:RelV x u)(q:RelV y u):x=y:=Option.some.inj (r.abs.symm.trans q.abs)
theorem Vals.inj:∀{xs ys:List V} {us:List Value},Vals xs us->Vals ys us->xs=ys
 | _,_,_,.nil,.nil=>rfl
 | _,_,_,.cons r t,.cons r' t'=>by rw[r.inj r',Vals.inj t t']
section
variable{X:Cx}{ac:List (Addr×Obj)}{σ:St}{H:Hp}{s:Shared}{a:Addr}{xs ys:List V}
theorem SqL.of{K:nI}(h:H a=some (.lst xs)):SqL K H a xs:=.inl (.inl h)
theorem SqT.of{K:nI}(h:H a=some (.tup xs)):SqT K H a xs:=.inl (.inl h)
theorem Inv.list(I:Inv X ac σ H s)(h:SqL X.K H a xs):∃its:List Value,Vals xs its/\PlainL s.heap a its.toArray/\xs.length<=sizeLine:=by
 rcases h with h | ⟨o,its,n,hk,hc,hd,hs,hz,r⟩
 ·obtain⟨z,its,n,r,e⟩:=h.ok I.hok;exact⟨its,r,⟨_,n,e,rfl,rfl,rfl⟩,z⟩
 ·refine⟨its.toList,r,⟨o,n,I.kIn a o hk,hc,hd,by simpa using hs⟩, ?_⟩;have e:=r.length;simp only[Array.length_toList]at e;omega
theorem Inv.tuple(I:Inv X ac σ H s)(h:SqT X.K H a xs):∃its:List Value,Vals xs its/\IsTup s.heap a its.toArray/\xs.length<=sizeLine:=by
 rcases h with h | ⟨o,its,n,hk,hc,hs,hz,r⟩
 ·obtain⟨z,its,r,p⟩:=h.ok I.hok;exact⟨its,r,p.1,z⟩
 ·refine⟨its.toList,r,⟨o,I.kIn a o hk,hc,n,by simpa using hs⟩, ?_⟩;have e:=r.length;simp only[Array.length_toList]at e;omega
theorem Inv.list_inj(I:Inv X ac σ H s)(h:SqL X.K H a xs)(h':SqL X.K H a ys):xs=ys:=by
 obtain⟨its,r,⟨o,n,e,_,_,d⟩,_⟩:=I.list h;obtain⟨its',r',⟨o',n',e',_,_,d'⟩,_⟩:=I.list h';rw[e]at e';cases e';rw[d]at d';injection d' with d1 _
 have:its=its':=by simpa using congrArg Array.toList d1
 subst this;exact r.inj r'
theorem Inv.tuple_inj(I:Inv X ac σ H s)(h:SqT X.K H a xs)(h':SqT X.K H a ys):xs=ys:=by
 obtain⟨its,r,⟨o,e,_,n,d⟩,_⟩:=I.tuple h;obtain⟨its',r',⟨o',e',_,n',d'⟩,_⟩:=I.tuple h';rw[e]at e';cases e';rw[d]at d';injection d' with d1 _
 have:its=its':=by simpa using congrArg Array.toList d1
 subst this;exact r.inj r'
end
abbrev Cx.wish(X:Cx)(E:Value->Shared->Prop):Cx:={ X with xe:=E }
abbrev Cx.nox(X:Cx):Cx:=X.wish λ_ _=>False
theorem Cx.Ok.wish{X:Cx}(ok:X.Ok)(E:Value->Shared->Prop):(X.wish E).Ok:=
 ⟨ok.mod,ok.kind,ok.glob,ok.blt,ok.above,ok.inj,ok.has,ok.cab,ok.hd,ok.frames,ok.stk,ok.exf,ok.bs,ok.bsz,ok.noex,ok.exfs,ok.funs,ok.frf⟩
theorem Cx.Ok.unwish{X:Cx}{E:Value->Shared->Prop}(ok:(X.wish E).Ok):X.Ok:=
 ⟨ok.mod,ok.kind,ok.glob,ok.blt,ok.above,ok.inj,ok.has,ok.cab,ok.hd,ok.frames,ok.stk,ok.exf,ok.bs,ok.bsz,ok.noex,ok.exfs,ok.funs,ok.frf⟩
section
variable{X:Cx}{ac:List (Addr×Obj)}{σ:St}{H:Hp}{s:Shared}{E:Value->Shared->Prop}
theorem Inv.wish(I:Inv X ac σ H s)(E:Value->Shared->Prop):Inv (X.wish E) ac σ H s:=⟨I.ok.wish E,I.os,I.bare,I.base,I.loc,I.cell,I.free,I.freeC,I.pin,I.hok,I.len⟩
theorem Inv.unwish(I:Inv (X.wish E) ac σ H s):Inv X ac σ H s:=⟨I.ok.unwish,I.os,I.bare,I.base,I.loc,I.cell,I.free,I.freeC,I.pin,I.hok,I.len⟩
theorem SP.unwish{D:Ends}{f:Flow}{s':Shared}(h:SP (X.wish E) ac D f s'):SP X ac D f s':=by
 cases f with
 | next=>obtain⟨σ',H',I,q⟩:=h;exact⟨σ',H',I.unwish,q⟩
 | brk=>obtain⟨σ',H',I,q⟩:=h;exact⟨σ',H',I.unwish,q⟩
 | cont=>obtain⟨σ',H',I,q⟩:=h;exact⟨σ',H',I.unwish,q⟩
 | ret u=>obtain⟨v,σ',H',I,r,q⟩:=h;exact⟨v,σ',H',I.unwish,r,q⟩
theorem PSs.nox{st:List Stmt}{t:TS}(h:PSs X.nox st t):PSs X st t:=λac s σ H D I hw=>
 nF (h ac s σ H D (I.wish _) hw) (λ_ _ q=>q.unwish) λ_ _ z=>False.elim z
end
section
variable{X:Cx}{st:Stmt}{rest:List Stmt}{t u:TS}{e:Expr}{te:TE}{pos:Pos}
def tNext:TS:=λD σ H=>D.nx σ H
def OY(t u:TS):TS:=λD σ H=>t { D with nx:=u D } σ H
theorem kC:PSs X [] tNext:=λ_ _ σ H _ I h=>wpAny_execs_nil ⟨σ,H,I,h⟩
theorem jC(h1:PS X st t)(h2:PSs X rest u):PSs X (st::rest) (OY t u):=by
 intro ac s σ H D I h;refine wpAny_execs_cons (thn (h1 ac s σ H { D with nx:=u D } I h) λf s1 q=>?_);cases f with
 | next=>
  obtain⟨σ',H',I',q⟩:=q;exact h2 ac s1 σ' H' D I' q
 | ret v=>exact q
 | brk=>exact q
 | cont=>exact q
theorem jE(h1:PS X st t):PSs X [st] t:=by
 intro ac s σ H D I h;refine wpAny_execs_cons (thn (h1 ac s σ H D I h) λf s1 q=>?_);cases f with
 | next=>exact wpAny_execs_nil q
 | ret v=>exact q
 | brk=>exact q
 | cont=>exact q
theorem Inv.quiet{ac:List (Addr×Obj)}{σ:St}{H:Hp}{s:Shared}(I:Inv X ac σ H s):interactive X.env=false:=by simp [interactive,I.ok.kind]
def tDrop(te:TE):TS:=λD σ H=>te σ H λ_ H1=>D.nx σ H1
theorem qQ(he:PE X e te)(hs:swapsWith e none pos.line X.env=pure false:=by rfl):PS X (.Expr e pos) (tDrop te):=by
 intro ac s σ H D I h;exact wpAny_Expr_any (thn (he ac s σ H _ I h) λv s1 ⟨x,H1,I1,r1,q1⟩=>⟨σ,H1,I1,q1⟩) I.quiet hs
def tRet(te:TE):TS:=λD σ H=>te σ H D.rt
theorem jM(he:PE X e te):PS X (.Return (some e) pos) (tRet te):=by
 intro ac s σ H D I h;exact wpAny_Return_some (thn (he ac s σ H _ I h) λv s1 ⟨x,H1,I1,r1,q1⟩=>⟨x,σ,H1,I1,r1,q1⟩)
def tIfS(c:TT)(t u:TS):TS:=λD σ H=>c σ H λb H1=>if b=true then t D σ H1 else u D σ H1
theorem kT{c:Expr}{a b:List Stmt}{tc:TT}(hc:PT X c tc)(ha:PSs X a t)(hb:PSs X b u):PS X (.If c a b pos) (tIfS tc t u):=by
 intro ac s σ H D I h;refine wpAny_If (thn (hc ac s σ H _ I h) λd s1 ⟨H1,I1,q1⟩=>?_);cases d with
 | true=>exact ha ac s1 σ H1 D I1 q1
 | false=>exact hb ac s1 σ H1 D I1 q1
def tNever:TS:=λ_ _ _=>False
theorem yD:PS X st tNever:=λ_ _ _ _ _ _ h=>h.elim
theorem PL{sts:List Stmt} :PSs X sts tNever:=λ_ _ _ _ _ _ h=>h.elim
end
abbrev TG:=V->St->Hp->(St->Hp->Prop)->Prop
abbrev TGs:=List V->St->Hp->(St->Hp->Prop)->Prop
def PG(X:Cx)(target:Expr)(t:TG):Prop:=
 ∀(ac:List (Addr×Obj)) (s:Shared) (σ:St) (H:Hp) (v:V) (u:Value) (Q:St->Hp->Prop),Inv X ac σ H s->RelV v u->t v σ H Q->
  wpAny (model X.prog X.w) X.A (assign target X.env u) (λ_ s'=>∃σ' H',Inv X ac σ' H' s'/\Q σ' H') X.xe s
def PGs(X:Cx)(ts:List Expr)(t:TGs):Prop:=
 ∀(ac:List (Addr×Obj)) (s:Shared) (σ:St) (H:Hp) (vs:List V) (us:List Value) (Q:St->Hp->Prop),Inv X ac σ H s->Vals vs us->t vs σ H Q->
  wpAny (model X.prog X.w) X.A (assignInOrder ((assignEach ts X.env).map (·.2)) us) (λ_ s'=>∃σ' H',Inv X ac σ' H' s'/\Q σ' H') X.xe s
abbrev TSet:=V->V->V->Hp->(Hp->Prop)->Prop
def PSet(X:Cx)(t:TSet):Prop:=
 ∀(ac:List (Addr×Obj)) (s:Shared) (σ:St) (H:Hp) (o i v:V) (ov iv u:Value) (Q:Hp->Prop),Inv X ac σ H s->RelV o ov->RelV i iv->RelV v u->t o i v H Q->
  wpAny (model X.prog X.w) X.A (setItem ov iv u) (λ_ s'=>∃H',Inv X ac σ H' s'/\Q H') X.xe s
abbrev TIp:=V->V->Hp->VK->Prop
def PIp(X:Cx)(op:Operator)(t:TIp):Prop:=
 ∀(ac:List (Addr×Obj)) (s:Shared) (σ:St) (H:Hp) (x y:V) (v u:Value) (Q:VK),Inv X ac σ H s->RelV x v->RelV y u->t x y H Q->
  wpAny (model X.prog X.w) X.A (inplaceOp op v u) (EP X ac σ Q) X.xe s
section
variable{X:Cx}{pos:Pos}
def jS(i:Nat):TG:=λv σ H Q=>Q (σ.set i (some v)) H
theorem jH{i:Nat}{x:Str}(hN:X.N.Nodup)(hi:X.N[i]? = some x)(hx:Loc X.env.scope x)(hf:X.fn x=true∨X.env.scope.names.lookup x=some .local:=by first | exact .inl rfl | exact .inr rfl | assumption):PG X (.Name x pos) (jS i):=by
 intro ac s σ H v u Q I r h;exact wpAny_assign_Name (wU I hN hi hx r (λs' I'=>⟨_,H,I',h⟩) hf)
def gNil:TGs:=λvs σ H Q=>vs=[]/\Q σ H
def kR(t:TG)(u:TGs):TGs:=λvs σ H Q=>∃v r,vs=v::r/\t v σ H fun σ' H'=>u r σ' H' Q
theorem jV:PGs X [] gNil:=by
 intro ac s σ H vs us Q I r h;obtain⟨e,h⟩:=h;subst e;cases r;exact assignInOrder_nil ⟨σ,H,I,h⟩
theorem jG{e:Expr}{es:List Expr}{t:TG}{u:TGs}(h1:PG X e t)(h2:PGs X es u)
  (hs:(assignEach (e::es) X.env).map (·.2)=assign e X.env::(assignEach es X.env).map (·.2):=by rfl):PGs X (e::es) (kR t u):=by
 intro ac s σ H vs us Q I r h;obtain⟨v,vr,e1,h⟩:=h;subst e1;cases r with
 | cons r rr=>
  rw[hs];refine assignInOrder_cons (thn (h1 ac s σ H _ _ _ I r h) λ_ s1 ⟨σ1,H1,I1,q1⟩=>?_);exact h2 ac s1 σ1 H1 _ _ Q I1 rr q1
def zK(K:nI)(n:Nat)(t:TGs):TG:=λv σ H Q=>∃a xs,v=.ref a/\SqT K H a xs/\xs.length=n/\t xs σ H Q
theorem jY{es:List Expr}{k:Nat}{t:TGs}{n:Nat}(hc:X.calm=true)(h:PGs X es t)
  (hn:(assignEach es X.env).length=n:=by rfl) (hst:(assignEach es X.env).findIdx? (·.1)=none:=by rfl):PG X (.Tuple es k pos) (zK X.K n t):=by
 intro ac s σ H v u Q I r hw;obtain⟨a,xs,e1,hq,hl,hw⟩:=hw;subst e1;cases r;obtain⟨its,rv,ht,hz⟩:=I.tuple hq;refine assign_Tuple_tuple (I.ok.hd hc) ht (by simp [hn,<-hl,rv.length]) hst λh' hx=>?_;have I1:Inv X ac σ H { s with heap:=h' } :=I.kept (t':=s.toks) λb o e=>hx b o (mO (mM e)) e;exact h ac _ σ H xs _ Q I1 (by simpa using rv) hw
def gSub(to ti:TE)(t:TSet):TG:=λv σ H Q=>to σ H λo H1=>ti σ H1 λi H2=>t o i v H2 λH3=>Q σ H3
theorem pg_sub{o i:Expr}{to ti:TE}{t:TSet}(ho:PE X o to)(hi:PE X i ti)(hs:PSet X t)
  (ha:∀v,assign (.Subscript o i pos) X.env v=(do
   let ov<-holding [v] (eval o X.env);let iv<-holding [v,ov] (eval i X.env)
   standAt pos
   holding [v,ov,iv] (setItem ov iv v)
   release [v,ov,iv] []):=by intro _;rfl):PG X (.Subscript o i pos) (gSub to ti t):=by
 intro ac s σ H v u Q I r h;rw[ha];refine nC (wpAny_holding (thn (ho ac s σ H _ I h) λov s1 ⟨x,H1,I1,r1,q1⟩=>?_));refine nC (wpAny_holding (thn (hi ac s1 σ H1 _ I1 q1) λiv s2 ⟨y,H2,I2,r2,q2⟩=>?_));refine nC (wpAny_standAt (nC (wpAny_holding (thn (hs ac s2 σ H2 x y v ov iv u _ I2 r1 r2 r q2) λ_ s3 ⟨H3,I3,q3⟩=>?_))));exact wpAny_release ⟨σ,H3,I3,q3⟩
def LA(te:TE)(g:TG):TS:=λD σ H=>te σ H λx H1=>g x σ H1 D.nx
theorem vC{tg e:Expr}{te:TE}{g:TG}(he:PE X e te)(hg:PG X tg g)(hs:swapsWithSole [tg] e pos.line X.env=pure false:=by rfl)(hw:swappedStores [tg] e X.env=pure none:=by rfl)
  (h1:(assignEach [tg] X.env).map (·.2)=[assign tg X.env]:=by rfl):PS X (.Assign [tg] e pos) (LA te g):=by
 intro ac s σ H D I h;refine wpAny_Assign_stores (thn (he ac s σ H _ I h) λv s1 ⟨x,H1,I1,r1,q1⟩=>?_) hs hw;rw[h1];exact thn (hg ac s1 σ H1 x v _ I1 r1 q1) λ_ s2 q=>q
theorem jO{i:Nat}{x:Str}{e:Expr}{te:TE}{pos':Pos}(hN:X.N.Nodup)(hi:X.N[i]? = some x)(hx:Loc X.env.scope x)(he:PE X e te)(hs:swapsWith e (some (.Name x pos')) pos.line X.env=pure false:=by rfl)(hf:X.fn x=true∨X.env.scope.names.lookup x=some .local:=by first | exact .inl rfl | exact .inr rfl | assumption) :
  PS X (.Assign [.Name x pos'] e pos) (LA te (jS i)):=by
 intro ac s σ H D I h;refine wpAny_Assign_Name (thn (he ac s σ H _ I h) λv s1 ⟨y,H1,I1,r1,q1⟩=>?_) hs;exact wU I1 hN hi hx r1 (λs2 I2=>⟨_,H1,I2,q1⟩) hf
def tPar(i j:Nat)(ta:TA):TS:=λD σ H=>ta σ H λvs H1=>∃v w,vs=[v,w]/\D.nx ((σ.set i (some v)).set j (some w)) H1
theorem TJ{i j:Nat}{x y:Str}{a b:Expr}{ta:TA}{px py pt:Pos}{kt k2 pt2}(hc:X.calm=true)(hN:X.N.Nodup)(hi:X.N[i]? = some x)(hj:X.N[j]? = some y)(hij:i≠j)
  (hx:X.env.scope.names.lookup x=some .local) (hy:X.env.scope.names.lookup y=some .local) (ha:PA X [a,b] ta)
  (hw:swappedStores [.Tuple [.Name x px,.Name y py] kt pt] (.Tuple [a,b] k2 pt2) X.env=pure (some [x,y]))
  (hs:swapsWithSole [.Tuple [.Name x px,.Name y py] kt pt] (.Tuple [a,b] k2 pt2) pos.line X.env=pure false:=by rfl) :
  PS X (.Assign [.Tuple [.Name x px,.Name y py] kt pt] (.Tuple [a,b] k2 pt2) pos) (tPar i j ta):=by
 intro ac s σ H D I h;rw[exec_Assign_arm];refine nC (wpAny_standAt ?_);rw[hs];refine nC (nE ?_);rw[nG (by decide)];refine nC (Tuple_ (thn (ha _ ac s σ H _ I h) λus s1 ⟨vs,H1,I1,r1,q1⟩=>?_));obtain⟨v,w,e1,q1⟩:=q1;subst e1;obtain⟨u1,u2,rfl,rv,rw'⟩:∃u1 u2,us=[u1,u2]/\RelV v u1/\RelV w u2:=by
  cases r1 with
  | cons p q=>
   cases q with
   | cons p' q'=>
    cases q';exact⟨_,_,rfl,p,p'⟩
 refine wpAny_newObj_type ?_ uM ;have I2:Inv X ac σ H1 { s1 with heap:=s1.heap.push { cls:=.type "tuple",data:=.seq [u1,u2].toArray } } :=I1.kept (t':=s1.toks) λb o e=>uS _ e;rw[hw];refine nC (nE ?_);show wpAny (model X.prog X.w) X.A (do rule "assign.swapped-stores";let items<-unpackItems (.ref s1.heap.objs.size) 2 none;assignInOrder [λv=>bindName X.env y v,λv=>bindName X.env x v] items.reverse;pure Flow.next) _ _ _;refine nC (wpAny_rule (nC (unpackItems_tuple (items:=#[u1,u2]) (I.ok.hd hc) (IsTup.new s1.heap _) λh' hx'=>?_)));have I3:=I2.kept (h':=h') (t':=s1.toks) λb o e=>hx' b o (mO (mM e)) e;show wpAny _ _ (assignInOrder [λv=>bindName X.env y v,λv=>bindName X.env x v] [u2,u1] >>= λ_=>pure Flow.next) _ _ _;refine nC (assignInOrder_cons (wpAny_bindName (wU I3 hN hj (.inl hy) rw' (λs2 I4=>?_) (.inr hy))));refine assignInOrder_cons (wpAny_bindName (wU I4 hN hi (.inl hx) rv (λs3 I5=>assignInOrder_nil (nE ?_)) (.inr hx)));rw[List.set_comm _ _ (Ne.symm hij)]at I5;exact⟨_,H1,I5,q1⟩
def tAugS(to ti te:TE)(tget:V->V->Hp->VK->Prop)(tip:TIp)(tset:TSet):TS:=λD σ H=>to σ H λo H1=>ti σ H1 λi H2=>tget o i H2 λx H3=>te σ H3 λy H4=>tip x y H4 λz H5=>tset o i z H5 λH6=>D.nx σ H6
def PGet(X:Cx)(t:V->V->Hp->VK->Prop):Prop:=
 ∀(ac:List (Addr×Obj)) (s:Shared) (σ:St) (H:Hp) (o i:V) (ov iv:Value) (Q:VK),Inv X ac σ H s->RelV o ov->RelV i iv->t o i H Q->
  wpAny (model X.prog X.w) X.A (getItem ov iv) (EP X ac σ Q) X.xe s
theorem NF{o i e:Expr}{to ti te:TE}{tget:V->V->Hp->VK->Prop}{tip:TIp}{tset:TSet}{op:Operator}{tpos:Pos}(ho:PE X o to)(hi:PE X i ti)(hg:PGet X tget)(he:PE X e te)(hp:PIp X op tip)(hs:PSet X tset)
  (ha:∀ov iv new,augStore i ov iv new=(do holding [new,ov,iv] (setItem ov iv new);release [new,ov,iv] [];pure .next):=by intros;rfl):PS X (.AugAssign (.Subscript o i tpos) op e pos) (tAugS to ti te tget tip tset):=by
 intro ac s σ H D I h;refine wpAny_AugAssign_SubscriptAny (thn (ho ac s σ H _ I h) λov s1 ⟨x1,H1,I1,r1,q1⟩=>?_) ha;refine thn (hi ac s1 σ H1 _ I1 q1) λiv s2 ⟨x2,H2,I2,r2,q2⟩=>?_;refine thn (hg ac s2 σ H2 x1 x2 ov iv _ I2 r1 r2 q2) λold s3 ⟨x3,H3,I3,r3,q3⟩=>?_;refine thn (he ac s3 σ H3 _ I3 q3) λv s4 ⟨x4,H4,I4,r4,q4⟩=>?_;refine thn (hp ac s4 σ H4 x3 x4 old v _ I4 r3 r4 q4) λnew s5 ⟨x5,H5,I5,r5,q5⟩=>?_;exact thn (hs ac s5 σ H5 x1 x2 x5 ov iv new _ I5 r1 r2 r5 q5) λ_ s6 ⟨H6,I6,q6⟩=>⟨σ,H6,I6,q6⟩
def ipI(f:Int->Int->Int):TIp:=λx y H Q=>∃i j,x=.int i/\y=.int j/\Q (.int (f i j)) H
theorem VO:PIp X .Add (ipI λi j=>i+j):=by
 intro ac s σ H x y v u Q I r1 r2 h;obtain⟨i,j,e1,e2,q⟩:=h;subst e1;subst e2;obtain⟨t,rfl⟩:=r1;obtain⟨t',rfl⟩:=r2;exact iadd_int ⟨.int _,H,I.tok _,⟨_,rfl⟩,q⟩
end
section
variable{X:Cx}{pos:Pos}
def RU(c:TT)(tb:TS):TS:=λD σ H=>∃W:Nat->St->Hp->Prop,(∃m,W m σ H)/\∀m σ H,W m σ H->
 c σ H λb H1=>if b=true then ∃N:St->Hp->Prop,(∀σ' H',N σ' H'->∃m',m'<m/\W m' σ' H')/\tb { D with nx:=N,ct:=N,bk:=D.nx } σ H1 else D.nx σ H1
theorem IY{c:Expr}{body:List Stmt}{tc:TT}{tb:TS}(hp:PassesOwn (model X.prog X.w) X.A X.env X.xe)(hc:PT X c tc)(hb:PSs X body tb):PS X (.While c body [] pos) (RU tc tb):=by
 intro ac s σ H D I h;obtain⟨W,⟨m0,w0⟩,turn⟩:=h;refine wpAny_While (codeAny_whileLoop (λn s'=>∃σ' H',Inv X ac σ' H' s'/\W n σ' H') ?_ m0 ⟨σ,H,I,w0⟩);rintro n s1 ⟨σ1,H1,I1,w1⟩;refine wpAny_passesOwn hp (thn (hc ac s1 σ1 H1 _ I1 (turn n σ1 H1 w1)) λb s2 ⟨H2,I2,q2⟩=>?_);cases b with
 | true=>
  obtain⟨N,hN,q2⟩:=q2;rw[nH rfl];refine wpAny_passesOwn hp (thn (hb ac s2 σ1 H2 _ I2 q2) λf s3 q3=>?_);cases f with
  | next=>
   obtain⟨σ3,H3,I3,n3⟩:=q3;obtain⟨m',hm,w3⟩:=hN σ3 H3 n3;exact⟨m',hm,σ3,H3,I3,w3⟩
  | cont=>
   obtain⟨σ3,H3,I3,n3⟩:=q3;obtain⟨m',hm,w3⟩:=hN σ3 H3 n3;exact⟨m',hm,σ3,H3,I3,w3⟩
  | brk=>exact q3
  | ret v=>exact q3
 | false=>
  rw[nG gF];exact wpAny_execs_nil ⟨σ1,H2,I2,q2⟩
end
structure It where
 go:Nat->Hp->Prop
 yld:Nat->Hp->V->Hp->Prop
 stop:Nat->Hp->Prop
def FpOk(X:Cx)(ac:List (Addr×Obj))(H:Hp)(b:Addr):Prop:=
 H b=none/\b≠X.env.locals/\b∉X.fs/\(b∈X.ex∨X.s₀.heap.objs.size<=b)/\(∀x c,X.env.cells.lookup x=some c->c≠b)/\∀p∈X.pn++ac,p.1≠b
theorem Inv.fpOk{X:Cx}{ac:List (Addr×Obj)}{σ:St}{H H':Hp}{s:Shared}{b:Addr}(I:Inv X ac σ H s)(hb:s.heap.objs.size<=b)(hn:H' b=none):FpOk X ac H' b:=by
 refine⟨hn,Nat.ne_of_gt (gG I.lt hb),I.nofs hb,.inr (mN I.sz hb),λx c e z=>?_,λp hp z=>?_⟩
 ·obtain⟨v,q⟩:=I.cell x c e;exact absurd (gG q.lt (by rw[z];exact hb)) (mJ _)
 ·exact absurd (gG (mM (I.pin p hp).1) (by rw[z];exact hb)) (mJ _)
structure Turn(P:Program)(w:World)(K:nI)(tg:Expr)(J:It)(fp:List Addr)(it:Addr)(tn:Nat->Heap->Prop):Prop where
 mem:it∈fp
 obj:∀i h,tn i h->∀b∈fp,∃o,h.get? b=some o/\∀v,o.data≠.cell v
 keep:∀i h h',tn i h->(∀b∈fp,∀o,h.get? b=some o->h'.get? b=some o)->tn i h'
 item:∀(X:Cx),X.prog=P->X.w=w->X.K=K->X.calm=true->∀(i:Nat) (ac:List (Addr×Obj)) (s:Shared) (σ:St) (H:Hp) (E:Value->Shared->Prop),Inv X ac σ H s->(∀b∈fp,FpOk X ac H b)->tn i s.heap->J.go i H->
  wpAny (model P w) X.A (pyNext (.ref it)) (λr s1=>∃u,r=some u/\
   wpAny (model P w) X.A (letOwnedTupleGo tg (.ref it) u) (λ_ s2=>∃x H',Inv X ac σ H' s2/\RelV x u/\J.yld i H x H'/\tn (i+1) s2.heap/\∀b∈fp,H' b=none) E s1) E s
 done:∀(X:Cx),X.prog=P->X.w=w->X.K=K->X.calm=true->∀(i:Nat) (ac:List (Addr×Obj)) (s:Shared) (σ:St) (H:Hp) (E:Value->Shared->Prop),Inv X ac σ H s->(∀b∈fp,FpOk X ac H b)->tn i s.heap->J.stop i H->
  wpAny (model P w) X.A (pyNext (.ref it)) (λr s1=>r=none/\Inv X ac σ H s1) E s
 self:∀(A:Around) (i:Nat) (s:Shared) (Q:Value->Shared->Prop) (E:Value->Shared->Prop),tn i s.heap->Q (.ref it) s->wpAny (model P w) A (pyIter (.ref it)) Q E s
abbrev TI:=St->Hp->(It->Hp->Prop)->Prop
def PIE(X:Cx)(ac:List (Addr×Obj))(σ:St)(tg:Expr)(R:It->Hp->Prop)(itv:Value)(s2:Shared):Prop:=
 ∃(it:Addr) (fp:List Addr) (tn:Nat->Heap->Prop) (J:It) (H':Hp),itv=.ref it/\Inv X ac σ H' s2/\Turn X.prog X.w X.K tg J fp it tn/\tn 0 s2.heap/\(∀b∈fp,FpOk X ac H' b)/\R J H'
def PI(X:Cx)(tg iter:Expr)(wi:TI):Prop:=
 ∀(ac:List (Addr×Obj)) (s:Shared) (σ:St) (H:Hp) (R:It->Hp->Prop),Inv X ac σ H s->wi σ H R->
  wpAny (model X.prog X.w) X.A (eval iter X.env) (λv s1=>wpAny (model X.prog X.w) X.A (pyIter v) (PIE X ac σ tg R) X.xe s1) X.xe s
theorem JS{M:Model}{A:Around}{E:Value->Shared->Prop}{s:Shared}{tg:Expr}{it:Addr}{u:Value}{o:Obj}{n:String}{vs:Array Value}{Q:Unit->Shared->Prop}(ho:s.heap.get? it=some o)(hc:o.cls=.type n)(hd:o.data=.fields vs)
  (hn:["enumerate","zip","dict_itemiterator","dict_reverseitemiterator","odict_iterator","itertools.zip_longest","itertools.pairwise"].contains n=false) (hQ:Q () s):wpAny M A (letOwnedTupleGo tg (.ref it) u) Q E s:=by
 unfold letOwnedTupleGo;cases tg<;>first
  | exact nE hQ
  | (cases u<;>first
    | exact nE hQ
    | (refine nC (wpAny_load ho ?_);rw[hc,hd];show wpAny M A (if (["enumerate","zip","dict_itemiterator","dict_reverseitemiterator","odict_iterator","itertools.zip_longest","itertools.pairwise"].contains n&&vs[0]? ==some (rawInt _))=true then _ else _) Q E s;rw[nG (by intro h;rw[hn,Bool.false_and]at h;cases h)];exact nE hQ))
def Itl(K:nI)(a:Addr):It:=
 ⟨λi H=>∃xs x,SqL K H a xs/\xs[i]? = some x,λi H x H'=>H'=H/\∀xs,SqL K H a xs->xs[i]? = some x,λi H=>∃xs,SqL K H a xs/\xs.length<=i⟩
def Itt(K:nI)(a:Addr):It:=
 ⟨λi H=>∃xs x,SqT K H a xs/\xs[i]? = some x,λi H x H'=>H'=H/\∀xs,SqT K H a xs->xs[i]? = some x,λi H=>∃xs,SqT K H a xs/\xs.length<=i⟩
def Itr(lo:Int)(n:Nat):It:=⟨λi _=>i<n,λi H x H'=>H'=H/\x=.int (lo+i),λi _=>n<=i⟩
theorem OX{P:Program}{w:World}{K:nI}{tg:Expr}(a it:Addr):Turn P w K tg (Itl K a) [it] it (λi h=>h.IsListIter it a i) where
 mem:=by simp
 obj:=λi h st b hb=>by
  have e:b=it:=by simpa using hb
  subst e;obtain⟨o,e,c,d⟩:=st;exact⟨o,e,λv z=>by rw[d]at z;cases z⟩
 keep:=λi h h' st k=>st.at λo e=>k it (by simp) o e
 item:=by
  intro X hP hw hK hc i ac s σ H E I hf st hg;subst hP hw hK;obtain⟨xs,x,hq,hx⟩:=hg;obtain⟨its,rv,p,hz⟩:=I.list hq;obtain⟨u,hu,ru⟩:=rv.get hx;obtain⟨f0,f1,f2,f3,f4,f5⟩:=hf it (by simp);refine wpAny_pyNext_list_item st p.isList (x:=u) (by simpa using hu) λh' st' sb=>?_;have I1:Inv X ac σ H { s with heap:=h' } :=I.turned (t':=s.toks) (λb o hb e=>(sb.2 b hb).trans e) f0 f1 f3 f4 f5;obtain⟨o,e,c,d⟩:=id st';exact⟨u,rfl,JS (s:={ s with heap:=h' }) e c d (by decide) ⟨x,H,I1,ru,⟨rfl,λys hy=>by rw[I.list_inj hy hq];exact hx⟩,st',λb hb=>(hf b hb).1⟩⟩
 done:=by
  intro X hP hw hK hc i ac s σ H E I hf st hg;subst hP hw hK;obtain⟨xs,hq,hx⟩:=hg;obtain⟨its,rv,p,hz⟩:=I.list hq;obtain⟨f0,f1,f2,f3,f4,f5⟩:=hf it (by simp);have hl:=rv.length;exact wpAny_pyNext_list_end (I.ok.hd hc) st p.isList (by simp;omega) λh' eb=>⟨rfl,I.turned (t':=s.toks) (λb o hb e=>eb b o hb e) f0 f1 f3 f4 f5⟩
 self:=λ_ _ _ _ _ st h=>wpAny_pyIter_listiter st h
theorem KN{P:Program}{w:World}{K:nI}{tg:Expr}(a it:Addr):Turn P w K tg (Itt K a) [it] it (λi h=>h.IsTupleIter it a i) where
 mem:=by simp
 obj:=λi h st b hb=>by
  have e:b=it:=by simpa using hb
  subst e;obtain⟨o,e,c,d⟩:=st;exact⟨o,e,λv z=>by rw[d]at z;cases z⟩
 keep:=λi h h' st k=>st.at λo e=>k it (by simp) o e
 item:=by
  intro X hP hw hK hc i ac s σ H E I hf st hg;subst hP hw hK;obtain⟨xs,x,hq,hx⟩:=hg;obtain⟨its,rv,p,hz⟩:=I.tuple hq;obtain⟨u,hu,ru⟩:=rv.get hx;obtain⟨f0,f1,f2,f3,f4,f5⟩:=hf it (by simp);refine wpAny_pyNext_tuple_item st (show s.heap.IsTuple a its.toArray from p) (x:=u) (by simpa using hu) λh' st' sb=>?_;have I1:Inv X ac σ H { s with heap:=h' } :=I.turned (t':=s.toks) (λb o hb e=>(sb.2 b hb).trans e) f0 f1 f3 f4 f5;obtain⟨o,e,c,d⟩:=id st';exact⟨u,rfl,JS (s:={ s with heap:=h' }) e c d (by decide) ⟨x,H,I1,ru,⟨rfl,λys hy=>by rw[I.tuple_inj hy hq];exact hx⟩,st',λb hb=>(hf b hb).1⟩⟩
 done:=by
  intro X hP hw hK hc i ac s σ H E I hf st hg;subst hP hw hK;obtain⟨xs,hq,hx⟩:=hg;obtain⟨its,rv,p,hz⟩:=I.tuple hq;obtain⟨f0,f1,f2,f3,f4,f5⟩:=hf it (by simp);have hl:=rv.length;exact wpAny_pyNext_tuple_end (I.ok.hd hc) st (show s.heap.IsTuple a its.toArray from p) (by simp;omega) λh' eb=>⟨rfl,I.turned (t':=s.toks) (λb o hb e=>eb b o hb e) f0 f1 f3 f4 f5⟩
 self:=λ_ _ _ _ _ st h=>wpAny_pyIter_tupleiter st h
theorem KO{P:Program}{w:World}{K:nI}{tg:Expr}(it:Addr)(lo:Int)(n:Nat):Turn P w K tg (Itr lo n) [it] it (λi h=>IsRangeIter h it (lo+(i:Nat)*1) ((n:Int)-(i:Nat)) 1) where
 mem:=by simp
 obj:=λi h st b hb=>by
  have e:b=it:=by simpa using hb
  subst e;exact⟨_,st,λv z=>by
   have z':Data.fields _=Data.cell v:=z;cases z'⟩
 keep:=λi h h' st k=>k it (by simp) _ st
 item:=by
  intro X hP hw hK hc i ac s σ H E I hf st hg;subst hP hw hK;obtain⟨f0,f1,f2,f3,f4,f5⟩:=hf it (by simp);have W:=Walks.range (prog:=X.prog) (w:=X.w) (I.ok.hd hc) it lo 1 n;refine W.item i s _ _ hg st λv h' tk hv st' kk=>?_;obtain⟨t,rfl⟩:=hv;have I1:Inv X ac σ H { s with heap:=h',toks:=tk } :=I.turned (λb o hb e=>kk b o (by simpa using hb) e) f0 f1 f3 f4 f5;refine⟨_,rfl,JS (s:={ s with heap:=h',toks:=tk }) (n:="range_iterator") st' rfl rfl (by decide) ⟨.int (lo+i),H,I1,⟨t, ?_⟩,⟨rfl,rfl⟩,st',λb hb=>(hf b hb).1⟩⟩;rw[Int.mul_one]
 done:=by
  intro X hP hw hK hc i ac s σ H E I hf st hg;subst hP hw hK;obtain⟨f0,f1,f2,f3,f4,f5⟩:=hf it (by simp);exact wpAny_pyNext_range_end (I.ok.hd hc) st (by have:n<=i:=hg;omega) λh' eb=>⟨rfl,I.turned (t':=s.toks) (λb o hb e=>eb b o hb e) f0 f1 f3 f4 f5⟩
 self:=λ_ _ _ _ _ st h=>wpAny_pyIter_rangeiter st h
section
variable{X:Cx}{tg:Expr}
def iList(K:nI)(tl:TE):TI:=fun σ H R=>tl σ H λx H1=>∃a,x=.ref a/\(∃xs,SqL K H1 a xs)/\R (Itl K a) H1
def iTup(K:nI)(tl:TE):TI:=fun σ H R=>tl σ H λx H1=>∃a,x=.ref a/\(∃xs,SqT K H1 a xs)/\R (Itt K a) H1
theorem xI{l:Expr}{tl:TE}(hl:PE X l tl):PI X tg l (iList X.K tl):=by
 intro ac s σ H R I h;refine thn (hl ac s σ H _ I h) λv s1 ⟨x,H1,I1,r1,q1⟩=>?_;obtain⟨a,e,⟨xs,hq⟩,q⟩:=q1;subst e;cases r1;obtain⟨its,rv,p,hz⟩:=I1.list hq;refine wpAny_pyIter_list p.isList ?_;refine⟨s1.heap.objs.size,[s1.heap.objs.size],_,_,H1,rfl,I1.kept (t':=s1.toks) λb o e=>uS _ e,OX a _,⟨_,gC _ rfl,rfl,rfl⟩,λb hb=>?_,q⟩;have e:b=s1.heap.objs.size:=by simpa using hb
 subst e;exact I1.fpOk uJ (I1.hok.fresh uJ)
theorem zC{l:Expr}{tl:TE}(hl:PE X l tl):PI X tg l (iTup X.K tl):=by
 intro ac s σ H R I h;refine thn (hl ac s σ H _ I h) λv s1 ⟨x,H1,I1,r1,q1⟩=>?_;obtain⟨a,e,⟨xs,hq⟩,q⟩:=q1;subst e;cases r1;obtain⟨its,rv,p,hz⟩:=I1.tuple hq;refine wpAny_pyIter_tuple (show s1.heap.IsTuple a its.toArray from p) ?_;refine⟨s1.heap.objs.size,[s1.heap.objs.size],_,_,H1,rfl,I1.kept (t':=s1.toks) λb o e=>uS _ e,KN a _,⟨_,gC _ rfl,rfl,rfl⟩,λb hb=>?_,q⟩;have e:b=s1.heap.objs.size:=by simpa using hb
 subst e;exact I1.fpOk uJ (I1.hok.fresh uJ)
theorem IU{ac:List (Addr×Obj)}{σ:St}{H:Hp}{s:Shared}{R:It->Hp->Prop}{E:Value->Shared->Prop}{lo hi:Int}{t u v:Tok}{tk:Nat}(I:Inv X ac σ H s)(h1: -(2^62)<=lo)(h2:lo<2^62)(h3: -(2^62)<=hi)(h4:hi<2^62)
  (q:R (Itr lo (hi-lo).toNat) H):wpAny (model X.prog X.w) X.A (pyIter (.ref s.heap.objs.size)) (PIE X ac σ tg R) E { s with heap:=s.heap.push { cls:=.type "range",data:=.fields #[.int lo t,.int hi u,.int 1 v] },toks:=tk } :=by
 refine wpAny_pyIter_range (IsRange.new ..) (small_one h1 h2 h3 h4) ?_;have I1:Inv X ac σ H { s with heap:=s.heap.push { cls:=.type "range",data:=.fields #[.int lo t,.int hi u,.int 1 v] },toks:=tk } :=I.kept λb o e=>uS _ e;refine⟨(s.heap.push { cls:=.type "range",data:=.fields #[.int lo t,.int hi u,.int 1 v] }).objs.size,[(s.heap.push { cls:=.type "range",data:=.fields #[.int lo t,.int hi u,.int 1 v] }).objs.size],_,_,H,rfl,
  I1.kept (t':=tk) λb o e=>uS _ e,KO _ lo (hi-lo).toNat, ?_,λb hb=>?_,q⟩
 ·have e1:lo+((0:Nat):Int)*1=lo:=by simp
  have e2:(((hi-lo).toNat:Nat):Int)-((0:Nat):Int)=Builtin.Range.rangeSize lo hi 1:=by rw[rangeSize_one];split<;>omega
  show IsRangeIter _ _ (lo+((0:Nat):Int)*1) ((((hi-lo).toNat:Nat):Int)-((0:Nat):Int)) 1;rw[e1,e2];exact gC _ rfl
 ·have e:b=(s.heap.push { cls:=.type "range",data:=.fields #[.int lo t,.int hi u,.int 1 v] }).objs.size:=by simpa using hb
  subst e;exact I1.fpOk uJ (I1.hok.fresh uJ)
def iRng1(ta:TA):TI:=fun σ H R=>ta σ H λvs H1=>∃j:Int,vs=[.int j]/\-(2^62)<=j/\j<2^62/\R (Itr 0 j.toNat) H1
def iRng2(ta:TA):TI:=fun σ H R=>ta σ H λvs H1=>∃i j:Int,vs=[.int i,.int j]/\(-(2^62)<=i/\i<2^62/\-(2^62)<=j/\j<2^62)/\R (Itr i (j-i).toNat) H1
theorem qR{a:Expr}{ta:TA}{p pos:Pos}(hg:Gl X "range")(hm:X.mg "range" = none)(ha:PA X [a] ta)(hs:starEach [a] X.env=[(false,eval a X.env)]:=by rfl):PI X tg (.Call (.Name "range" p) [a] [] pos) (iRng1 ta):=by
 intro ac s σ H R I h;refine Call_ (xZ I hg hm boot_range (PyProof.Rows.callWith_type1 (thn (ha pos ac s σ H _ I h) λus s1 ⟨vs,H1,I1,r1,q1⟩=>?_) hs rfl));obtain⟨j,e,q1,q2,q⟩:=q1;subst e;cases r1 with
 | cons r rr=>
  cases rr;obtain⟨t,rfl⟩:=r;exact call_range_1 (IU I1 (by omega) (by omega) q1 q2 (by simpa using q))
theorem PN{a b:Expr}{ta:TA}{p pos:Pos}(hg:Gl X "range")(hm:X.mg "range" = none)(ha:PA X [a,b] ta)(hs:starEach [a,b] X.env=[(false,eval a X.env),(false,eval b X.env)]:=by rfl)(hs2:starEach [b] X.env=[(false,eval b X.env)]:=by rfl) :
  PI X tg (.Call (.Name "range" p) [a,b] [] pos) (iRng2 ta):=by
 intro ac s σ H R I h;refine Call_ (xZ I hg hm boot_range (PyProof.Rows.callWith_type1 (thn (ha pos ac s σ H _ I h) λus s1 ⟨vs,H1,I1,r1,q1⟩=>?_) (by rw[hs,hs2]) (by rw[hs2];rfl)));obtain⟨i,j,e,⟨q1,q2,q3,q4⟩,q⟩:=q1;subst e;cases r1 with
 | cons r rr=>
  cases rr with
  | cons r' rr=>
   cases rr;obtain⟨t,rfl⟩:=r;obtain⟨t',rfl⟩:=r';exact call_range_2 (IU I1 q1 q2 q3 q4 q)
def tFor(wi:TI)(g:TG)(tb:TS):TS:=λD σ H=>wi σ H λJ H1=>∃W:Nat->Nat->St->Hp->Prop,(∃m,W 0 m σ H1)/\∀i m σ H,W i m σ H->
 (J.stop i H/\D.nx σ H)∨(J.go i H/\∃N:St->Hp->Prop,(∀σ' H',N σ' H'->∃m',m'<m/\W (i+1) m' σ' H')/\∀x H',J.yld i H x H'->g x σ H' fun σ2 H2=>tb { D with nx:=N,ct:=N,bk:=D.nx } σ2 H2)
def HP(fp:List Addr)(h:Heap):List (Addr×Obj):=fp.filterMap λb=>(h.get? b).map λo=>(b,o)
theorem vQ{fp:List Addr}{h:Heap}{b:Addr}{o:Obj}(hb:b∈fp)(e:h.get? b=some o):(b,o)∈HP fp h:=List.mem_filterMap.mpr ⟨b,hb,by rw[e];rfl⟩
theorem QB{fp:List Addr}{h:Heap}{p:Addr×Obj}(hp:p∈HP fp h):p.1∈fp/\h.get? p.1=some p.2:=by
 obtain⟨b,hb,e⟩:=List.mem_filterMap.mp hp;cases q:h.get? b with
 | none=>rw[q]at e;cases e
 | some o=>
  rw[q]at e;have e':(b,o)=p:=Option.some.inj e;subst e';exact⟨hb,q⟩
theorem Inv.pinned{ac:List (Addr×Obj)}{σ:St}{H:Hp}{s:Shared}{fp:List Addr}(I:Inv X ac σ H s)(hf:∀b∈fp,FpOk X ac H b)(ho:∀b∈fp,∃o,s.heap.get? b=some o/\∀v,o.data≠.cell v):Inv X (ac++HP fp s.heap) σ H s:=
 I.pins_of λp hp=>(mB.mp hp).elim (λz=>I.pin p (uT _ z)) λz=>by
  obtain⟨hb,e⟩:=QB z;obtain⟨f0,f1,f2,_⟩:=hf p.1 hb;obtain⟨o,e',d⟩:=ho p.1 hb;rw[e]at e';cases e';exact⟨e,f0,f1,f2,d⟩
theorem Inv.unpinned{ac pl:List (Addr×Obj)}{σ:St}{H:Hp}{s:Shared}(I:Inv X (ac++pl) σ H s):Inv X ac σ H s:=I.pins_of λp hp=>I.pin p (uT _ (List.mem_append_left _ hp))
theorem qA{iter:Expr}{body:List Stmt}{wi:TI}{g:TG}{tb:TS}{pos:Pos}(hp:PassesOwn (model X.prog X.w) X.A X.env X.xe)(hc:X.calm=true)(hi:PI X tg iter wi)(hg:PG X tg g)(hb:PSs X body tb)
  (hs:∀x,foldedSetIterable iter X.env x=pure x:=by intro _;rfl):PS X (.For tg iter body [] pos) (tFor wi g tb):=by
 intro ac s σ H D I h;refine wpAny_For (thn (hi ac s σ H _ I h) λv s1 h1=>thn h1 λitv s2 h2=>?_) hs;obtain⟨it,fp,tn,J,H2,e,I2,T,st2,f2,W,⟨m0,w0⟩,turn⟩:=h2;subst e;have stat:∀{H':Hp},(∀b∈fp,H' b=none)->∀b∈fp,FpOk X ac H' b:=λhn b hb=>⟨hn b hb,(f2 b hb).2⟩;refine codeAny_forLoop_any (λn s'=>∃i σ' H',Inv X ac σ' H' s'/\tn i s'.heap/\(∀b∈fp,H' b=none)/\W i n σ' H') ?_ m0 ⟨0,σ,H2,I2,st2,λb hb=>(f2 b hb).1,w0⟩;rintro n s3 ⟨i,σ3,H3,I3,st3,fr3,w3⟩;rcases turn i n σ3 H3 w3 with⟨stop,qn⟩ | ⟨go,N,hN,step⟩
 ·refine wpAny_passesOwn hp (thn (T.done X rfl rfl rfl hc i ac s3 σ3 H3 X.xe I3 (stat fr3) st3 stop) λr s4 ⟨hr,I4⟩=>?_);subst hr;exact wpAny_execs_nil ⟨σ3,H3,I4,qn⟩
 ·refine wpAny_passesOwn hp (thn (T.item X rfl rfl rfl hc i ac s3 σ3 H3 X.xe I3 (stat fr3) st3 go) λr s4 ⟨u,hr,h4⟩=>?_);subst hr;refine wpAny_passesOwn hp (thn h4 λ_ s5 ⟨x,H5,I5,r5,y5,st5,fr5⟩=>?_);have I5':=I5.pinned (stat fr5) (T.obj _ _ st5);refine wpAny_passesOwn hp (thn (hg _ s5 σ3 H5 x u _ I5' r5 (step x H5 y5)) λ_ s6 ⟨σ6,H6,I6,q6⟩=>?_);refine wpAny_passesOwn hp (thn (hb _ s6 σ6 H6 _ I6 q6) λf s7 q7=>?_);have again:∀{σ7:St} {H7:Hp},Inv X (ac++HP fp s5.heap) σ7 H7 s7->N σ7 H7->∃m,m<n/\∃i σ' H',Inv X ac σ' H' s7/\tn i s7.heap/\(∀b∈fp,H' b=none)/\W i m σ' H':=fun {σ7 H7} I7 n7=>by
   obtain⟨m',hm,w7⟩:=hN σ7 H7 n7;refine⟨m',hm,i+1,σ7,H7,I7.unpinned,T.keep _ _ _ st5 λb hb o e=>(I7.pin (b,o) (uT _ (uT _ (vQ hb e)))).1,λb hb=>?_,w7⟩;obtain⟨o,e,d⟩:=T.obj _ _ st5 b hb;exact(I7.pin (b,o) (uT _ (uT _ (vQ hb e)))).2.1
  cases f with
  | next=>obtain⟨σ7,H7,I7,n7⟩:=q7;exact again I7 n7
  | cont=>obtain⟨σ7,H7,I7,n7⟩:=q7;exact again I7 n7
  | brk=>obtain⟨σ7,H7,I7,q7⟩:=q7;exact⟨σ7,H7,I7.unpinned,q7⟩
  | ret v=>obtain⟨x7,σ7,H7,I7,r7,q7⟩:=q7;exact⟨x7,σ7,H7,I7.unpinned,r7,q7⟩
end
theorem zL{K:nI}{a:Addr}{xs:List V}{g:TG}{tb:TS}{D:Ends}{σ:St}{H:Hp}(Pv:Nat->St->Hp->Prop)(h0:Pv 0 σ H)(hl:∀i σ H,i<=xs.length->Pv i σ H->SqL K H a xs)
  (hs:∀i x σ H,xs[i]? = some x->Pv i σ H->g x σ H fun σ2 H2=>tb { D with nx:=Pv (i+1),ct:=Pv (i+1),bk:=D.nx } σ2 H2) (hd:∀σ H,Pv xs.length σ H->D.nx σ H) :
  ∃W:Nat->Nat->St->Hp->Prop,(∃m,W 0 m σ H)/\∀i m σ H,W i m σ H->
   ((Itl K a).stop i H/\D.nx σ H)∨((Itl K a).go i H/\∃N:St->Hp->Prop,(∀σ' H',N σ' H'->∃m',m'<m/\W (i+1) m' σ' H')/\∀x H',(Itl K a).yld i H x H'->g x σ H' fun σ2 H2=>tb { D with nx:=N,ct:=N,bk:=D.nx } σ2 H2):=by
 refine⟨λi m σ H=>m=xs.length-i/\i<=xs.length/\Pv i σ H,⟨xs.length,by simp,mX _,h0⟩, ?_⟩;rintro i m σ H ⟨rfl,hi,p⟩;have q:=hl i σ H hi p;by_cases hlt:i<xs.length
 ·refine .inr ⟨⟨xs,xs[i],q,by simp [hlt]⟩,Pv (i+1),fun σ' H' p'=>⟨xs.length-(i+1),by omega,rfl,hlt,p'⟩,λx H' y=>?_⟩;obtain⟨e,y⟩:=y;subst e;exact hs i x σ _ (y xs q) p
 ·have e:i=xs.length:=by omega
  subst e;exact .inl ⟨⟨xs,q,mW _⟩,hd σ H p⟩
theorem ZT{K:nI}{a:Addr}{xs:List V}{g:TG}{tb:TS}{D:Ends}{σ:St}{H:Hp}(Pv:Nat->St->Hp->Prop)(h0:Pv 0 σ H)(hl:∀i σ H,i<=xs.length->Pv i σ H->SqT K H a xs)
  (hs:∀i x σ H,xs[i]? = some x->Pv i σ H->g x σ H fun σ2 H2=>tb { D with nx:=Pv (i+1),ct:=Pv (i+1),bk:=D.nx } σ2 H2) (hd:∀σ H,Pv xs.length σ H->D.nx σ H) :
  ∃W:Nat->Nat->St->Hp->Prop,(∃m,W 0 m σ H)/\∀i m σ H,W i m σ H->
   ((Itt K a).stop i H/\D.nx σ H)∨((Itt K a).go i H/\∃N:St->Hp->Prop,(∀σ' H',N σ' H'->∃m',m'<m/\W (i+1) m' σ' H')/\∀x H',(Itt K a).yld i H x H'->g x σ H' fun σ2 H2=>tb { D with nx:=N,ct:=N,bk:=D.nx } σ2 H2):=by
 refine⟨λi m σ H=>m=xs.length-i/\i<=xs.length/\Pv i σ H,⟨xs.length,by simp,mX _,h0⟩, ?_⟩;rintro i m σ H ⟨rfl,hi,p⟩;have q:=hl i σ H hi p;by_cases hlt:i<xs.length
 ·refine .inr ⟨⟨xs,xs[i],q,by simp [hlt]⟩,Pv (i+1),fun σ' H' p'=>⟨xs.length-(i+1),by omega,rfl,hlt,p'⟩,λx H' y=>?_⟩;obtain⟨e,y⟩:=y;subst e;exact hs i x σ _ (y xs q) p
 ·have e:i=xs.length:=by omega
  subst e;exact .inl ⟨⟨xs,q,mW _⟩,hd σ H p⟩
theorem vH{lo:Int}{n:Nat}{g:TG}{tb:TS}{D:Ends}{σ:St}{H:Hp}(Pv:Nat->St->Hp->Prop)(h0:Pv 0 σ H)
  (hs:∀i σ H,i<n->Pv i σ H->g (.int (lo+i)) σ H fun σ2 H2=>tb { D with nx:=Pv (i+1),ct:=Pv (i+1),bk:=D.nx } σ2 H2) (hd:∀σ H,Pv n σ H->D.nx σ H) :
  ∃W:Nat->Nat->St->Hp->Prop,(∃m,W 0 m σ H)/\∀i m σ H,W i m σ H->
   ((Itr lo n).stop i H/\D.nx σ H)∨((Itr lo n).go i H/\∃N:St->Hp->Prop,(∀σ' H',N σ' H'->∃m',m'<m/\W (i+1) m' σ' H')/\∀x H',(Itr lo n).yld i H x H'->g x σ H' fun σ2 H2=>tb { D with nx:=N,ct:=N,bk:=D.nx } σ2 H2):=by
 refine⟨λi m σ H=>m=n-i/\i<=n/\Pv i σ H,⟨n,by simp,mX _,h0⟩, ?_⟩;rintro i m σ H ⟨rfl,hi,p⟩;by_cases hlt:i<n
 ·refine .inr ⟨hlt,Pv (i+1),fun σ' H' p'=>⟨n-(i+1),by omega,rfl,hlt,p'⟩,λx H' y=>?_⟩;obtain⟨e,y⟩:=y;subst e y;exact hs i σ _ hlt p
 ·have e:i=n:=by omega
  subst e;exact .inl ⟨mW _,hd σ H p⟩
theorem IJ{c:TT}{tb:TS}{D:Ends}{σ:St}{H:Hp}(Pv:St->Hp->Prop)(μ:St->Hp->Nat)(h0:Pv σ H)
  (hs:∀σ H,Pv σ H->c σ H λb H1=>if b=true then tb { D with nx:=fun σ' H'=>Pv σ' H'/\μ σ' H'<μ σ H,ct:=fun σ' H'=>Pv σ' H'/\μ σ' H'<μ σ H,bk:=D.nx } σ H1 else D.nx σ H1)
  (mono:∀σ H Q Q',(∀b H1,Q b H1->Q' b H1)->c σ H Q->c σ H Q'):RU c tb D σ H:=by
 refine⟨λm σ H=>m=μ σ H/\Pv σ H,⟨_,rfl,h0⟩, ?_⟩;rintro m σ H ⟨rfl,p⟩;refine mono σ H _ _ (λb H1 q=>?_) (hs σ H p);cases b with
 | true=>exact⟨_,fun σ' H' ⟨p',l⟩=>⟨_,l,rfl,p'⟩,q⟩
 | false=>exact q
abbrev R2:=V->V->Hp->VK->Prop
def OpR(X:Cx)(f:Value->Value->Sem Value)(r:R2):Prop:=
 ∀(ac:List (Addr×Obj)) (s:Shared) (σ:St) (H:Hp) (x y:V) (v u:Value) (Q:VK),Inv X ac σ H s->RelV x v->RelV y u->r x y H Q->
  wpAny (model X.prog X.w) X.A (f v u) (EP X ac σ Q) X.xe s
def UnR(X:Cx)(f:Value->Sem Value)(r:V->Hp->VK->Prop):Prop:=
 ∀(ac:List (Addr×Obj)) (s:Shared) (σ:St) (H:Hp) (x:V) (v:Value) (Q:VK),Inv X ac σ H s->RelV x v->r x H Q->
  wpAny (model X.prog X.w) X.A (f v) (EP X ac σ Q) X.xe s
def CallR(X:Cx)(f:Value)(r:List V->Hp->VK->Prop):Prop:=
 ∀(ac:List (Addr×Obj)) (s:Shared) (σ:St) (H:Hp) (xs:List V) (us:List Value) (Q:VK),Inv X ac σ H s->Vals xs us->r xs H Q->
  wpAny (model X.prog X.w) X.A (call f us) (EP X ac σ Q) X.xe s
def tOp(r:R2)(ta tb:TE):TE:=fun σ H Q=>ta σ H λx H1=>tb σ H1 λy H2=>r x y H2 Q
def tUn(r:V->Hp->VK->Prop)(ta:TE):TE:=fun σ H Q=>ta σ H λx H1=>r x H1 Q
def rI(C:Int->Int->Prop)(g:Int->Int->V):R2:=λx y H Q=>∃i j,x=.int i/\y=.int j/\C i j/\Q (g i j) H
def rI0(g:Int->Int->V):R2:=λx y H Q=>∃i j,x=.int i/\y=.int j/\Q (g i j) H
def rU(g:Int->V):V->Hp->VK->Prop:=λx H Q=>∃i,x=.int i/\Q (g i) H
section
variable{X:Cx}{a b c:Expr}{ta tb tc:TE}{pos:Pos}
theorem binT(ha:PE X a ta)(hb:PE X b tb){ac:List (Addr×Obj)}{s:Shared}{σ:St}{H:Hp}{R:V->V->Hp->Prop}(I:Inv X ac σ H s)
  (h:ta σ H λx H1=>tb σ H1 λy H2=>R x y H2) {Q:Value->Shared->Prop} {f:Value->Value->Sem Value}
  (hf:∀v u s2 x y H2,Inv X ac σ H2 s2->RelV x v->RelV y u->R x y H2->wpAny (model X.prog X.w) X.A (f v u) Q X.xe s2) :
  wpAny (model X.prog X.w) X.A (eval a X.env) (λv s₁=>wpAny (model X.prog X.w) X.A (eval b X.env) (λu s₂=>wpAny (model X.prog X.w) X.A (f v u) Q X.xe s₂) X.xe s₁) X.xe s:=by
 refine thn (ha ac s σ H _ I h) λv s1 ⟨x,H1,I1,r1,q1⟩=>?_;refine thn (hb ac s1 σ H1 _ I1 q1) λu s2 ⟨y,H2,I2,r2,q2⟩=>?_;exact hf v u s2 x y H2 I2 r1 r2 q2
theorem jT{op:Operator}{r:R2}(ho:OpR X (binaryOp op) r)(ha:PE X a ta)(hb:PE X b tb):PE X (.BinOp a op b pos) (tOp r ta tb):=by
 intro ac s σ H Q I h;exact wpAny_BinOp (binT ha hb I h λv u s2 x y H2 I2 rx ry q=>ho ac s2 σ H2 x y v u Q I2 rx ry q)
theorem yS{op:UnaryOp}{r:V->Hp->VK->Prop}(ho:UnR X (unaryOp op) r)(ha:PE X a ta):PE X (.UnaryOp op a pos) (tUn r ta):=by
 intro ac s σ H Q I h;exact UnaryOp_ (thn (ha ac s σ H _ I h) λv s1 ⟨x,H1,I1,r1,q1⟩=>ho ac s1 σ H1 x v Q I1 r1 q1)
theorem opI{f:Value->Value->Sem Value}{C:Int->Int->Prop}{g:Int->Int->Int}
  (rule:∀(i j:Int) (t u:Tok) (s:Shared) (Q:Value->Shared->Prop) (E:Value->Shared->Prop),C i j->Q (.int (g i j) s.toks) { s with toks:=s.toks+1 }->wpAny (model X.prog X.w) X.A (f (.int i t) (.int j u)) Q E s) :
  OpR X f (rI C λi j=>.int (g i j)):=by
 intro ac s σ H x y v u Q I rx ry h;obtain⟨i,j,rfl,rfl,hc,q⟩:=h;obtain⟨t,rfl⟩:=rx;obtain⟨t',rfl⟩:=ry;exact rule i j t t' s _ _ hc ⟨.int (g i j),H,I.tok _,⟨_,rfl⟩,q⟩
theorem opI0{f:Value->Value->Sem Value}{g:Int->Int->Int}
  (rule:∀(i j:Int) (t u:Tok) (s:Shared) (Q:Value->Shared->Prop) (E:Value->Shared->Prop),Q (.int (g i j) s.toks) { s with toks:=s.toks+1 }->wpAny (model X.prog X.w) X.A (f (.int i t) (.int j u)) Q E s) :
  OpR X f (rI0 λi j=>.int (g i j)):=by
 intro ac s σ H x y v u Q I rx ry h;obtain⟨i,j,rfl,rfl,q⟩:=h;obtain⟨t,rfl⟩:=rx;obtain⟨t',rfl⟩:=ry;exact rule i j t t' s _ _ ⟨.int (g i j),H,I.tok _,⟨_,rfl⟩,q⟩
theorem YB{f:Value->Value->Sem Value}{g:Int->Int->Bool}
  (rule:∀(i j:Int) (t u:Tok) (s:Shared) (Q:Value->Shared->Prop) (E:Value->Shared->Prop),Q (.bool (g i j)) s->wpAny (model X.prog X.w) X.A (f (.int i t) (.int j u)) Q E s) :
  OpR X f (rI0 λi j=>.bl (g i j)):=by
 intro ac s σ H x y v u Q I rx ry h;obtain⟨i,j,rfl,rfl,q⟩:=h;obtain⟨t,rfl⟩:=rx;obtain⟨t',rfl⟩:=ry;exact rule i j t t' s _ _ ⟨.bl (g i j),H,I,rfl,q⟩
def CDiv(i j:Int):Prop:=0<j/\j<1073741824
def CMul(i j:Int):Prop:=(-(2^64)<i/\i<2^64)∨(-(2^64)<j/\j<2^64)
theorem CMul.ok{i j:Int}(h:CMul i j):IntMulOk i j:=by
 rcases h with⟨h1,h2⟩ | ⟨h1,h2⟩
 ·exact .of_left (intBits_le_64 h1 h2)
 ·exact .of_right (intBits_le_64 h1 h2)
theorem qH:OpR X (binaryOp .Add) (rI0 λi j=>.int (i+j)):=opI0 λ_ _ _ _ _ _ _ q=>add_int q
theorem xY:OpR X (binaryOp .Sub) (rI0 λi j=>.int (i-j)):=opI0 λ_ _ _ _ _ _ _ q=>sub_int q
theorem op_mul:OpR X (binaryOp .Mult) (rI CMul λi j=>.int (i*j)):=opI λ_ _ _ _ _ _ _ hc q=>mul_int q hc.ok
theorem YA:OpR X (binaryOp .FloorDiv) (rI CDiv λi j=>.int (i/j)):=opI λi j _ _ _ _ _ hc q=>by
 have h1:(0:Int)<j:=hc.1;have h2:j<1073741824:=hc.2;exact floordiv_int (by omega) (by rw[Int.fdiv_eq_ediv_of_nonneg i (by omega)];exact q) (.inl (PyProof.noPylong_small (by omega)))
theorem AS:OpR X (binaryOp .Mod) (rI (λ_ j=>0<j) λi j=>.int (i%j)):=opI λi j _ _ _ _ _ hc q=>by
 have h1:(0:Int)<j:=hc;exact mod_int' (by omega) (by rw[Int.fmod_eq_emod_of_nonneg i (by omega)];exact q)
theorem unI{f:Value->Sem Value}{g:Int->Int}
  (rule:∀(i:Int) (t:Tok) (s:Shared) (Q:Value->Shared->Prop) (E:Value->Shared->Prop),Q (.int (g i) s.toks) { s with toks:=s.toks+1 }->wpAny (model X.prog X.w) X.A (f (.int i t)) Q E s) :
  UnR X f (rU λi=>.int (g i)):=by
 intro ac s σ H x v Q I rx h;obtain⟨i,rfl,q⟩:=h;obtain⟨t,rfl⟩:=rx;exact rule i t s _ _ ⟨.int (g i),H,I.tok _,⟨_,rfl⟩,q⟩
theorem xC:UnR X (unaryOp .USub) (rU λi=>.int (-i)):=unI λ_ _ _ _ _ q=>neg_int q
end
def scal:V->V->Bool
 | .non,.non=>true | .non,.int _=>true | .int _,.non=>true | .non,.bl _=>true | .bl _,.non=>true | .non,.str _=>true | .str _,.non=>true
 | .int _,.int _=>true | .bl _,.bl _=>true | .str _,.str _=>true | .byt _,.byt _=>true
 | .int _,.str _=>true | .str _,.int _=>true | .bl _,.str _=>true | .str _,.bl _=>true
 | _,_=>false
def rEq:R2:=λx y H Q=>scal x y=true/\Q (.bl (decide (x=y))) H
def rNe:R2:=λx y H Q=>scal x y=true/\Q (.bl (!decide (x=y))) H
theorem CC{i j:Int} :decide (V.int i=V.int j)=(i==j):=by
 rw[Bool.eq_iff_iff];simp
theorem WD{i j:Bool} :decide (V.bl i=V.bl j)=(i==j):=by
 rw[Bool.eq_iff_iff];simp
theorem OL{i j:Str} :decide (V.str i=V.str j)=(i==j):=by
 rw[Bool.eq_iff_iff];simp
theorem OM{i j:Array UInt8} :decide (V.byt i=V.byt j)=(i.toList==j.toList):=by
 rw[Bool.eq_iff_iff];cases i;cases j;simp
section
variable{X:Cx}{a b c:Expr}{ta tb tc:TE}{pos:Pos}
theorem kM{ac:List (Addr×Obj)}{σ:St}{H:Hp}{s:Shared}{Q:VK}{k k':Bool}(I:Inv X ac σ H s)(q:Q (.bl k) H)(e:k=k'):EP X ac σ Q (.bool k') s:=by
 subst e;exact⟨.bl k,H,I,rfl,q⟩
theorem JE:OpR X (compareOp .Eq) rEq:=by
 intro ac s σ H x y v u Q I rx ry h;obtain⟨hs,q⟩:=h;cases x with
 | non=>
  cases rx;cases y with
  | non=>cases ry;exact PySem.EqNone.eq_none_none (kM I q (by simp))
  | bl j=>cases ry;exact PySem.EqNone.eq_none_bool (kM I q (by simp))
  | int j=>obtain⟨t',rfl⟩:=ry;exact PySem.EqNone.eq_none_int (kM I q (by simp))
  | str j=>obtain⟨t',rfl⟩:=ry;exact PySem.EqNone.eq_none_str (kM I q (by simp))
  | _=>exact absurd (show false=true from hs) gF
 | bl i=>
  cases rx;cases y with
  | non=>cases ry;exact PySem.EqNone.eq_bool_none (kM I q (by simp))
  | bl j=>cases ry;exact eq_bool (kM I q WD)
  | str j=>obtain⟨t',rfl⟩:=ry;exact PySem.EqMixed.eq_bool_str (kM I q (by simp))
  | _=>exact absurd (show false=true from hs) gF
 | int i=>
  obtain⟨t,rfl⟩:=rx;cases y with
  | non=>cases ry;exact PySem.EqNone.eq_int_none (kM I q (by simp))
  | int j=>obtain⟨t',rfl⟩:=ry;exact eq_int (kM I q CC)
  | str j=>obtain⟨t',rfl⟩:=ry;exact PySem.EqMixed.eq_int_str (kM I q (by simp))
  | _=>exact absurd (show false=true from hs) gF
 | str i=>
  obtain⟨t,rfl⟩:=rx;cases y with
  | non=>cases ry;exact PySem.EqNone.eq_str_none (kM I q (by simp))
  | bl j=>cases ry;exact PySem.EqMixed.eq_str_bool (kM I q (by simp))
  | int j=>obtain⟨t',rfl⟩:=ry;exact PySem.EqMixed.eq_str_int (kM I q (by simp))
  | str j=>obtain⟨t',rfl⟩:=ry;exact eq_str (kM I q OL)
  | _=>exact absurd (show false=true from hs) gF
 | byt i=>
  obtain⟨t,rfl⟩:=rx;cases y with
  | byt j=>obtain⟨t',rfl⟩:=ry;exact PySem.W.eq_bytes (kM I q OM)
  | _=>exact absurd (show false=true from hs) gF
 | _=>cases y<;>exact absurd (show false=true from hs) gF
theorem zF:OpR X (compareOp .NotEq) rNe:=by
 intro ac s σ H x y v u Q I rx ry h;obtain⟨hs,q⟩:=h;cases x with
 | non=>
  cases rx;cases y with
  | non=>cases ry;exact PySem.EqNone.ne_none_none (kM I q (by simp))
  | bl j=>cases ry;exact PySem.EqNone.ne_none_bool (kM I q (by simp))
  | int j=>obtain⟨t',rfl⟩:=ry;exact PySem.EqNone.ne_none_int (kM I q (by simp))
  | str j=>obtain⟨t',rfl⟩:=ry;exact PySem.EqNone.ne_none_str (kM I q (by simp))
  | _=>exact absurd (show false=true from hs) gF
 | bl i=>
  cases rx;cases y with
  | non=>cases ry;exact PySem.EqNone.ne_bool_none (kM I q (by simp))
  | bl j=>cases ry;exact ne_bool (kM I q (congrArg not WD))
  | str j=>obtain⟨t',rfl⟩:=ry;exact PySem.EqMixed.ne_bool_str (kM I q (by simp))
  | _=>exact absurd (show false=true from hs) gF
 | int i=>
  obtain⟨t,rfl⟩:=rx;cases y with
  | non=>cases ry;exact PySem.EqNone.ne_int_none (kM I q (by simp))
  | int j=>obtain⟨t',rfl⟩:=ry;exact ne_int (kM I q (congrArg not CC))
  | str j=>obtain⟨t',rfl⟩:=ry;exact PySem.EqMixed.ne_int_str (kM I q (by simp))
  | _=>exact absurd (show false=true from hs) gF
 | str i=>
  obtain⟨t,rfl⟩:=rx;cases y with
  | non=>cases ry;exact PySem.EqNone.ne_str_none (kM I q (by simp))
  | bl j=>cases ry;exact PySem.EqMixed.ne_str_bool (kM I q (by simp))
  | int j=>obtain⟨t',rfl⟩:=ry;exact PySem.EqMixed.ne_str_int (kM I q (by simp))
  | str j=>obtain⟨t',rfl⟩:=ry;exact ne_str (kM I q (congrArg not OL))
  | _=>exact absurd (show false=true from hs) gF
 | byt i=>
  obtain⟨t,rfl⟩:=rx;cases y with
  | byt j=>obtain⟨t',rfl⟩:=ry;exact PySem.W.ne_bytes (kM I q (congrArg not OM))
  | _=>exact absurd (show false=true from hs) gF
 | _=>cases y<;>exact absurd (show false=true from hs) gF
theorem JD:OpR X (compareOp .Lt) (rI0 λi j=>.bl (decide (i<j))):=YB λ_ _ _ _ _ _ _ q=>lt_int q
theorem op_le:OpR X (compareOp .LtE) (rI0 λi j=>.bl (decide (i<=j))):=YB λ_ _ _ _ _ _ _ q=>le_int q
theorem uE:OpR X (compareOp .Gt) (rI0 λi j=>.bl (decide (j<i))):=YB λ_ _ _ _ _ _ _ q=>gt_int q
theorem UA:OpR X (compareOp .GtE) (rI0 λi j=>.bl (decide (j<=i))):=YB λ_ _ _ _ _ _ _ q=>ge_int q
theorem kD(b:Expr){op:CmpOp}(h:op≠.In:=by decide)(h2:op≠.NotIn:=by decide):behindInMarks op b=false:=by
 have e1:(op==CmpOp.In)=false:=by cases op<;>first | rfl | exact absurd rfl h
 have e2:(op==CmpOp.NotIn)=false:=by cases op<;>first | rfl | exact absurd rfl h2
 cases b<;>simp [behindInMarks,e1,e2]
theorem qZ{op:CmpOp}{r:R2}(ho:OpR X (compareOp op) r)(ha:PE X a ta)(hb:PE X b tb)(hm:behindInMarks op b=false):PE X (.Compare a [op] [b] pos) (tOp r ta tb):=by
 intro ac s σ H Q I h;exact wpAny_Compare1 (binT ha hb I h λv u s2 x y H2 I2 rx ry q=>ho ac s2 σ H2 x y v u Q I2 rx ry q) hm
def tTest(t:TE):TT:=fun σ H Q=>t σ H λx H'=>∃k,x=.bl k/\Q k H'
theorem kI{op:CmpOp}{r:R2}(ho:OpR X (compareOp op) r)(ha:PE X a ta)(hb:PE X b tb)(hm:behindInMarks op b=false):PT X (.Compare a [op] [b] pos) (tTest (tOp r ta tb)):=by
 intro ac s σ H Q I h;refine wpAny_isTrue_Compare1 (thn (ha ac s σ H _ I h) λv s1 ⟨x,H1,I1,r1,q1⟩=>thn (hb ac s1 σ H1 _ I1 q1) λu s2 ⟨y,H2,I2,r2,q2⟩=>
  thn (ho ac s2 σ H2 x y v u _ I2 r1 r2 q2) λc s3 ⟨z,H3,I3,r3,k,e,q3⟩=>?_) hm
 subst e;cases r3;exact wpAny_truthy_bool ⟨H3,I3,q3⟩
def tChain(r r':R2)(ta tb tc:TE):TE:=fun σ H Q=>ta σ H λx H1=>tb σ H1 λy H2=>r x y H2 λz H3=>∃k,z=.bl k/\
 (if k=true then tc σ H3 λw' H4=>r' y w' H4 Q else Q (.bl false) H3)
theorem TR{op op':CmpOp}{r r':R2}(ho:OpR X (compareOp op) r)(ho':OpR X (compareOp op') r')(ha:PE X a ta)(hb:PE X b tb)(hc:PE X c tc)
  (hm:lastMarks [op,op'] [b,c]=false:=by with_unfolding_all rfl):PE X (.Compare a [op,op'] [b,c] pos) (tChain r r' ta tb tc):=by
 intro ac s σ H Q I h;refine Compare_chain (thn (ha ac s σ H _ I h) λv s1 ⟨x,H1,I1,r1,q1⟩=>chain_link (thn (hb ac s1 σ H1 _ I1 q1) λu s2 ⟨y,H2,I2,r2,q2⟩=>
  thn (ho ac s2 σ H2 x y v u _ I2 r1 r2 q2) λd s3 ⟨z,H3,I3,r3,k,e,q3⟩=>?_)) hm
 subst e;cases r3;refine wpAny_truthy_bool ?_;cases k with
 | false=>exact ite_ff ⟨.bl false,H3,I3,rfl,q3⟩
 | true=>exact ite_tt (chain_last (thn (hc ac s3 σ H3 _ I3 q3) λw' s4 ⟨z',H4,I4,r4,q4⟩=>ho' ac s4 σ H4 y z' u w' Q I4 r2 r4 q4))
theorem EK:(sizeLine:Nat)<2^63:=by rw[sizeLine_eq];decide
theorem xG{x:V}{us:List Value}(r:Vals [x] us):∃u,us=[u]/\RelV x u:=by
 cases r with
 | cons r1 r2=>cases r2;exact⟨_,rfl,r1⟩
theorem vals2{x y:V}{us:List Value}(r:Vals [x,y] us):∃u w',us=[u,w']/\RelV x u/\RelV y w':=by
 cases r with
 | cons r1 r2=>
  cases r2 with
  | cons r3 r4=>cases r4;exact⟨_,_,rfl,r1,r3⟩
theorem KJ:CallR X (.builtin "abs") (λxs H Q=>∃i,xs=[.int i]/\Q (.int (if i<0 then -i else i)) H):=by
 intro ac s σ H xs us Q I r h;obtain⟨i,rfl,q⟩:=h;obtain⟨u,rfl,t,rfl⟩:=xG r;exact call_abs_int λu tk=>⟨.int (if i<0 then -i else i),H,I.tok _,⟨_,rfl⟩,q⟩
end
structure ObjM(h:Heap)(x dx C:Addr)(mA:Str->Option Value):Prop where
 obj:h.get? x=some (PySem.W.instObj C dx)
 ns:h.Ns1 dx mA
 ne:dx≠x
theorem QG{h:Heap}{dx:Addr}{mA:Str->Option Value}(n:h.Ns1 dx mA):∃od,h.get? dx=some od/\∀name,PySem.W.lookIn name od=some (mA name):=by
 obtain⟨o,es,ep,ho,hd,hk,_,hm⟩:=n;refine⟨o,ho,λname=>?_⟩;have e:=hm name;unfold nsFind findBy at e;rw[<-Array.find?_toList]at e;unfold PySem.W.lookIn;rw[hd];dsimp only;split
 ·rename_i y q;rw[q]at e;exact congrArg some e
 ·rename_i q;rw[q]at e;have a:es.toList.any (·.refKey)=false:=by
   rw[List.any_eq_false];intro y hy;obtain⟨z,t,hkey⟩:=hk y (Array.mem_toList_iff.mp hy);simp [DictEntry.refKey,hkey]
  have a':¬es.toList.any (·.refKey)=true:=by rw[a];exact gF
  rw[nG a'];exact congrArg some e
theorem ObjM.look{h:Heap}{x dx C:Addr}{mA:Str->Option Value}(I:ObjM h x dx C mA):∃od,PySem.W.InstAt h x (PySem.W.instObj C dx) C (some od)/\∀name,PySem.W.lookIn name od=some (mA name):=
 let ⟨od,ho,hl⟩:=QG I.ns
 ⟨od,⟨I.obj,rfl,rfl,ho⟩,hl⟩
section
variable{prog:Program}{w:World}{A:Around}{E:Value->Shared->Prop}{s:Shared}{K:nI}{x dx C f:Addr}{mA:Str->Option Value}{name:Str}{v:Value}
end
theorem RelO.some_of{v:V}{o:Option Value}(r:RelO (some v) o):∃u,o=some u/\RelV v u:=by
 cases o with
 | none=>exact(show False from r).elim
 | some u=>exact⟨u,rfl,r⟩
section
variable{P:Program}{w:World}{H H':Hp}{h h':Heap}{a C dx:Addr}{fs fs':List (Str×V)}
theorem ZK(hok:HOk P w H h)(e:H a=some (.ins C dx fs)):∃mA,ObjM h a dx C mA/\(∀f,RelO (fs.lookup f) (mA f))/\PySem.Within mA (fs.map (·.1))/\fs.length<=1000/\H dx=some (.own a):=by
 obtain⟨d,z,ne,ob,mA,n,r,q⟩:=(show ObjOk P w H h a (.ins C dx fs)from hok a _ e);exact⟨mA,⟨ob,n,ne⟩,r,q,z,d⟩
end
structure Cls(K:nI)(C:Addr):Prop where
 pg:PySem.W.plainGet K C Str.empty=true
 hd:PySem.W.hasDictIn K C=true
 po:PySem.W.plainOver K C=true
 sa:PySem.W.findIn K (.ref C) "__setattr__" = some (some (.builtin "object.__setattr__"))
theorem Cls.get{K:nI}{C:Addr}(c:Cls K C)(f:Str):PySem.W.plainGet K C f=true:=c.pg
structure Con(K:nI)(C:Addr)(f:Str)(v:V)(u:Value):Prop where
 at_:PySem.W.findIn K (.ref C) f=some (some u)
 rel:RelV v u
 get:PySem.W.specialIn K u "__get__" = some none
 cp:PySem.W.copiedNames.contains f=false
structure Meth(K:nI)(C:Addr)(m:Str)(f:Addr):Prop where
 at_:PySem.W.findIn K (.ref C) m=some (some (.ref f))
 fn:PySem.W.isFn K (.ref f)=true
 kp:PySem.W.keepIn K (.ref f)=true
section
variable{X:Cx}{ac:List (Addr×Obj)}{σ:St}{H:Hp}{s:Shared}{a C dx:Addr}{fs:List (Str×V)}{f:Str}{v:V}{A:Around}{E:Value->Shared->Prop}
end
section
variable{X:Cx}{o e value:Expr}{f:Str}{pos pos' tpos:Pos}{ta tv:TE}
end
section
variable{X:Cx}{ac:List (Addr×Obj)}{σ:St}{H:Hp}{s:Shared}{A:Around}{E:Value->Shared->Prop}{Q:Value->Shared->Prop}{c:Value}{b:Bool}
inductive TyOf(K:nI)(H:Hp):V->Value->Prop where
 | non:TyOf K H .non (.type "NoneType")
 | bl (x:Bool):TyOf K H (.bl x) (.type "bool")
 | int (i:Int):TyOf K H (.int i) (.type "int")
 | str (x:Str):TyOf K H (.str x) (.type "str")
 | flt (x:UInt64):TyOf K H (.flt x) (.type "float")
 | lst {a:Addr} {xs:List V} (e:H a=some (.lst xs)):TyOf K H (.ref a) (.type "list")
 | frz {a:Addr} {o:Obj} {xs:List V} (e:H a=some (.frz o (.lst xs))):TyOf K H (.ref a) (.type "list")
 | tup {a:Addr} {xs:List V} (e:H a=some (.tup xs)):TyOf K H (.ref a) (.type "tuple")
 | dK {a:Addr} {ag:List (Key×V)} (e:H a=some (.dK ag)):TyOf K H (.ref a) (.type "dict")
 | dT {a:Addr} {ag:List (List Key×V)} (e:H a=some (.dT ag)):TyOf K H (.ref a) (.type "dict")
 | ins {a C dx:Addr} {fs:List (Str×V)} (e:H a=some (.ins C dx fs)) (cl:Cls K C) (ha:PySem.W.findIn K (.ref C) "__class__" = some (some (.builtin "object.__class__")))
   (hn:PySem.W.specialIn K (.builtin "object.__class__") "__get__" = some (some (.builtin "getset_descriptor.__get__"))) (htk:PySem.W.takesIn K (.builtin "object.__class__")=some true)
   (hm:PySem.W.mroIn K C (.type "object")=some true):TyOf K H (.ref a) (.ref C)
theorem QM{x:V}{u t:Value}(I:Inv X ac σ H s)(rx:RelV x u)(ty:TyOf X.K H x t)(e:PySem.W.kitOne X.K t c=some b)(h:∀tk,Q (.bool b) { s with toks:=tk }) :
  wpAny (model X.prog X.w) A (call (.builtin "isinstance") [u,c]) Q E s:=by
 cases ty with
 | non=>cases (show u=Value.none from rx);exact PySem.W.kia_one PySem.W.kitx_none I.kIn True.intro e (λz=>nomatch z) h
 | bl y=>cases (show u=Value.bool y from rx);exact PySem.W.kia_one PySem.W.kitx_bool I.kIn True.intro e (λz=>nomatch z) h
 | int i=>obtain⟨t,q⟩:=(show ∃t,u=Value.int i t from rx);cases q;exact PySem.W.kia_one PySem.W.kitx_int I.kIn True.intro e (λz=>nomatch z) h
 | str y=>obtain⟨t,q⟩:=(show ∃t,u=Value.str y t from rx);cases q;exact PySem.W.kia_one PySem.W.kitx_str I.kIn True.intro e (λz=>nomatch z) h
 | flt y=>obtain⟨t,q⟩:=(show ∃t,u=Value.float y t from rx);cases q;exact PySem.W.kia_one PySem.W.kitx_float I.kIn True.intro e (λz=>nomatch z) h
 | @lst a xs ea=>
  cases (show u=Value.ref a from rx);obtain⟨_,_,n,_,h1⟩:=(show ObjOk X.prog X.w H s.heap a (.lst xs)from I.hok a _ ea);exact PySem.W.kia_one PySem.W.kitx_list I.kIn ⟨_,h1,rfl⟩ e (λz=>nomatch z) h
 | @frz a ob xs ea=>
  cases (show u=Value.ref a from rx);obtain⟨_,_,_,n,_,h1⟩:=(show ObjOk X.prog X.w H s.heap a (.frz ob (.lst xs))from I.hok a _ ea);exact PySem.W.kia_one PySem.W.kitx_list I.kIn ⟨_,h1,rfl⟩ e (λz=>nomatch z) h
 | @tup a xs ea=>
  cases (show u=Value.ref a from rx);obtain⟨_,_,_,p⟩:=(show ObjOk X.prog X.w H s.heap a (.tup xs)from I.hok a _ ea);obtain⟨o,h1,h2,_⟩:=p.1;exact PySem.W.kia_one PySem.W.kitx_tuple I.kIn ⟨o,h1,h2⟩ e (λz=>nomatch z) h
 | @dK a ag ea=>
  cases (show u=Value.ref a from rx);obtain⟨_,_,vs,_,p⟩:=(show ObjOk X.prog X.w H s.heap a (.dK ag)from I.hok a _ ea);obtain⟨o,es,ep,h1,h2,_⟩:=p;exact PySem.W.kia_one PySem.W.kitx_dict I.kIn ⟨o,h1,h2.1⟩ e (λz=>nomatch z) h
 | @dT a ag ea=>
  cases (show u=Value.ref a from rx);obtain⟨_,_,xs,_,o,es,ep,h1,h2,_⟩:=(show ObjOk X.prog X.w H s.heap a (.dT ag)from I.hok a _ ea);exact PySem.W.kia_one PySem.W.kitx_dict I.kIn ⟨o,h1,h2.1⟩ e (λz=>nomatch z) h
 | @ins a C dx fs ea cl ha hn htk hm=>
  cases (show u=Value.ref a from rx);obtain⟨mA,O,_⟩:=ZK I.hok ea;obtain⟨od,J,_⟩:=O.look;exact PySem.W.kia_one (PySem.W.kitx_own (cl.get _) cl.hd ha hn htk hm) I.kIn J e (λz=>nomatch z) h
end
structure Room(k:Nat)(A:Around):Prop where
 hd:A.handled=none
 dp:A.depth+3*k+5<recursionLimit
 un:A.units+16*k+200<cLine
theorem Room.mono{j k:Nat}{A:Around}(r:Room k A)(h:j<=k):Room j A:=⟨r.hd,by have:=r.dp;omega,by have:=r.un;omega⟩
theorem Room.deeper{k:Nat}{A:Around}(r:Room (k+1) A)(env:Env):Room k (A.deeper env):=
 ⟨r.hd,by have:=r.dp;show A.depth+1+3*k+5<_;omega,by have:=r.un;show A.units+3+16*k+200<_;omega⟩
theorem Room.depth{k:Nat}{A:Around}(r:Room k A):A.depth<recursionLimit:=by have:=r.dp;omega
theorem Room.units{k:Nat}{A:Around}(r:Room k A):A.units+64<cLine:=by have:=r.un;omega
theorem Room.units0{k:Nat}{A:Around}(r:Room k A):A.units<cLine:=by have:=r.un;omega
def tNil:TA:=λ_ H Q=>Q [] H
def CN(ta:TE)(tr:TA):TA:=fun σ H Q=>ta σ H λx H1=>tr σ H1 λxs H2=>Q (x::xs) H2
section
variable{X:Cx}{e:Expr}{es:List Expr}{te:TE}{t:TA}{pos:Pos}
theorem jB:PA X [] tNil:=λ_ _ _ _ H Q I h=>Calls.spliced_nil ⟨[],H,I,.nil,h⟩
theorem jA(ha:PE X e te)(hr:PA X es t)(hs:starEach (e::es) X.env=(false,eval e X.env)::starEach es X.env:=by rfl):PA X (e::es) (CN te t):=by
 intro pos ac s σ H Q I h;rw[hs];show wpAny _ _ (spliced ((false,eval e X.env)::backTo pos (starEach es X.env))) _ _ s;refine Calls.spliced_cons (thn (ha ac s σ H _ I h) λu s1 ⟨x,H1,I1,r1,q1⟩=>?_);exact thn (hr pos ac s1 σ H1 _ I1 q1) λus s2 ⟨xs,H2,I2,r2,q2⟩=>⟨x::xs,H2,I2,.cons r1 r2,q2⟩
end
abbrev Sp:=List V->Hp->VK->XK->Prop
abbrev CXT:=List Env->Hp->Shared->XK->Value->Shared->Prop
structure Env0(P:Program)(w:World)(K:nI)(mg:Str->Option Value)(base:Heap)(A:Around)(outer:List Env)(s:Shared)(H:Hp):Prop where
 frames:A.frames=some outer
 mod:Mod K mg base
 bs:∀b o,base.get? b=some o->s.heap.get? b=some o/\H b=none
 bsz:base.objs.size<=s.heap.objs.size
 funs:s.heap.FunFrames base outer
 frf:∀b∈frs outer,H b=none
 hok:HOk P w H s.heap
 bare:AllBare s.gens
def CE(outer:List Env)(P:Program)(w:World)(H:Hp)(s:Shared)(Q:VK)(u:Value)(s':Shared):Prop:=
 ∃v H',s'.os=s.os/\AllBare s'.gens/\Un (frs outer) [] H H' s.heap s'.heap/\HOk P w H' s'.heap/\RelV v u/\Q v H'
def CR(CX:CXT)(outer:List Env)(P:Program)(w:World)(H:Hp)(s:Shared)(Q:VK)(E:XK)(r:Result)(s':Shared):Prop:=
 match r with
 | .ok (.ret u)=>CE outer P w H s Q u s'
 | .ok _=>False
 | .error e=>CX outer H s E e s'
structure FnOk(P:Program)(w:World)(K:nI)(mg:Str->Option Value)(base:Heap)(CX:CXT)(k:Nat)(f:Addr)(fd:FuncData)(ps:List Str)(sp:Sp):Prop where
 len:∀vs H Q E,sp vs H Q E->vs.length=ps.length
 run:∀(A:Around) (outer:List Env) (s:Shared) (H:Hp) (args:Args) (us:List Value) (vs:List V) (Q:VK) (E:XK),Room k A->Env0 P w K mg base A outer s H->BindsTo s fd args (ps.zip us)->Vals vs us->sp vs H Q E->
  codeAny (model P w) A (.call (.ref f) args) (CR CX outer P w H s Q E) s
theorem FnOk.mono{P:Program}{w:World}{K:nI}{mg:Str->Option Value}{base:Heap}{CX:CXT}{j k:Nat}{f:Addr}{fd:FuncData}{ps:List Str}{sp:Sp}(F:FnOk P w K mg base CX j f fd ps sp)(h:j<=k) :
  FnOk P w K mg base CX k f fd ps sp:=⟨F.len,λA outer s H args us vs Q E hr=>F.run A outer s H args us vs Q E (hr.mono h)⟩
section
variable{X:Cx}{ac:List (Addr×Obj)}{σ:St}{H:Hp}{s s':Shared}
theorem Inv.env0(I:Inv X ac σ H s):Env0 X.prog X.w X.K X.mg X.base X.A X.stack s H:=
 ⟨I.ok.frames,I.ok.mod,I.bs,mN I.ok.bsz I.sz,I.stack,I.stkFree,I.hok,I.bare⟩
theorem Inv.after{Q:VK}{u:Value}(I:Inv X ac σ H s)(h:CE X.stack X.prog X.w H s Q u s'):EP X ac σ Q u s':=by
 obtain⟨v,H',os,bare,un,hok,r,q⟩:=h;obtain⟨hh,g,d,t,os'⟩:=s';obtain rfl:os'=s.os:=os;exact⟨v,H',I.call (h':=hh) (g':=g) (d':=d) (t':=t) (ch:=[]) un hok bare (λb z=>absurd z (by simp)),r,q⟩
end
def tCall(sp:Sp)(dvs:List V)(E:XK)(t:TA):TE:=fun σ H Q=>t σ H λvs H1=>sp (vs++dvs) H1 Q E
def Binds(K:nI)(fd:FuncData)(ps:List Str)(ds:List Value):Prop:=
 ∀(s:Shared) (us:List Value),K.In s.heap->(us++ds).length=ps.length->BindsTo s fd ⟨us,[]⟩ (ps.zip (us++ds))
theorem Binds.all{K:nI}{fd:FuncData}{ps:List Str}(h:∀us:List Value,us.length=ps.length->bindArgs fd ⟨us,[]⟩=pure (ps.zip us)):Binds K fd ps []:=λs us _ hl=>by
 rw[List.append_nil]at hl ⊢;exact .of_eq (h us hl)
def Passes(CX:CXT)(X:Cx)(E:XK):Prop:=∀(ac:List (Addr×Obj)) (σ:St) (H:Hp) (s:Shared) (e:Value) (s':Shared),Inv X ac σ H s->CX X.stack H s E e s'->X.xe e s'
section
variable{X:Cx}{CX:CXT}{k:Nat}{f C:Addr}{fd:FuncData}{ps:List Str}{sp:Sp}{dvs:List V}{ds:List Value}{E:XK}{x m:Str}{p pos apos:Pos}{e o:Expr}{es:List Expr}{ta:TE}{t:TA}
theorem SY{ac:List (Addr×Obj)}{σ:St}{H:Hp}{s:Shared}{Q:VK}{us:List Value}{vs:List V}(F:FnOk X.prog X.w X.K X.mg X.base CX k f fd ps sp)(hr:Room k X.A)(hb:Binds X.K fd ps ds)(hd:Vals dvs ds)(hx:Passes CX X E)
  (I:Inv X ac σ H s) (r:Vals vs us) (h:sp (vs++dvs) H Q E):wpAny (model X.prog X.w) X.A (call (.ref f) us) (EP X ac σ Q) X.xe s:=by
 have r2:Vals (vs++dvs) (us++ds):=r.append hd;have hl:(us++ds).length=ps.length:=by rw[<-r2.length];exact F.len _ _ _ _ h
 refine wpAny_call (codeAny_mono (F.run X.A X.stack s H ⟨us,[]⟩ (us++ds) (vs++dvs) Q E hr I.env0 (hb s us I.kIn hl) r2 h) λr s' hq=>?_);cases r with
 | error e=>exact hx ac σ H s e s' I hq
 | ok fl=>
  cases fl with
  | ret u=>exact I.after hq
  | next=>exact False.elim hq
  | brk=>exact False.elim hq
  | cont=>exact False.elim hq
theorem jD(F:FnOk X.prog X.w X.K X.mg X.base CX k f fd ps sp)(hr:Room k X.A)(hg:Gl X x)(hm:X.mg x=some (.ref f))(hk:PySem.W.keepIn X.K (.ref f)=true)(hb:Binds X.K fd ps ds)(hd:Vals dvs ds)(hx:Passes CX X E)
  (ha:PA X (e::es) t) (hdb:(x==("__debug__" :Str))=false:=by decide) (he:starEach (e::es) X.env=(false,eval e X.env)::starEach es X.env:=by rfl) (hpl:(backTo pos (starEach es X.env)).any (·.1)=false:=by rfl) :
  PE X (.Call (.Name x p) (e::es) [] pos) (tCall sp dvs E t):=by
 intro ac s σ H Q I h;refine wpAny_Call_Name_kw (HW I hg hm ?_ hdb);refine PySem.W.callWith_K (h₀:=X.base) I.ok.mod.kin hk (thn (ha pos ac s σ H _ I h) λus s1 ⟨vs,H1,I1,r,q⟩=>⟨I1.kIn, ?_⟩) he hpl;exact SY F hr hb hd hx I1 r q
structure Mk(K:nI)(C f:Addr):Prop where
 makes:PySem.W.makesIn K C=true
 init:PySem.W.findIn K (.ref C) "__init__" = some (some (.ref f))
 fn:PySem.W.isFn K (.ref f)=true
 kp:PySem.W.keepIn K (.ref C)=true
end
def PK(X:Cx)(kws:List Keyword)(t:TA):Prop:=
 ∀(pos:Pos) (ac:List (Addr×Obj)) (s:Shared) (σ:St) (H:Hp) (Q:List V->Hp->Prop),Inv X ac σ H s->t σ H Q->wpAny (model X.prog X.w) X.A (evalAll ((backToKw pos (keywordEach kws X.env)).map (·.2))) (AP X ac σ Q) X.xe s
section
variable{X:Cx}{CX:CXT}{k:Nat}{f C:Addr}{fd:FuncData}{ps ks:List Str}{sp:Sp}{E:XK}{x m:Str}{p pos apos kpos:Pos}{e o:Expr}{es:List Expr}{kws:List Keyword}{te ta:TE}{t tk:TA}{nm:Option Str}
theorem DX:PK X [] tNil:=λ_ _ _ _ H Q I h=>wpAny_evalAll_nil ⟨[],H,I,.nil,h⟩
theorem qY(ha:PE X e te)(hr:PK X kws t):PK X (⟨nm,e,kpos⟩::kws) (CN te t):=by
 intro pos ac s σ H Q I h;show wpAny _ _ (evalAll ((do let v<-eval e X.env;standAt pos;pure v)::(backToKw pos (keywordEach kws X.env)).map (·.2))) _ _ s;refine wpAny_evalAll_cons (nC (thn (ha ac s σ H _ I h) λu s1 ⟨x,H1,I1,r1,q1⟩=>nC (wpAny_standAt (nE ?_))));exact thn (hr pos ac s1 σ H1 _ I1 q1) λus s2 ⟨xs,H2,I2,r2,q2⟩=>⟨x::xs,H2,I2,.cons r1 r2,q2⟩
structure KBinds(K:nI)(fd:FuncData)(ps ks:List Str)(g:List Value->List Value->List Value)(gV:List V->List V->List V):Prop where
 to:∀(s:Shared) (us ws:List Value),K.In s.heap->(g us ws).length=ps.length->BindsTo s fd ⟨us,ks.zip ws⟩ (ps.zip (g us ws))
 rel:∀{vs:List V} {us:List Value} {zs:List V} {ws:List Value},Vals vs us->Vals zs ws->Vals (gV vs zs) (g us ws)
def tCallK(sp:Sp)(gV:List V->List V->List V)(E:XK)(t tk:TA):TE:=fun σ H Q=>t σ H λvs H1=>tk σ H1 λzs H2=>sp (gV vs zs) H2 Q E
variable{g:List Value->List Value->List Value}{gV:List V->List V->List V}
theorem XF{ac:List (Addr×Obj)}{σ:St}{H:Hp}{s:Shared}{Q:VK}{us ws:List Value}{vs zs:List V}(F:FnOk X.prog X.w X.K X.mg X.base CX k f fd ps sp)(hr:Room k X.A)(hb:KBinds X.K fd ps ks g gV)(hx:Passes CX X E)
  (I:Inv X ac σ H s) (r:Vals vs us) (rz:Vals zs ws) (h:sp (gV vs zs) H Q E):wpAny (model X.prog X.w) X.A (call (.ref f) us (ks.zip ws)) (EP X ac σ Q) X.xe s:=by
 have r2:=hb.rel r rz;have hl:(g us ws).length=ps.length:=by rw[<-r2.length];exact F.len _ _ _ _ h
 refine wpAny_call (codeAny_mono (F.run X.A X.stack s H ⟨us,ks.zip ws⟩ (g us ws) (gV vs zs) Q E hr I.env0 (hb.to s us ws I.kIn hl) r2 h) λr s' hq=>?_);cases r with
 | error e=>exact hx ac σ H s e s' I hq
 | ok fl=>
  cases fl with
  | ret u=>exact I.after hq
  | next=>exact False.elim hq
  | brk=>exact False.elim hq
  | cont=>exact False.elim hq
end
structure FnScope(N P:List Str)(sc:Scope):Prop where
 kind:sc.kind=.function
 co:sc.isCoroutine=false
 gen:sc.isGenerator=false
 nd:N.Nodup
 pre:N.take P.length=P
 par:∀x∈P,sc.names.lookup x=some .local∨sc.names.lookup x=some .cell
 nofree:∀y∈sc.names,y.2≠.free
theorem FU{kindOf:Str->Option NameKind}{x:Str} :∀{binds:List (Str×Value)} {m:Str->Option Value},(∀v,(x,v)∉binds)->bindL kindOf binds m x=m x
 | [],_,_=>rfl
 | (n,v)::r,m,h=>by
  unfold bindL;rw[FU λw hw=>h w (uX _ hw)];split
  ·have:x≠n:=by rintro rfl;exact h v gJ
   simp [this]
  ·rfl
theorem FW{kindOf:Str->Option NameKind}{x:Str} :∀{binds:List (Str×Value)} {m:Str->Option Value},(∀v,(x,v)∉binds)->bindC kindOf binds m x=m x
 | [],_,_=>rfl
 | (n,v)::r,m,h=>by
  unfold bindC;rw[FW λw hw=>h w (uX _ hw)];split
  ·rfl
  ·have:x≠n:=by rintro rfl;exact h v gJ
   simp [this]
theorem FV{kindOf:Str->Option NameKind}{x:Str}{v:Value} :∀{P:List Str} {vs:List Value} {i:Nat} {m:Str->Option Value},P.Nodup->P[i]? = some x->vs[i]? = some v->kindOf x=some .local->
  bindL kindOf (P.zip vs) m x=some v
 | [],_,_,_,_,h,_,_=>by simp at h
 | _::_,[],_,_,_,_,h,_=>by simp at h
 | p::P,w::vs,0,m,nd,h1,h2,hk=>by
  simp at h1 h2;subst h1;subst h2;show bindL kindOf ((p,w)::P.zip vs) m p=_;unfold bindL;rw[FU λv hv=>(List.nodup_cons.mp nd).1 (List.of_mem_zip hv).1,nH hk];simp
 | p::P,w::vs,i+1,m,nd,h1,h2,hk=>by
  show bindL kindOf ((p,w)::P.zip vs) m x=_;unfold bindL;exact FV (i:=i) (List.nodup_cons.mp nd).2 (by simpa using h1) (by simpa using h2) hk
theorem FX{kindOf:Str->Option NameKind}{x:Str}{v:Value} :∀{P:List Str} {vs:List Value} {i:Nat} {m:Str->Option Value},P.Nodup->P[i]? = some x->vs[i]? = some v->kindOf x≠some .local->
  bindC kindOf (P.zip vs) m x=some v
 | [],_,_,_,_,h,_,_=>by simp at h
 | _::_,[],_,_,_,_,h,_=>by simp at h
 | p::P,w::vs,0,m,nd,h1,h2,hk=>by
  simp at h1 h2;subst h1;subst h2;show bindC kindOf ((p,w)::P.zip vs) m p=_;unfold bindC;rw[FW λv hv=>(List.nodup_cons.mp nd).1 (List.of_mem_zip hv).1,nG hk];simp
 | p::P,w::vs,i+1,m,nd,h1,h2,hk=>by
  show bindC kindOf ((p,w)::P.zip vs) m x=_;unfold bindC;exact FX (i:=i) (List.nodup_cons.mp nd).2 (by simpa using h1) (by simpa using h2) hk
def BB(N:List Str)(vs:List V):St:=vs.map some++List.replicate (N.length-vs.length) none
def LT(CX:CXT)(P:Program)(w:World)(K:nI)(mg:Str->Option Value)(base:Heap)(N:List Str)(qual:Str)(scope:Scope)(f:Addr)(cd:Value)(A:Around)(outer:List Env)(s:Shared)(H:Hp)(E:XK):Cx where
 prog:=P
 w:=w
 K:=K
 mg:=mg
 base:=base
 A:=A.deeper (envOfC qual scope s.heap.objs.size f cd)
 N:=N
 s₀:=s
 H₀:=H
 env:=envOfC qual scope s.heap.objs.size f cd
 outer:=outer
 stack:=envOfC qual scope s.heap.objs.size f cd::outer
 ex:=[]
 calm:=true
 fn:=λ_=>true
 pn:=[]
 xe:=λe s'=>wpAny (model P w) (A.deeper (envOfC qual scope s.heap.objs.size f cd)) (leaving (envOfC qual scope s.heap.objs.size f cd) e) (λ_ s''=>CX outer H s E e s'') (λe' s''=>CX outer H s E e' s'') s'
theorem KG{sc:Scope}{n:Nat}{x:Str}(h:sc.names.lookup x=some .cell):∃c,(cellsFrom n sc.names []).lookup x=some c:=by
 have q:=PySem.W.cellsFrom_some sc.names n [] (.inl h);exact Option.isSome_iff_exists.mp q
theorem QN{CX:CXT}{P:Program}{w:World}{K:nI}{mg:Str->Option Value}{base:Heap}{N ps:List Str}{qual:Str}{scope:Scope}{f:Addr}{cd:Value}{A:Around}{outer:List Env}{s s1:Shared}{H:Hp}{E:XK}{us:List Value}{vs:List V}
  (S:FnScope N ps scope) (hd:A.handled=none) (e0:Env0 P w K mg base A outer s H) (hl:vs.length=ps.length) (r:Vals vs us)
  (x:InCallC s s.heap.objs.size (bindL (envOfC qual scope s.heap.objs.size f cd).kindOf (ps.zip us) λ_=>none) (cellsFrom (s.heap.objs.size+1) scope.names []) (bindC (envOfC qual scope s.heap.objs.size f cd).kindOf (ps.zip us) λ_=>none) s1) :
  Inv (LT CX P w K mg base N qual scope f cd A outer s H E) [] (BB N vs) H s1:=by
 have hpl:ps.length<=N.length:=by have:=congrArg List.length S.pre;rw[gT]at this;omega
 obtain⟨h1,tk,rfl,hk⟩:=x.done;have noA:∀b:Addr,b∉(LT CX P w K mg base N qual scope f cd A outer s H E).ex:=λb z=>absurd (show b∈([]:List Addr)from z) (by simp);refine⟨⟨e0.mod,S.kind,rfl,rfl,mW _,λy z c h1 h2=>?_,λy hy=>?_,λy c _ h=>?_,λ_=>hd,Around.frames_deeper e0.frames,.inr ⟨rfl,rfl⟩,λb z=>absurd z (noA b),e0.bs,e0.bsz,λb _ _=>noA b,λb z=>absurd z (noA b),e0.funs,e0.frf⟩,
  rfl,e0.bare,Un.kept hk,⟨_,x.toInCall.ns,λi y v h1 h2 h3=>?_⟩,λy c h=>⟨_,x.cell y c h⟩,e0.hok.fresh uJ,λy c h=>?_,λp hp=>absurd (show p∈([]:List (Addr×Obj))from hp) (by simp),e0.hok.kept hk, ?_⟩
 ·exact name_of_addr x.apart (PySem.mem_of_lookup h1) (PySem.mem_of_lookup h2)
 ·have hy:scope.names.lookup y=some .cell∨scope.names.lookup y=some .free:=hy;rcases hy with hy | hy
  ·exact KG hy
  ·exact absurd rfl (S.nofree _ (PySem.mem_of_lookup hy))
 ·exact mT (x.above y c (PySem.mem_of_lookup h))
 ·have hi:i<vs.length:=by
   unfold BB at h2;by_cases hi:i<vs.length
   ·exact hi
   ·rw[List.getElem?_append_right (by simpa using hi)]at h2;rw[List.getElem?_replicate]at h2;split at h2<;>cases h2
  have ha:vs[i]? = some v:=by
   unfold BB at h2;rw[List.getElem?_append_left (by simpa using hi),gM]at h2;cases e:vs[i]? with
   | none=>rw[e]at h2;cases h2
   | some a=>rw[e]at h2;cases h2;rfl
  obtain⟨u,hu,rv⟩:=r.get ha;have hp:ps[i]? = some y:=by
   rw[<-S.pre,List.getElem?_take_of_lt (by omega)];exact h1
  have ndP:ps.Nodup:=by rw[<-S.pre];exact S.nd.sublist (List.take_sublist _ _)
  refine⟨u,rv, ?_⟩;rcases S.par y (uW hp)with k | k
  ·exact .inl ⟨k,FV ndP hp hu k⟩
  ·obtain⟨c,e⟩:=KG (n:=s.heap.objs.size+1) k;refine .inr ⟨.inl k,c,e, ?_⟩;have q:=x.cell y c e;rw[FX ndP hp hu (by show scope.names.lookup y≠_;rw[k];decide)]at q;exact q
 ·exact e0.hok.fresh (mT (x.above y c (PySem.mem_of_lookup h)))
 ·unfold BB;show _=N.length;rw[gE,hU,uU];omega
theorem fn_of{CX:CXT}{P:Program}{w:World}{K:nI}{mg:Str->Option Value}{base:Heap}{k:Nat}{f:Addr}{name qual:Str}{params:Arguments}{body:List Stmt}{scope:Scope}{dV kV doc pm cdv ct oc:Value}{an od:Option Addr}
  {osl:Array (Option Value)} {N ps:List Str} {sp:Sp} (lk:K.lookup f=some ⟨oc,od,.func (PySem.W.fnOf name qual params body scope dV kV doc pm an cdv ct),osl⟩) (hcd:PySem.W.codeIn K cdv qual=true) (S:FnScope N ps scope)
  (len:∀vs H Q E,sp vs H Q E->vs.length=ps.length)
  (hbody:∀(A:Around) (outer:List Env) (s:Shared) (H:Hp) (vs:List V) (Q:VK) (E:XK),Room k (A.deeper (envOfC qual scope s.heap.objs.size f cdv))->sp vs H Q E->
   ∃t,PSs (LT CX P w K mg base N qual scope f cdv A outer s H E) body t/\t { nx:=λ_ H'=>Q .non H',rt:=Q } (BB N vs) H) :
  FnOk P w K mg base CX (k+1) f (PySem.W.fnOf name qual params body scope dV kV doc pm an cdv ct) ps sp:=by
 refine⟨len,λA outer s H args us vs Q E hr e0 hb r hsp=>?_⟩;have hl:=len _ _ _ _ hsp;have KX:K.In s.heap:=e0.mod.kin.keeps λb o e=>(e0.bs b o e).1;have lim:s.heap.NoLimit:=e0.mod.nolimit.keeps λb o e=>(e0.bs b o e).1;have hkind:∀y∈ps.zip us,scope.names.lookup y.1=some .local∨(scope.names.lookup y.1=some .cell/\((cellsFrom (s.heap.objs.size+1) scope.names []).lookup y.1).isSome=true):=λ⟨n,v⟩ hy=>by
  rcases S.par n (List.of_mem_zip hy).1 with q | q
  ·exact .inl q
  ·exact .inr ⟨q,PySem.W.cellsFrom_some _ _ _ (.inl q)⟩
 refine codeAny_call_function hr.depth (KX _ _ lk) rfl S.co S.gen rfl (PySem.W.codeRec_of KX hcd) (hb _ _ _ _ ?_);refine wpAny_newFunctionEnv_cells S.kind hkind λenv he s1 x=>?_;subst he;refine⟨lim.keeps x.toInCall.keep,codeAny_func ?_⟩;obtain⟨t,ht,hq⟩:=hbody A outer s H vs Q E (hr.deeper _) hsp;have I:Inv (LT CX P w K mg base N qual scope f cdv A outer s H E) [] (BB N vs) H s1:=QN S hr.hd e0 hl r x;refine nF (ht [] s1 (BB N vs) H _ I hq) (λfl s' hs=>?_) λe s' hs=>hs;have fin:∀{σ':St} {H':Hp} {v:V} {u:Value},Inv (LT CX P w K mg base N qual scope f cdv A outer s H E) [] σ' H' s'->RelV v u->Q v H'->CE outer P w H s Q u s':=
  fun {σ' H' v u} J rv q=>⟨v,H',J.os,J.bare,J.base,J.hok,rv,q⟩
 cases fl with
 | ret u=>
  obtain⟨v,σ',H',J,rv,q⟩:=hs;exact fin J rv q
 | next=>
  obtain⟨σ',H',J,q⟩:=hs;exact fin (v:=V.non) (u:=Value.none) J rfl q
 | brk=>
  obtain⟨_,_,_,q⟩:=hs;exact False.elim q
 | cont=>
  obtain⟨_,_,_,q⟩:=hs;exact False.elim q
section
variable{X:Cx}{x:Str}{p pos:Pos}{e:Expr}{es:List Expr}{t:TA}{id T:String}{r:List V->Hp->VK->Prop}
def tCB(r:List V->Hp->VK->Prop)(t:TA):TE:=fun σ H Q=>t σ H λvs H1=>r vs H1 Q
theorem jX(hc:CallR X (.builtin id) r)(hg:Gl X x)(hm:X.mg x=none)(hv:bootBuiltins x=some (.builtin id))(ha:PA X (e::es) t)(hn:x≠"__name__":=by decide)(hdb:(x==("__debug__" :Str))=false:=by decide)
  (he:starEach (e::es) X.env=(false,eval e X.env)::starEach es X.env:=by rfl) (hpl:(backTo pos (starEach es X.env)).any (·.1)=false:=by rfl):PE X (.Call (.Name x p) (e::es) [] pos) (tCB r t):=by
 intro ac s σ H Q I h;refine wpAny_Call_Name_kw (xZ I hg hm hv ?_ hn hdb);exact PyProof.Rows.callWith_builtin1 (thn (ha pos ac s σ H _ I h) λus s1 ⟨vs,H1,I1,r1,q1⟩=>hc ac s1 σ H1 vs us Q I1 r1 q1) he hpl
theorem qS(hc:CallR X (.type T) r)(hg:Gl X x)(hm:X.mg x=none)(hv:bootBuiltins x=some (.type T))(ha:PA X (e::es) t)(hn:x≠"__name__":=by decide)(hdb:(x==("__debug__" :Str))=false:=by decide)
  (he:starEach (e::es) X.env=(false,eval e X.env)::starEach es X.env:=by rfl) (hpl:(backTo pos (starEach es X.env)).any (·.1)=false:=by rfl):PE X (.Call (.Name x p) (e::es) [] pos) (tCB r t):=by
 intro ac s σ H Q I h;refine wpAny_Call_Name_kw (xZ I hg hm hv ?_ hn hdb);exact PyProof.Rows.callWith_type1 (thn (ha pos ac s σ H _ I h) λus s1 ⟨vs,H1,I1,r1,q1⟩=>hc ac s1 σ H1 vs us Q I1 r1 q1) he hpl
end
end L2
namespace HT
open PySem PyProof.Rows
section
open PySem.SeqAt
open PySem.AutoSeq1 (wpAny_loadPart')
open PySem.MeetsSeq PySem.MeetsSeq2 PySem.MeetsSeq3
end
section
variable{prog:Program}{w:World}{A:Around}{E:Value->Shared->Prop}{s:Shared}
def sIx(n d:Nat):Option Int->Nat
 | none=>d
 | some v=>if v<0 then(v+(n:Int)).toNat else min v.toNat n
theorem sIx_none(n d:Nat):sIx n d none=d:=rfl
theorem sIx_nat(n d k:Nat):sIx n d (some (k:Int))=min k n:=by
 show(if (k:Int)<0 then((k:Int)+(n:Int)).toNat else min (k:Int).toNat n)=min k n;rw[nG (by omega),gS]
theorem sIx_le(n d:Nat)(hd:d<=n)(o:Option Int):sIx n d o<=n:=by
 cases o with
 | none=>exact hd
 | some v=>
  show(if v<0 then(v+(n:Int)).toNat else min v.toNat n)<=n;by_cases hv:v<0
  ·rw[nH hv];omega
  ·rw[nG hv];exact Nat.min_le_right _ _
theorem OP(v:Int)(n d:Nat):(if v<0 then max (v+(n:Int)) 0 else min v (n:Int))=((sIx n d (some v):Nat):Int):=by
 show(if v<0 then max (v+(n:Int)) 0 else min v (n:Int))=(((if v<0 then(v+(n:Int)).toNat else min v.toNat n):Nat):Int);by_cases hv:v<0
 ·simp only[nH hv];omega
 ·simp only[nG hv];omega
theorem MC(lo hi:Option Int)(n:Nat):Builtin.Slice.sliceAdjust lo hi 1 (n:Int)=(((sIx n 0 lo:Nat):Int),((sIx n n hi:Nat):Int)):=by
 have h1:¬((1:Int)<0):=by omega
 unfold Builtin.Slice.sliceAdjust;simp only[h1,if_false];refine Prod.ext ?_ ?_
 ·cases lo with
  | none=>rfl
  | some v=>exact OP v n 0
 ·cases hi with
  | none=>rfl
  | some v=>exact OP v n n
theorem LI(i j:Nat):Builtin.Slice.slicePlaces (i:Int) (j:Int) 1=j-i:=by
 unfold Builtin.Slice.slicePlaces;have h1:(1:Int)>0:=by omega
 simp only[h1,if_true,Int.ediv_one];split<;>omega
theorem CT{v:Value}{o:Option Int}{Q:Option Int->Shared->Prop}(p:IsPart v o)(h:Q o s):wpAny (model prog w) A (Builtin.Slice.slicePartIndex v) Q E s:=by
 cases p with
 | none=>exact slicePart_none h
 | int i t=>exact slicePart_int h
theorem yC{sl:Addr}{vl vu:Value}{lo hi:Option Int}{n:Nat}{Q:Int×Int×Nat->Shared->Prop}(hs:s.heap.IsSliceOf sl vl vu .none)(pl:IsPart vl lo)(pu:IsPart vu hi)
  (h:Q (((sIx n 0 lo:Nat):Int),1,sIx n n hi-sIx n 0 lo) s):wpAny (model prog w) A (Builtin.Slice.sliceApplied (.ref sl) (pure (n:Int))) Q E s:=by
 obtain⟨os,hos,hcs,hds⟩:=id hs;unfold Builtin.Slice.sliceApplied Builtin.Slice.sliceFields;refine nC (nC (wpAny_field hos hds (x:=vl) rfl (nC (wpAny_field hos hds (x:=vu) rfl (nC (wpAny_field hos hds (x:=.none) rfl (nE ?_)))))));refine nC (slicePart_none ?_);show wpAny _ _ (if ((1:Int)==0)=true then _ else _) _ _ s;rw[nG (by decide)];refine nC (CT pl (nC (CT pu (nC (nE ?_)))));show wpAny _ _ (match Builtin.Slice.sliceAdjust lo hi 1 (n:Int)with | (lo,hi)=>pure (lo,(1:Int),Builtin.Slice.slicePlaces lo hi 1)) _ _ s;rw[MC lo hi n];show wpAny _ _ (pure (((sIx n 0 lo:Nat):Int),(1:Int),Builtin.Slice.slicePlaces ((sIx n 0 lo:Nat):Int) ((sIx n n hi:Nat):Int) 1)) _ _ s;rw[LI];exact nE h
theorem TM(xs:Array Value)(i k:Nat):((List.range k).filterMap λ(m:Nat)=>xs[((i:Int)+(m:Int)*1).toNat]?).toArray=((xs.toList.drop i).take k).toArray:=by
 have e:(λ(m:Nat)=>xs[((i:Int)+(m:Int)*1).toNat]?)=λm=>xs[i+m]? :=by
  funext m
  have:((i:Int)+(m:Int)*1).toNat=i+m:=by omega
  rw[this]
 rw[e];have:=pick_run xs i k;rw[List.filterMap_map]at this;have e2:((λx=>xs[x]?) ∘ λx=>i+x)=λm=>xs[i+m]? :=rfl;rw[e2]at this;rw[this]
theorem getItem_tuple_cut{t sl:Addr}{items:Array Value}{vl vu:Value}{lo hi:Option Int}{Q:Value->Shared->Prop}(ht:IsTup s.heap t items)(hs:s.heap.IsSliceOf sl vl vu .none)(pl:IsPart vl lo)(pu:IsPart vu hi)
  (hw:¬(sIx items.size 0 lo=0/\sIx items.size items.size hi=items.size))
  (h:Q (.ref s.heap.objs.size) { s with heap:=s.heap.push { cls:=.type "tuple",data:=.seq ((items.toList.drop (sIx items.size 0 lo)).take (sIx items.size items.size hi-sIx items.size 0 lo)).toArray } })
  (hsz:items.size<=sizeLine):wpAny (model prog w) A (getItem (.ref t) (.ref sl)) Q E s:=by
 have htake:sizeOk (.seq ((items.toList.drop (sIx items.size 0 lo)).take (sIx items.size items.size hi-sIx items.size 0 lo)).toArray):=by
  show((items.toList.drop (sIx items.size 0 lo)).take (sIx items.size items.size hi-sIx items.size 0 lo)).toArray.size<=sizeLine;rw[gN,gT,List.length_drop,Array.length_toList];omega
 have hj:sIx items.size items.size hi<=items.size:=sIx_le _ _ uJ hi;obtain⟨os,hos,hcs,hds⟩:=id hs;have hTs:s.TypeIs (.ref sl) "slice":=⟨os,hos,hcs⟩;unfold getItem;try with_reducible refine wpAny_holding ?_
 first | refine nC (nE ?_) | skip
 refine nC (wpAny_sequenceKey ht.typeIs (by decide) ?_);refine nC (wpAny_callSpecial?_slot (name:=Str.ofString "__getitem__") ht.typeIs PyProof.Rows.slot_tuple_getitem
  (wpAny_call_entry PyProof.Rows.slot_tuple_getitem ht.typeIs entry_tuple_getitem ?_ (args_tuple_getitem _ _)))
 show wpAny _ _ (Builtin.Tuple.tupleItemsOf (.ref t) >>= _) _ _ s;refine nC (tupleItemsOf_ ht ?_);refine nC (wpAny_typeOf hTs ?_);rw[nH (by decide)];refine nC (yC hs pl pu ?_);have hno:¬((((sIx items.size 0 lo:Nat):Int)==0&&(1:Int)==1&&(sIx items.size items.size hi-sIx items.size 0 lo)==items.size)=true):=by
  intro q;rw[gY,gY]at q;have q1:((sIx items.size 0 lo:Nat):Int)=0:=eq_of_beq q.1.1;have q2:sIx items.size items.size hi-sIx items.size 0 lo=items.size:=eq_of_beq q.2;exact hw ⟨by omega,by omega⟩
 show wpAny _ _ (if (((sIx items.size 0 lo:Nat):Int)==0&&(1:Int)==1&&(sIx items.size items.size hi-sIx items.size 0 lo)==items.size)=true then _ else _) _ _ s;rw[nG hno,TM];first
  | exact nC (m:=Builtin.Tuple.tupleExact _) (wpAny_newObj_type (nE ⟨_,rfl,nE h⟩) htake)
  | exact nC (m:=Builtin.Tuple.tupleExact _) (wpAny_newObj_type (nC (nE (nE ⟨_,rfl,nE h⟩))) htake)
  | exact nC (nC (m:=Builtin.Tuple.tupleExact _) (wpAny_newObj_type (nE (nE ⟨_,rfl,nE h⟩)) htake))
  | exact nC (nC (m:=Builtin.Tuple.tupleExact _) (wpAny_newObj_type (nE ⟨_,rfl,nE h⟩) htake))
end
end HT
namespace L2
open PySem PySem.Spec PyProof.Rows
abbrev TO:=St->Hp->(Option Int->Hp->Prop)->Prop
def PO(X:Cx)(e:Option Expr)(t:TO):Prop:=
 ∀(ac:List (Addr×Obj)) (s:Shared) (σ:St) (H:Hp) (Q:Option Int->Hp->Prop),Inv X ac σ H s->t σ H Q->
  wpAny (model X.prog X.w) X.A (evalPart e X.env) (λu s'=>∃o H',Inv X ac σ H' s'/\IsPart u o/\Q o H') X.xe s
def tNoPart:TO:=λ_ H Q=>Q none H
def CM(t:TE):TO:=fun σ H Q=>t σ H λx H1=>∃i,x=.int i/\Q (some i) H1
theorem vD{ns:List Int} :∀{us:List Value},Vals (ns.map V.int) us->IntsAre us ns:=by
 induction ns with
 | nil=>intro us r;rw[List.map_nil]at r;cases r;exact .nil
 | cons n ns ih=>
  intro us r;rw[mH]at r;cases r with
  | cons r1 r2=>
   obtain⟨t,e⟩:=r1;subst e;exact .cons n t (ih r2)
section
variable{X:Cx}{e:Expr}{te:TE}{lo hi:Option Expr}{tl th:TO}{pos p2:Pos}
theorem uB:PO X none tNoPart:=by
 intro ac s σ H Q I h;rw[evalPart_none];exact nE ⟨none,H,I,.none,h⟩
theorem yK(h:PE X e te):PO X (some e) (CM te):=by
 intro ac s σ H Q I hw;rw[evalPart_some];refine thn (h ac s σ H _ I hw) λu s1 ⟨x,H1,I1,r1,q1⟩=>?_;obtain⟨i,rfl,q⟩:=q1;obtain⟨t,rfl⟩:=r1;exact⟨some i,H1,I1,.int i t,q⟩
def SlR(X:Cx)(r:V->Option Int->Option Int->Hp->VK->Prop):Prop:=
 ∀(ac:List (Addr×Obj)) (s:Shared) (σ:St) (H:Hp) (x:V) (v vl vu:Value) (lo hi:Option Int) (sl:Addr) (Q:VK),Inv X ac σ H s->RelV x v->s.heap.IsSliceOf sl vl vu .none->IsPart vl lo->IsPart vu hi->r x lo hi H Q->
  ∃T id,typeLookup (.type T) "__getitem__" = pure (some (.builtin id))/\s.TypeIs v T/\wpAny (model X.prog X.w) X.A (getItem v (.ref sl)) (EP X ac σ Q) X.xe s
def tSl(r:V->Option Int->Option Int->Hp->VK->Prop)(te:TE)(tl th:TO):TE:=fun σ H Q=>te σ H λx H1=>tl σ H1 λl H2=>th σ H2 λu H3=>r x l u H3 Q
theorem zD{r:V->Option Int->Option Int->Hp->VK->Prop}(hr:SlR X r)(he:PE X e te)(hl:PO X lo tl)(hu:PO X hi th):PE X (.Subscript e (.Slice lo hi none p2) pos) (tSl r te tl th):=by
 intro ac s σ H Q I h;refine Subscript_ (thn (he ac s σ H _ I h) λv s1 ⟨x,H1,I1,r1,q1⟩=>?_);refine wpAny_Slice (thn (hl ac s1 σ H1 _ I1 q1) λvl s2 ⟨l,H2,I2,pl,q2⟩=>thn (hu ac s2 σ H2 _ I2 q2) λvu s3 ⟨u,H3,I3,pu,q3⟩=>?_);rw[evalPart_none];refine nE ?_;have I4:Inv X ac σ H3 { s3 with heap:=s3.heap.push { cls:=.type "slice",data:=.fields #[vl,vu,.none] } } :=I3.kept (t':=s3.toks) λb ob q=>uS _ q;obtain⟨T,id,hT,ht,hg⟩:=hr ac { s3 with heap:=s3.heap.push { cls:=.type "slice",data:=.fields #[vl,vu,.none] } } σ H3 x v vl vu l u s3.heap.objs.size Q I4 r1 (Heap.IsSliceOf.new ..) pl pu q3;show wpAny (model X.prog X.w) X.A (subscriptTail e (.Slice lo hi none p2) v (.ref s3.heap.objs.size)) (EP X ac σ Q) X.xe { s3 with heap:=s3.heap.push { cls:=.type "slice",data:=.fields #[vl,vu,.none] } };exact tail_any (ops:=[.ref s3.heap.objs.size,v]) ht hT hg (by with_unfolding_all rfl)
def wC(xs:List V)(lo hi:Option Int):List V:=(xs.drop (HT.sIx xs.length 0 lo)).take (HT.sIx xs.length xs.length hi-HT.sIx xs.length 0 lo)
theorem BK(xs:List V)(lo hi:Option Int):(wC xs lo hi).length<=xs.length:=by
 unfold wC;rw[gT,List.length_drop];omega
def rSlT(K:nI):V->Option Int->Option Int->Hp->VK->Prop:=λx lo hi H Q=>∃a xs,x=.ref a/\SqT K H a xs/\
 ¬(HT.sIx xs.length 0 lo=0/\HT.sIx xs.length xs.length hi=xs.length)/\∀p,H p=none->Q (.ref p) (upd H p (.tup (wC xs lo hi)))
theorem SM:SlR X (rSlT X.K):=by
 intro ac s σ H x v vl vu lo hi sl Q I rx hs pl pu h;obtain⟨a,xs,rfl,hx,hw,q⟩:=h;cases rx;obtain⟨its,r,ht,hz⟩:=I.tuple hx;have hlen:its.toArray.size=xs.length:=by rw[gN];exact r.length.symm
 refine⟨"tuple",_,PyProof.Rows.slot_tuple_getitem.lookup,ht.typeIs, ?_⟩;refine HT.getItem_tuple_cut ht hs pl pu (by rw[hlen];exact hw) ?_ (by rw[hlen];exact hz);rw[hlen];refine⟨.ref s.heap.objs.size,_,I.laid (t':=s.toks) (o:=.tup (wC xs lo hi)) (λb ob q=>uS _ q) uJ ?_,rfl,q _ (I.hok.fresh uJ)⟩;exact⟨mN (BK xs lo hi) hz,_,(r.drop (HT.sIx xs.length 0 lo)).take (HT.sIx xs.length xs.length hi-HT.sIx xs.length 0 lo),IsTup.new _ _,.of (gC _ rfl) rfl⟩
end
def ixN(n:Nat)(i:Int):Option Nat:=if 0<=i then(if i<n then some i.toNat else none)else if -(n:Int)<=i then some (i+n).toNat else none
def atI{α:Type}(xs:List α)(i:Int):Option α:=(ixN xs.length i).bind λj=>xs[j]?
theorem OG{n:Nat}{i:Int}{j:Nat}(h:ixN n i=some j):seqIndex? i n=some j/\j<n/\-(n:Int)<=i/\i<n:=by
 unfold ixN at h;by_cases h0:0<=i
 ·rw[nH h0]at h;by_cases h1:i<n
  ·rw[nH h1]at h;have e:i.toNat=j:=Option.some.inj h;exact⟨by rw[seqIndex_of h0 h1,e],by omega,by omega,h1⟩
  ·rw[nG h1]at h;cases h
 ·rw[nG h0]at h;by_cases h1: -(n:Int)<=i
  ·rw[nH h1]at h;have e:(i+n).toNat=j:=Option.some.inj h;exact⟨by rw[seqIndex_neg (by omega) h1,e],by omega,h1,by omega⟩
  ·rw[nG h1]at h;cases h
theorem IH{α:Type}{xs:List α}{i:Int}{v:α}(h:atI xs i=some v):∃j,seqIndex? i xs.length=some j/\xs[j]? = some v/\j<xs.length/\-(xs.length:Int)<=i/\i<xs.length:=by
 unfold atI at h;cases e:ixN xs.length i with
 | none=>rw[e]at h;cases h
 | some j=>
  rw[e]at h;obtain⟨h1,h2,h3,h4⟩:=OG e;exact⟨j,h1,h,h2,h3,h4⟩
theorem vM{α:Type}{xs:List α}{j:Nat}{v:α}(h:xs[j]? = some v):atI xs (j:Int)=some v:=by
 have hj:j<xs.length:=(uQ.mp h).1;have e:ixN xs.length (j:Int)=some j:=by
  unfold ixN;rw[nH (by omega),nH (by omega)];simp
 unfold atI;rw[e];exact h
def PlainIx(b:Expr):Prop:=∀o i,subscripted b false o i=operate [o,i] (getItem o i)
def IxR(X:Cx)(r:R2):Prop:=
 ∀(value slice:Expr) (ac:List (Addr×Obj)) (s:Shared) (σ:St) (H:Hp) (x y:V) (v u:Value) (Q:VK),Inv X ac σ H s->RelV x v->RelV y u->r x y H Q->
  subscripted slice false v u=operate [v,u] (getItem v u)->wpAny (model X.prog X.w) X.A (subscriptTail value slice v u) (EP X ac σ Q) X.xe s
def MtR(X:Cx)(id:String)(r:V->List V->Hp->VK->Prop):Prop:=
 ∀(ac:List (Addr×Obj)) (s:Shared) (σ:St) (H:Hp) (x:V) (xs:List V) (v:Value) (us:List Value) (Q:VK),Inv X ac σ H s->RelV x v->Vals xs us->r x xs H Q->
  wpAny (model X.prog X.w) X.A (call (.builtin id) (v::us)) (EP X ac σ Q) X.xe s
section
variable{X:Cx}{a b:Expr}{ta tb:TE}{pos:Pos}
theorem kG{r:R2}(hr:IxR X r)(ha:PE X a ta)(hb:PE X b tb)(hs:PlainIx b):PE X (.Subscript a b pos) (tOp r ta tb):=by
 intro ac s σ H Q I h;exact Subscript_ (binT ha hb I h λv u s2 x y H2 I2 rx ry q=>hr a b ac s2 σ H2 x y v u Q I2 rx ry q (hs _ _))
def rIxL(K:nI):R2:=λx y H Q=>∃p xs i v,x=.ref p/\y=.int i/\SqL K H p xs/\atI xs i=some v/\Q v H
def rIxT(K:nI):R2:=λx y H Q=>∃p xs i v,x=.ref p/\y=.int i/\SqT K H p xs/\atI xs i=some v/\Q v H
theorem qG:IxR X (rIxL X.K):=by
 intro value slice ac s σ H x y v u Q I rx ry h hs;obtain⟨p,xs,i,z,rfl,rfl,hq,he,q⟩:=h;cases rx;obtain⟨t,rfl⟩:=ry;obtain⟨its,r,pl,hz⟩:=I.list hq;obtain⟨j,h1,h2,h3,h4,h5⟩:=IH he;obtain⟨w,ew,rw'⟩:=r.get h2;have hl:=r.length;have hn:=EK;have fin:EP X ac σ Q w s:=⟨z,H,I,rw',q⟩;by_cases h0:0<=i
 ·have hj:i.toNat=j:=by
   rw[seqIndex_of h0 h5]at h1;exact Option.some.inj h1
  exact item_listR pl.isList h0 (by omega) (by rw[hj];simpa using ew) fin hs
 ·have hj:(i+(its.toArray.size:Int)).toNat=j:=by
   rw[seqIndex_neg (by omega) h4]at h1;rw[gN,<-hl];exact Option.some.inj h1
  exact subscriptTail_builtinR (x:=w) pl.isList.typeIs slot_list_getitem.lookup
   (wpAny_getItem_list_neg (Q:=λr s'=>r=w/\EP X ac σ Q r s') pl.isList (by omega) (by rw[gN]<;>omega) (by omega) (by rw[hj];simpa using ew) ⟨rfl,fin⟩) hs
theorem kJ:IxR X (rIxT X.K):=by
 intro value slice ac s σ H x y v u Q I rx ry h hs;obtain⟨p,xs,i,z,rfl,rfl,hq,he,q⟩:=h;cases rx;obtain⟨t,rfl⟩:=ry;obtain⟨its,r,pl,hz⟩:=I.tuple hq;obtain⟨j,h1,h2,h3,h4,h5⟩:=IH he;obtain⟨w,ew,rw'⟩:=r.get h2;have hl:=r.length;have hn:=EK;have fin:EP X ac σ Q w s:=⟨z,H,I,rw',q⟩;exact subscriptTail_builtinR (x:=w) pl.typeIs slot_tuple_getitem.lookup
  (getItem_tuple (j:=j) (Q:=λr s'=>r=w/\EP X ac σ Q r s') pl (by omega) (by omega) (by rw[gN,<-hl];exact h1) (by simpa using ew) ⟨rfl,fin⟩) hs
theorem LM(its:List Value)(n j:Nat)(u:Value):Obj.mapSeq (·.setIfInBounds j u) { cls:=.type "list",data:=.seq its.toArray n } = { cls:=.type "list",data:=.seq (its.set j u).toArray n } :=by
 simp [Obj.mapSeq]
theorem Inv.lst{ac:List (Addr×Obj)}{σ:St}{H:Hp}{s:Shared}{p:Addr}{xs:List V}(I:Inv X ac σ H s)(h:H p=some (.lst xs)) :
  ∃(its:List Value) (n:Nat),Vals xs its/\s.heap.get? p=some { cls:=.type "list",data:=.seq its.toArray n }/\xs.length<=sizeLine:=by
 obtain⟨z,its,n,r,e⟩:=I.hok p _ h;exact⟨its,n,r,e,z⟩
theorem Inv.lstUpd{ac:List (Addr×Obj)}{σ:St}{H:Hp}{s:Shared}{p:Addr}{xs ys:List V}{its its':List Value}{n n':Nat}{f:Obj->Obj}(I:Inv X ac σ H s)(h:H p=some (.lst xs))
  (ho:s.heap.get? p=some { cls:=.type "list",data:=.seq its.toArray n }) (hf:f { cls:=.type "list",data:=.seq its.toArray n } = { cls:=.type "list",data:=.seq its'.toArray n' }) (r:Vals ys its') (hz:ys.length<=sizeLine) (t:Nat) :
  Inv X ac σ (upd H p (.lst ys)) { s with heap:=s.heap.update p f,toks:=t } :=by
 have e:(s.heap.update p f).get? p=some { cls:=.type "list",data:=.seq its'.toArray n' } :=by
  rw[Heap.get?_update_self f ho (by rw[hf]<;>rfl),hf]
 refine I.write (x:=p) (e:=p) (by rw[h];trivial) (.inl rfl) (λb u hb q=>(Heap.get?_update_other _ _ (Ne.symm hb)).trans q) ⟨_,e⟩ ?_;exact⟨hz,its',n',r,e⟩
def rSetL:V->V->V->Hp->(Hp->Prop)->Prop:=λo i v H Q=>∃p xs k j,o=.ref p/\i=.int k/\H p=some (.lst xs)/\ixN xs.length k=some j/\Q (upd H p (.lst (xs.set j v)))
theorem CV:PSet X rSetL:=by
 intro ac s σ H o i v ov iv u Q I ro ri rv h;obtain⟨p,xs,k,j,rfl,rfl,hp,hj,q⟩:=h;cases ro;obtain⟨t,rfl⟩:=ri;obtain⟨its,n,r,ho,hz⟩:=I.lst hp;obtain⟨h1,h2,h3,h4⟩:=OG hj;have hl:=r.length;have hn:=EK;have I':Inv X ac σ (upd H p (.lst (xs.set j v))) { s with heap:=s.heap.update p (Obj.mapSeq (·.setIfInBounds j u)) } :=
  I.lstUpd hp ho (LM its n j u) (r.set rv j) (by rw[List.length_set];exact hz) s.toks
 by_cases h0:0<=k
 ·have hk:k.toNat=j:=by
   rw[seqIndex_of h0 h4]at h1;exact Option.some.inj h1
  exact PySem.W.ki_setAt ho h0 (by omega) (by rw[gN,<-hl];exact h4) (by rw[hk];exact⟨_,I',q⟩)
 ·have hk:(k+(its.toArray.size:Int)).toNat=j:=by
   rw[seqIndex_neg (by omega) h3]at h1;rw[gN,<-hl];exact Option.some.inj h1
  exact PySem.W.ki_setBack ho (by omega) (by rw[gN,<-hl];exact h3) (by omega) (by rw[hk];exact⟨_,I',q⟩)
theorem GX(lo hi:Option Int)(n:Nat):(sliceBounds lo hi none n).1=((HT.sIx n 0 lo:Nat):Int)/\(sliceBounds lo hi none n).2.1=((HT.sIx n n hi:Nat):Int)/\(sliceBounds lo hi none n).2.2=1:=by
 refine⟨?_, ?_,rfl⟩
 ·cases lo with
  | none=>simp [sliceBounds,HT.sIx]
  | some i=>
   simp only[sliceBounds,HT.sIx,Option.getD_none,show(1:Int)>0 by decide,if_true];by_cases h:i<0
   ·simp only[h,if_true]<;>omega
   ·simp only[h,if_false]<;>omega
 ·cases hi with
  | none=>simp [sliceBounds,HT.sIx]
  | some i=>
   simp only[sliceBounds,HT.sIx,Option.getD_none,show(1:Int)>0 by decide,if_true];by_cases h:i<0
   ·simp only[h,if_true]<;>omega
   ·simp only[h,if_false]<;>omega
theorem FA(its:List Value)(lo hi:Option Int):slicePick its.toArray lo hi none=((its.drop (HT.sIx its.length 0 lo)).take (HT.sIx its.length its.length hi-HT.sIx its.length 0 lo)).toArray:=by
 obtain⟨h1,h2,h3⟩:=GX lo hi its.toArray.size;unfold slicePick;rw[h1,h2,h3];simp only[sliceRange_one,pick_run,gN]<;>rfl
def rSlL(K:nI):V->Option Int->Option Int->Hp->VK->Prop:=λx lo hi H Q=>∃a xs,x=.ref a/\SqL K H a xs/\∀p,H p=none->Q (.ref p) (upd H p (.lst (wC xs lo hi)))
theorem XA:SlR X (rSlL X.K):=by
 intro ac s σ H x v vl vu lo hi sl Q I rx hs pl pu h;obtain⟨a,xs,rfl,hx,q⟩:=h;cases rx;obtain⟨its,r,ht,hz⟩:=I.list hx;have hlen:=r.length;refine⟨"list",_,slot_list_getitem.lookup,ht.isList.typeIs, ?_⟩;refine wpAny_getItem_list_slice ht.isList hs pl pu .none (by simp) ?_ (by rw[gN]<;>omega);rw[FA,<-hlen];refine⟨.ref s.heap.objs.size,_,I.laid (t':=s.toks) (o:=.lst (wC xs lo hi)) (λb ob q=>uS _ q) uJ ?_,rfl,q _ (I.hok.fresh uJ)⟩;exact⟨mN (BK xs lo hi) hz,_,0,(r.drop (HT.sIx xs.length 0 lo)).take (HT.sIx xs.length xs.length hi-HT.sIx xs.length 0 lo),gC _ rfl⟩
theorem jW:CallR X (.builtin "len") (λxs H Q=>∃p ys,xs=[.ref p]/\(SqL X.K H p ys∨SqT X.K H p ys)/\Q (.int ys.length) H):=by
 intro ac s σ H xs us Q I r h;obtain⟨p,ys,rfl,hq,q⟩:=h;obtain⟨u,rfl,rx⟩:=xG r;cases rx;have hn:=EK;rcases hq with hq | hq
 ·obtain⟨its,r',pl,hz⟩:=I.list hq;have hlen:=r'.length;exact Calls.call_len_list pl.isList (by simp only[gN]<;>omega) ⟨.int ys.length,H,I.tok _,⟨s.toks+1,by rw[gN,hlen]⟩,q⟩
 ·obtain⟨its,r',pl,hz⟩:=I.tuple hq;have hlen:=r'.length;exact len_tuple pl (by simp only[gN]<;>omega) ⟨.int ys.length,H,I.tok _,⟨s.toks+1,by rw[gN,hlen]⟩,q⟩
theorem IF:CallR X (.type "list") (λxs H Q=>∃p ys,xs=[.ref p]/\(SqL X.K H p ys∨SqT X.K H p ys)/\∀l,H l=none->Q (.ref l) (upd H l (.lst ys))):=by
 intro ac s σ H xs us Q I r h;obtain⟨p,ys,rfl,hq,q⟩:=h;obtain⟨u,rfl,rx⟩:=xG r;cases rx;have fin:∀(its:List Value),Vals ys its->ys.length<=sizeLine->∀(h':Heap) (c':Nat),(∀b o',s.heap.get? b=some o'->h'.get? b=some o')->
   h'.get? s.heap.objs.size=some { cls:=.type "list",dict:=none,data:=.seq its.toArray c',slots:=#[] }->EP X ac σ Q (.ref s.heap.objs.size) { s with heap:=h' } :=λits r' hz h' c' kp e=>
  ⟨.ref s.heap.objs.size,_,I.laid (t':=s.toks) kp uJ (show ObjOk X.prog X.w _ h' _ (.lst ys)from⟨hz,its,c',r',e⟩),rfl,q _ (I.hok.fresh uJ)⟩
 rcases hq with hq | hq
 ·obtain⟨its,r',pl,hz⟩:=I.list hq;have hlen:=r'.length;obtain⟨o,ho,hc,n,hd⟩:=pl.isList;exact call_list_seq p (.inl rfl) ho hc hd (λh' c' kp e=>fin its r' hz h' c' kp e) (by simp only[gN]<;>omega)
 ·obtain⟨its,r',pl,hz⟩:=I.tuple hq;have hlen:=r'.length;obtain⟨o,ho,hc,n,hd⟩:=pl;exact call_list_seq p (.inr rfl) ho hc hd (λh' c' kp e=>fin its r' hz h' c' kp e) (by simp only[gN]<;>omega)
theorem vV:CallR X (.type "tuple") (λxs H Q=>∃p ys,xs=[.ref p]/\((SqL X.K H p ys/\∀l,H l=none->Q (.ref l) (upd H l (.tup ys)))∨(SqT X.K H p ys/\Q (.ref p) H))):=by
 intro ac s σ H xs us Q I r h;obtain⟨p,ys,rfl,h⟩:=h;obtain⟨u,rfl,rx⟩:=xG r;cases rx;rcases h with⟨hq,q⟩ | ⟨hq,q⟩
 ·obtain⟨its,r',pl,hz⟩:=I.list hq;have hlen:=r'.length;refine call_tuple_list pl.isList (λh' kp=>?_) (by simp only[gN]<;>omega);have I1:Inv X ac σ H { s with heap:=h' } :=I.kept (t':=s.toks) kp;have I2:Inv X ac σ (upd H h'.objs.size (.tup ys)) { s with heap:=h'.push { cls:=.type "tuple",data:=.seq its.toArray } } :=
   I1.laid (t':=s.toks) (λb o e=>uS _ e) uJ (show ObjOk X.prog X.w _ _ _ (.tup ys)from⟨hz,its,r',IsTup.new _ _,.of (gC _ rfl) rfl⟩)
  exact⟨.ref h'.objs.size,_,I2,rfl,q _ (I1.hok.fresh uJ)⟩
 ·obtain⟨its,r',pl,hz⟩:=I.tuple hq;exact call_tuple_same pl ⟨.ref p,H,I,rfl,q⟩
def tyV(K:nI)(T:String)(x:V)(H:Hp):Prop:=match x with
 | .str _=>T="str"
 | .int _=>T="int"
 | .ref p=>(T="list"/\∃xs,SqL K H p xs)∨(T="tuple"/\∃o,K.lookup p=some o/\o.cls=.type "tuple"/\o.dict=none)∨
   (T="dict"/\((∃ag,H p=some (.dK ag))∨∃ag,H p=some (.dT ag)))∨(T="set"/\∃S n,H p=some (.set S n))∨(T="tuple"/\∃xs,H p=some (.tup xs))
 | _=>False
theorem RG{ac:List (Addr×Obj)}{σ:St}{H:Hp}{s:Shared}{T:String}{x:V}{v:Value}(I:Inv X ac σ H s)(r:RelV x v)(ty:tyV X.K T x H) :
  s.TypeIs v T/\∀a,v=.ref a->∃ob,s.heap.get? a=some ob/\ob.dict=none:=by
 cases x with
 | str z=>
  obtain⟨t,rfl⟩:=r;cases (show T="str" from ty);exact⟨typeIs_str s z t,λ_ e=>nomatch e⟩
 | int i=>
  obtain⟨t,rfl⟩:=r;cases (show T="int" from ty);exact⟨typeIs_int s i t,λ_ e=>nomatch e⟩
 | ref p=>
  cases r;rcases ty with⟨rfl,xs,hq⟩ | ⟨rfl,o,hk,hc,hd⟩ | ⟨rfl,hk⟩ | ⟨rfl,S,n,hk⟩ | ⟨rfl,xs,hk⟩
  rotate_left 4
  ·obtain⟨_,its,_,⟨o,h1,h2,_⟩,nd⟩:=(show ObjOk X.prog X.w H s.heap p (.tup xs)from I.hok p _ hk);exact⟨⟨o,h1,h2⟩,λa e=>by cases e;exact⟨o,h1,nd _ h1⟩⟩
  ·obtain⟨its,_,pl,_⟩:=I.list hq;refine⟨pl.isList.typeIs,λa e=>?_⟩;cases e;obtain⟨o,n,e,c,hd,_⟩:=pl;exact⟨o,e,hd⟩
  ·refine⟨⟨o,I.kIn p o hk,hc⟩,λa e=>?_⟩;cases e;exact⟨o,I.kIn _ o hk,hd⟩
  ·have z:∃o,s.heap.get? p=some o/\o.ExactDict:=by
    rcases hk with⟨ag,hk⟩ | ⟨ag,hk⟩
    ·obtain⟨_,_,_,_,o,_,_,e,ex,_⟩:=I.hok p _ hk;exact⟨o,e,ex⟩
    ·obtain⟨_,_,_,_,o,_,_,e,ex,_⟩:=I.hok p _ hk;exact⟨o,e,ex⟩
   obtain⟨o,e,ex⟩:=z;refine⟨⟨o,e,ex.1⟩,λa e2=>?_⟩;cases e2;exact⟨o,e,ex.2.1⟩
  ·obtain⟨o,_,_,_,e,ex,_⟩:=I.hok p _ hk;refine⟨⟨o,e,ex.1⟩,λa e2=>?_⟩;cases e2;exact⟨o,e,ex.2.1⟩
 | _=>exact False.elim ty
def tBM0(K:nI)(T:String)(r:V->List V->Hp->VK->Prop)(to:TE):TE:=fun σ H Q=>to σ H λx H1=>tyV K T x H1/\r x [] H1 Q
def tBM(K:nI)(T:String)(r:V->List V->Hp->VK->Prop)(to:TE)(t:TA):TE:=fun σ H Q=>to σ H λx H1=>tyV K T x H1/\t σ H1 λxs H2=>r x xs H2 Q
variable{o e:Expr}{es:List Expr}{to:TE}{t:TA}{name:Str}{apos cpos:Pos}{T id:String}{r:V->List V->Hp->VK->Prop}
theorem TV(pa:PlainAttrs T)(slot:Slot T name id)(hty:typeOf (.builtin id)=pure (.type "method_descriptor"))(hm:MtR X id r)(ho:PE X o to)
  (hbase:attributeBase o name X.env (eval o X.env)=eval o X.env:=by rfl) (hline:(apos.endLine==cpos.line)=true:=by rfl):PE X (.Call (.Attribute o name apos) [] [] cpos) (tBM0 X.K T r to):=by
 intro ac s σ H Q I h;refine wpAny_Call_method0_late hbase hline (thn (ho ac s σ H _ I h) λv s1 ⟨x,H1,I1,r1,ty,q1⟩=>?_);obtain⟨h1,h2⟩:=RG I1 r1 ty;exact⟨T,id,pa,slot,hty,h1,h2,Calls.callWith_builtin rfl (PySem.evalArgs_none (hm ac s1 σ H1 x [] v [] Q I1 r1 .nil q1))⟩
theorem uC(pa:PlainAttrs T)(slot:Slot T name id)(hty:typeOf (.builtin id)=pure (.type "method_descriptor"))(hm:MtR X id r)(ho:PE X o to)(ha:PA X (e::es) t)
  (hbase:attributeBase o name X.env (eval o X.env)=eval o X.env:=by rfl)
  (hfew:((backTo cpos (starEach (e::es) X.env)).all (λx=>!x.1)&&(backToKw cpos (keywordEach [] X.env)).all (λx=>x.1.isSome)
   &&decide ((e::es).length+([]:List Keyword).length+(if ([]:List Keyword).isEmpty then 0 else 1)<30))=true:=by rfl)
  (hline:(apos.endLine==cpos.line)=true:=by rfl) (hs:starEach (e::es) X.env=(false,eval e X.env)::starEach es X.env:=by rfl) (hplain:(backTo cpos (starEach es X.env)).any (·.1)=false:=by rfl) :
  PE X (.Call (.Attribute o name apos) (e::es) [] cpos) (tBM X.K T r to t):=by
 intro ac s σ H Q I h;refine wpAny_Call_method_late hbase hfew hline rfl (thn (ho ac s σ H _ I h) λv s1 ⟨x,H1,I1,r1,ty,q1⟩=>?_);obtain⟨h1,h2⟩:=RG I1 r1 ty;refine⟨T,id,pa,slot,hty,h1,h2, ?_⟩;have hA:=ha cpos ac s1 σ H1 _ I1 q1;rw[hs]at hA ⊢;refine Calls.callWith_builtin (by show(false||(backTo cpos (starEach es X.env)).any (·.1))=false;rw[hplain]<;>rfl) (Calls.evalArgs_plain ?_);exact thn hA λus s2 ⟨vs,H2,I2,r2,q2⟩=>hm ac s2 σ H2 x vs v us Q I2 r1 r2 q2
end
def MtM(X:Cx)(id:String)(r:V->List V->Hp->VK->Prop):Prop:=
 ∀(ac:List (Addr×Obj)) (s:Shared) (σ:St) (H:Hp) (x:V) (xs:List V) (v:Value) (us:List Value) (Q:VK),Inv X ac σ H s->RelV x v->Vals xs us->r x xs H Q->
  wpAny (model X.prog X.w) X.A (call (.builtin id) (v::us)) (EP X ac σ Q) X.xe s
theorem Vals.one:∀{x:V} {us:List Value},Vals [x] us->∃u,us=[u]/\RelV x u
 | _,_,.cons r .nil=>⟨_,rfl,r⟩
section
variable{X:Cx}{ac:List (Addr×Obj)}{σ:St}{H:Hp}{s:Shared}{l b:Addr}{xs ys zs:List V}
theorem Inv.lset{its its':List Value}{n:Nat}{f:Array Value->Array Value}{t':Nat}(I:Inv X ac σ H s)(hH:H l=some (.lst xs))
  (e:s.heap.get? l=some { cls:=.type "list",data:=.seq its.toArray n }) (hf:f its.toArray=its'.toArray) (hv:Vals ys its') (hz:ys.length<=sizeLine) :
  Inv X ac σ (upd H l (.lst ys)) { s with heap:=s.heap.update l (Obj.mapSeq f),toks:=t' } :=by
 have q:=PySem.IsL.update e f;rw[hf]at q;refine I.write (x:=l) (e:=l) (by rw[hH];exact trivial) (.inl rfl) (λb' u hb hu=>(Heap.get?_update_other s.heap (Obj.mapSeq f) (Ne.symm hb)).trans hu) ⟨_,q⟩ ?_;exact⟨hz,its',_,hv,q⟩
theorem Inv.lnew{its:List Value}{t':Nat}(I:Inv X ac σ H s)(hv:Vals ys its)(hz:ys.length<=sizeLine) :
  Inv X ac σ (upd H s.heap.objs.size (.lst ys)) { s with heap:=s.heap.push { cls:=.type "list",data:=.seq its.toArray },toks:=t' } :=
 I.laid (λ_ _ q=>uS _ q) uJ ⟨hz,its,0,hv,gC _ rfl⟩
theorem Inv.fresh(I:Inv X ac σ H s):H s.heap.objs.size=none:=I.hok.fresh uJ 
theorem Inv.lstM(I:Inv X ac σ H s)(hH:H l=some (.lst xs)):xs.length<=sizeLine/\∃(its:List Value) (n:Nat),Vals xs its/\xs.length=its.length/\s.heap.get? l=some { cls:=.type "list",data:=.seq its.toArray n } :=by
 obtain⟨z,its,n,r,e⟩:=I.hok l _ hH;exact⟨z,its,n,r,r.length,e⟩
theorem UQ{n:Nat}(h:n<=sizeLine):Builtin.List.listTooLong n=false:=by
 unfold Builtin.List.listTooLong;exact hW (by omega)
end
section
variable{X:Cx}
def rAppend:V->List V->Hp->VK->Prop:=λx vs H Q=>∃l xs y,x=.ref l/\vs=[y]/\H l=some (.lst xs)/\xs.length<sizeLine/\Q .non (upd H l (.lst (xs++[y])))
theorem qE:MtM X "list.append" rAppend:=by
 intro ac s σ H x vs v us Q I rx rv h;obtain⟨l,xs,y,rfl,rfl,hH,hz,q⟩:=h;cases rx;obtain⟨u,rfl,ru⟩:=rv.one;obtain⟨z,its,n,r,hl,e⟩:=I.lstM hH;refine call_meets F.slot_list_append ⟨_,e,rfl⟩ F.entry_list_append (F.args_list_append_2 _ _) (PySem.list_append l its.toArray n u (by rw[gN];omega)) ⟨e, ?_⟩;refine⟨.non,_,I.lset (its':=its++[u]) hH e (by simp) (r.append (.cons ru .nil)) ?_,rfl,q⟩;rw[gE,List.length_singleton];omega
def rExtend:V->List V->Hp->VK->Prop:=λx vs H Q=>∃l b xs zs,x=.ref l/\vs=[.ref b]/\H l=some (.lst xs)/\H b=some (.lst zs)/\xs.length+zs.length<=sizeLine/\Q .non (upd H l (.lst (xs++zs)))
theorem mt_extend:MtM X "list.extend" rExtend:=by
 intro ac s σ H x vs v us Q I rx rv h;obtain⟨l,b,xs,zs,rfl,rfl,hH,hB,hz,q⟩:=h;cases rx;obtain⟨u,rfl,ru⟩:=rv.one;cases ru;obtain⟨z,its,n,r,hl,e⟩:=I.lstM hH;obtain⟨z2,its2,n2,r2,hl2,e2⟩:=I.lstM hB;have hsz:its.toArray.size+its2.toArray.size<=sizeLine:=by rw[gN,gN];omega
 have hlong:¬(!its.toArray.isEmpty&&Builtin.List.listTooLong (its.toArray.size+its2.toArray.size))=true:=by
  rw[UQ hsz,Bool.and_false];exact gF
 refine call_meets F.slot_list_extend ⟨_,e,rfl⟩ F.entry_list_extend (F.args_list_extend_2 _ _)
  (AutoSeq1.list_extend_list_list_0 l its.toArray n b its2.toArray n2 hlong (by rw[gN];omega) (by omega)) ⟨e,e2, ?_⟩
 refine⟨.non,_,I.lset (its':=its++its2) hH e (by simp) (r.append r2) ?_,rfl,q⟩;rw[gE];omega
def rCat:R2:=λx y H Q=>∃l b xs zs,x=.ref l/\y=.ref b/\H l=some (.lst xs)/\H b=some (.lst zs)/\xs.length+zs.length<=sizeLine/\∀p,H p=none->Q (.ref p) (upd H p (.lst (xs++zs)))
theorem op_cat:OpR X (binaryOp .Add) rCat:=by
 intro ac s σ H x y v u Q I rx ry h;obtain⟨l,b,xs,zs,rfl,rfl,hH,hB,hz,q⟩:=h;cases rx;cases ry;obtain⟨z,its,n,r,hl,e⟩:=I.lstM hH;obtain⟨z2,its2,n2,r2,hl2,e2⟩:=I.lstM hB;refine PySem.P.add_list e e2 ?_ (by rw[gN,gN];omega);have ea:its.toArray++its2.toArray=(its++its2).toArray:=by simp
 rw[ea];exact⟨.ref _,_,I.lnew (t':=s.toks) (r.append r2) (by rw[gE];omega),rfl,q _ I.fresh⟩
end
section
variable{prog:Program}{w:World}{A:Around}{E:Value->Shared->Prop}{s:Shared}
set_option maxRecDepth 100000 in
end
section
variable{X:Cx}
end
end L2
namespace Att
open PySem PySem.W PySem.Calls PyProof.Rows
theorem BN{P:Params}{h:Heap} :∀(ns:List Int) (vs:List Value),WellAll P h vs (ns.map WData.int)->IntsAre vs ns:=by
 intro ns;induction ns with
 | nil=>
  intro vs w;rw[List.map_nil]at w;cases w;exact .nil
 | cons n ns ih=>
  intro vs w;rw[mH]at w;cases w with
  | cons a b=>
   cases a;exact .cons _ _ (ih _ b)
theorem PB{l:OpenLaw}{n:Nat}(hn:l.most=some n){P:Params}{h:Heap}{args:List WData}{vals:List Value}
  (hpre:l.row.toRowW.claim.pre args=true) (hwl:WellAll P h vals args) :
  ∃a vs ns,vals=[Value.ref a]/\args=[WData.list (ns.map WData.int)]/\h.get? a=some { cls:=.type "list",data:=.seq vs.toArray }/\IntsAre vs ns/\ns.length<=n:=by
 have hsh:WShape.hasAll [] args [.list .int]=true:=(pre_splitW hpre).1;have hc:l.pre.holds [] { args:=args } = true:=(pre_splitW hpre).2;obtain⟨d,r,rfl,h1,h2⟩:=hasAllW_cons hsh;obtain rfl:=hasAllW_nil h2;obtain⟨xs,rfl,h3⟩:=hasW_list h1;obtain⟨ns,rfl⟩:=items_int h3;have hlen:ns.length<=n:=by
  unfold OpenLaw.pre at hc;have h4:(WTm.not (.lt (.lit (.int (n:Int))) (.len (.arg 0)))).holds [] { args:=[.list (ns.map .int)] } = true:=by
   have h4:=(holds_andW hc).1;rw[hn]at h4;exact h4
  have h5:=condW_of h4 (w_not (w_lt w_lit (w_len_list (w_arg rfl))));rw[hU]at h5;refine Nat.le_of_not_lt λq=>?_;have q':(n:Int)<((ns.length:Nat):Int):=by omega
  first
   | (rw[mC q']at h5;exact absurd h5 (by decide))
   | (simp at h5;omega)
 cases hwl with
 | cons w1 w2=>
  cases w2;cases w1 with
  | list ho hall=>exact⟨_,_,ns,rfl,rfl,ho,BN ns _ hall,hlen⟩
theorem PM(l:OpenLaw)(args:List WData):l.row.toRowW.claim.post args (.bool true) args=true:=
 postW_of (r:=l.row.toRowW) (X:=(true==true))
  (show WShape.has [] (.bool true) .bool=true by first | rfl | decide | simp [WShape.has,WShape.arms,WShape.armsAll])
  (show(WTm.eq .res (.lit (.bool true))).value [] { args:=args,res:=some (.bool true),after:=args } = some (.bool (true==true))from w_eq_bool (w_res rfl) w_lit) rfl
theorem attach_call{l:OpenLaw}{n:Nat}{q:Program}{loose:List Str}{XP:(Str->Option Value)->Heap->Prop}{YP:World->Heap->Prop}{d:DefRec}
  (hn:l.most=some n) (hdf:d.params.defaults=[])
  (call:∀(w:World) (s₀ s₁:Shared) (mg mb:Str->Option Value) (fa:Addr) (o:Obj) (pm cd doc:Value) (a:Addr) (vs:List Value) (ns:List Int),
   Ground q loose [] XP w s₀ mg mb s₁.heap->YP w s₁.heap->
   s₁.heap.get? fa=some o->o.data=.func (docDef d.name d.params d.body d.scope pm cd doc)->s₁.heap.CodeRec cd d.name->mg d.name=some (.ref fa)->
   s₁.heap.get? a=some { cls:=.type "list",data:=.seq vs.toArray }->IntsAre vs ns->ns.length<=n->s₁.gens = #[]->
   codeAny (model l.prog w) callerA (.call (.ref fa) ⟨[.ref a],[]⟩) (λr s'=>r=.ok (.ret (.bool true))/\OldK s₁.heap s'.heap/\s'.os=s₁.os/\AllBare s'.gens) s₁) :
  WalkO q loose XP YP l.row.toRowW d [] (λf vs=>PySem.call f vs):=by
 intro w s₀ s₁ mg mb G Y fa o pm cd doc dV kV ho hd hcd hD hmg hg args vals as hpre hlay hrd hwl hlo;obtain rfl:dV=.none:=Dflts.none hD hdf;obtain rfl:kV=.none:=Dflts.noKw hD;obtain⟨a,vs,ns,rfl,rfl,hobj,hints,hlen⟩:=PB hn hpre hwl;refine enter_call (codeAny_mono (call w s₀ s₁ mg mb fa o pm cd doc a vs ns G Y ho (fd_plain hd) hcd hmg hobj hints hlen hg) λr s' hq=>?_);obtain⟨rfl,h2,h3,h4⟩:=hq;exact⟨.inl ⟨.bool true,.bool true,[],rfl,λ_=>rfl,.bool true,PM l _,λ_=>⟨List.Pairwise.nil,λ_ hm=>(nomatch hm)⟩⟩,h2,h3,h4⟩
section
variable{prog:Program}{w:World}{A:Around}{E:Value->Shared->Prop}{s:Shared}{K:Frag}
end
end Att
namespace L2
open PySem PySem.Spec PyProof.Rows
theorem FD:∀{vs:List Value} {ns:List Int},IntsAre vs ns->Vals (ns.map V.int) vs
 | _,_,.nil=>.nil
 | _,_,.cons n t h=>.cons ⟨t,rfl⟩ (FD h)
def Only(H:Hp):Prop:=∀b,H b=none∨∃o xs,H b=some (.frz o (.lst xs))
theorem VJ{P:Program}{w:World}{K:nI}{mg mb:Str->Option Value}{CX:CXT}{k:Nat}{fa a:Addr}{fd:FuncData}{x:Str}{sp:Sp}{s₁:Shared}{vs:List Value}{ns:List Int}
  (KX:K.In s₁.heap) (hns:s₁.heap.Ns mainGlobals mg) (hb:s₁.heap.Ns builtinsNs mb) (hbb:∀x:Str,x≠"__name__"->mb x=bootBuiltins x) (hlim:s₁.heap.NoLimit) (hg:s₁.gens = #[])
  (ha:s₁.heap.get? a=some { cls:=.type "list",data:=.seq vs.toArray }) (hi:IntsAre vs ns) (hl:ns.length<=sizeLine) (hr:Room k callerA)
  (F:∀base:Heap,K.In base->base.Ns mainGlobals mg->FnOk P w K mg base CX k fa fd [x] sp) (hbind:∀(s:Shared) (u:Value),BindsTo s fd ⟨[u],[]⟩ [(x,u)])
  (hsp:∀H:Hp,Only H->SqL K H a (ns.map V.int)->sp [.ref a] H (λv _=>v=.bl true) λ_ _ _=>False)
  (hCX:∀H e s',CX [] H s₁ (λ_ _ _=>False) e s'->False) :
  codeAny (model P w) callerA (.call (.ref fa) ⟨[.ref a],[]⟩) (λr s'=>r=.ok (.ret (.bool true))/\OldK s₁.heap s'.heap/\s'.os=s₁.os/\AllBare s'.gens) s₁:=by
 have rv:=FD hi;have lenV:=hi.length;have core:∀H:Hp,Only H->SqL K H a (ns.map V.int)->HOk P w H s₁.heap->(∀b,H b≠none->b=a)->(H a≠none->K.lookup a=none)->
   codeAny (model P w) callerA (.call (.ref fa) ⟨[.ref a],[]⟩) (λr s'=>r=.ok (.ret (.bool true))/\OldK s₁.heap s'.heap/\s'.os=s₁.os/\AllBare s'.gens) s₁:=by
  intro H hO hS hok hA hK;have base_of:∀{b:Addr} {o:Obj},s₁.heap.get? b=some o->H b=none->(IA s₁.heap H).get? b=some o:=λe n=>VQ e n;have noA:∀{b:Addr} {o:Obj} {es:Array DictEntry} {ep:Nat},s₁.heap.get? b=some o->o.data=.dict es ep->H b=none:=fun {b o es ep} e d=>by
   cases q:H b with
   | none=>rfl
   | some u=>
    have e':b=a:=hA b (by rw[q];simp);subst e';rw[ha]at e;cases e;have d':Data.seq vs.toArray _=Data.dict es ep:=d;cases d'
  have nsK:∀{b:Addr} {m:Str->Option Value},s₁.heap.Ns b m->(IA s₁.heap H).Ns b m:=fun {b m} ⟨o,es,ep,e,d,r⟩=>⟨o,es,ep,base_of e (noA e d),d,r⟩;have hKb:K.In (IA s₁.heap H):=λb o e=>base_of (KX b o e) (by
   cases q:H b with
   | none=>rfl
   | some u=>
    have e':b=a:=hA b (by rw[q];simp);subst e';rw[hK (by rw[q];simp)]at e;cases e)
  have hM:Mod K mg (IA s₁.heap H):=⟨hKb,nsK hns,⟨mb,nsK hb,hbb⟩,let ⟨mc,h1,h2⟩:=hlim;⟨mc,nsK h1,h2⟩⟩;have e0:Env0 P w K mg (IA s₁.heap H) callerA [] s₁ H:=⟨rfl,hM,λb o e=>YX e,Nat.le_of_eq (QO _ _),trivial,λb hb=>absurd (show b∈([]:List Addr)from hb) (by simp),hok,.of_eq hg⟩;refine codeAny_mono ((F _ hKb (nsK hns)).run callerA [] s₁ H ⟨[.ref a],[]⟩ [.ref a] [.ref a] _ _ hr e0 (hbind s₁ (.ref a)) (.cons rfl .nil) (hsp H hO hS)) λr s' h=>?_;cases r with
  | error e=>exact(hCX H e s' h).elim
  | ok fl=>
   cases fl with
   | next=>exact False.elim h
   | brk=>exact False.elim h
   | cont=>exact False.elim h
   | ret u=>
    obtain⟨v,H',os,bare,un,hok',r',q⟩:=h;have q':v=.bl true:=q;subst q';obtain rfl:u=Value.bool true:=r';refine⟨rfl,OldK.of_keep λb o e=>?_,os,bare⟩;cases q:H b with
    | none=>exact un.keep b o e q (by intro z;exact absurd (show b∈([]:List Addr)from z) (by simp)) (by simp)
    | some u=>
     rcases hO b with z | ⟨ob,xs,z⟩
     ·rw[q]at z;cases z
     ·have z2:=un.frzs b ob _ z;obtain⟨e1,_⟩:=hok b _ z;obtain⟨e2,_⟩:=hok' b _ z2;rw[e]at e1;cases e1;exact e2
 cases hk:K.lookup a with
 | some o=>
  have e:=KX a o hk;rw[ha]at e;cases e;refine core (λ_=>none) (λ_=>.inl rfl) (.inr ⟨_,vs.toArray,_,hk,rfl,rfl,rfl,by rw[gN,lenV];exact hl,by simpa using rv⟩) (λb u z=>by have z':(none:Option HO)=some u:=z;cases z') (λb z=>absurd rfl z) λz=>absurd rfl z
 | none=>
  refine core (λb=>if b=a then some (.frz { cls:=.type "list",data:=.seq vs.toArray } (.lst (ns.map V.int)))else none) (λb=>?_) (.inl (.inr ⟨{ cls:=.type "list",data:=.seq vs.toArray },nH rfl⟩)) (λb u z=>?_) (λb z=>?_) λ_=>hk
  ·by_cases hb:b=a
   ·exact .inr ⟨_,_,nH hb⟩
   ·exact .inl (nG hb)
  ·by_cases hb:b=a
   ·have z':=(nH hb).symm.trans z;cases z';subst hb;exact⟨ha,by rw[hU];exact hl,vs,_,rv,ha⟩
   ·have z':=(nG hb).symm.trans z;cases z'
  ·by_cases hb:b=a
   ·exact hb
   ·exact absurd (nG hb) z
theorem WS{l:PySem.W.OpenLaw}{n k:Nat}{q:Program}{loose:List Str}{XP:(Str->Option Value)->Heap->Prop}{YP:World->Heap->Prop}{d:DefRec}{K:Params->nI}{CX:World->CXT}{sp:World->Sp}{x:Str}
  (hn:l.most=some n) (hn2:n<=sizeLine) (hdf:d.params.defaults=[]) (hr:Room k callerA)
  (hY:∀(w:World) (h:Heap),YP w h->(K w.params).In h)
  (F:∀(w:World) (mg:Str->Option Value) (fa:Addr) (h:Heap),(K w.params).In h->h.Ns mainGlobals mg->mg d.name=some (.ref fa)->
   ∃fd:FuncData,(∀(s:Shared) (u:Value),BindsTo s fd ⟨[u],[]⟩ [(x,u)])/\
    ∀base:Heap,(K w.params).In base->base.Ns mainGlobals mg->FnOk l.prog w (K w.params) mg base (CX w) k fa fd [x] (sp w))
  (hsp:∀(w:World) (H:Hp) (a:Addr) (ns:List Int),ns.length<=n->Only H->SqL (K w.params) H a (ns.map V.int)->sp w [.ref a] H (λv _=>v=.bl true) λ_ _ _=>False)
  (hCX:∀(w:World) (H:Hp) (s:Shared) (e:Value) (s':Shared),CX w [] H s (λ_ _ _=>False) e s'->False) :
  PySem.W.WalkO q loose XP YP l.row.toRowW d [] (λf vs=>PySem.call f vs):=by
 refine Att.attach_call hn hdf λw s₀ s₁ mg mb fa o pm cd doc a vs ns G Y ho hd hcd hmg hobj hints hlen hg=>?_;have KX:=hY w _ Y;obtain⟨fd,hb,hF⟩:=F w mg fa _ KX G.T.g hmg;exact VJ KX G.T.g G.T.b G.T.builtins G.T.nolimit hg hobj hints (mN hlen hn2) hr hF hb (λH hO hS=>hsp w H a ns hlen hO hS) λH e s'=>hCX w H s₁ e s'
abbrev CX0:CXT:=λ_ _ _ _ _ _=>False
abbrev E0:XK:=λ_ _ _=>False
theorem jK{X:Cx} :Passes CX0 X E0:=λ_ _ _ _ _ _ _ h=>h.elim
structure Fun(K:nI)(x qual:Str)(st:Stmt)(f:Addr)(fd:FuncData):Prop where
 ex:∃(oc:Value) (od:Option Addr) (kV doc pm:Value) (an:Option Addr) (cdv ct:Value) (osl:Array (Option Value)),
  fd=PySem.W.fnOf x qual (xX st) (vU st) (jJ st) .none kV doc pm an cdv ct/\K.lookup f=some ⟨oc,od,.func fd,osl⟩/\PySem.W.codeIn K cdv qual=true
 kp:PySem.W.keepIn K (.ref f)=true
section
variable{P:Program}{w:World}{K:nI}{mg:Str->Option Value}{base:Heap}
theorem Fun.ok{x qual:Str}{st:Stmt}{f:Addr}{fd:FuncData}{N ps:List Str}{k:Nat}{sp:Sp}(F:Fun K x qual st f fd)(S:FnScope N ps (jJ st))(len:∀vs H Q E,sp vs H Q E->vs.length=ps.length)
  (hbody:∀(cdv:Value) (A:Around) (outer:List Env) (s:Shared) (H:Hp) (vs:List V) (Q:VK) (E:XK),Room k (A.deeper (envOfC qual (jJ st) s.heap.objs.size f cdv))->sp vs H Q E->
   ∃t,PSs (LT CX0 P w K mg base N qual (jJ st) f cdv A outer s H E).nox (vU st) t/\t { nx:=λ_ H'=>Q .non H',rt:=Q } (BB N vs) H):FnOk P w K mg base CX0 (k+1) f fd ps sp:=by
 obtain⟨oc,od,kV,doc,pm,an,cdv,ct,osl,rfl,lk,hcd⟩:=F.ex;refine fn_of lk hcd S len λA outer s H vs Q E hr hsp=>?_;obtain⟨t,h,q⟩:=hbody cdv A outer s H vs Q E hr hsp;exact⟨t,h.nox,q⟩
theorem Fun.binds{x qual:Str}{st:Stmt}{f:Addr}{fd:FuncData}{ps:List Str}(F:Fun K x qual st f fd)
  (h:∀(kV doc pm:Value) (an:Option Addr) (cdv ct:Value) (us:List Value),us.length=ps.length->bindArgs (PySem.W.fnOf x qual (xX st) (vU st) (jJ st) .none kV doc pm an cdv ct) ⟨us,[]⟩=pure (ps.zip us)):Binds K fd ps []:=by
 obtain⟨oc,od,kV,doc,pm,an,cdv,ct,osl,rfl,lk,hcd⟩:=F.ex;exact .all (h kV doc pm an cdv ct)
theorem LR{x qual:Str}{st:Stmt}{f:Addr}{oc:Value}{od an:Option Addr}{osl:Array (Option Value)}{kV doc pm cdv ct:Value}(l:K.lookup f=some ⟨oc,od,.func (PySem.W.fnOf x qual (xX st) (vU st) (jJ st) .none kV doc pm an cdv ct),osl⟩)
  (c:PySem.W.codeIn K cdv qual=true) (k:PySem.W.keepIn K (.ref f)=true):Fun K x qual st f (PySem.W.fnOf x qual (xX st) (vU st) (jJ st) .none kV doc pm an cdv ct):=⟨⟨oc,od,kV,doc,pm,an,cdv,ct,osl,rfl,l,c⟩,k⟩
end
section
variable{X:Cx}
theorem pv(i:Nat){x:Str}{pos:Pos}(hN:X.N[i]? = some x:=by rfl)(hv:Vis X.env.scope x:=by first | exact Or.inl rfl | exact Or.inr (Or.inl rfl) | exact Or.inr (Or.inr rfl))(hd:(x==("__debug__" :Str))=false:=by decide)
  (hcd:(x==("__classdict__" :Str))=false:=by decide):PE X (.Name x pos) (KZ i):=TN hN hv hd hcd
end
theorem qJ{A B:Prop}(h:B):if false=true then A else B:=by
 rw[nG gF];exact h
theorem kK{A B:Prop}(h:A):if true=true then A else B:=by
 rw[nH rfl];exact h
theorem QL{c A B:Prop} [Decidable c](h1:c->A)(h2:¬c->B):if c then A else B:=by
 by_cases h:c
 ·rw[nH h];exact h1 h
 ·rw[nG h];exact h2 h
def Same(H H':Hp):Prop:=∀b o,H b=some o->H' b=some o
theorem Same.refl(H:Hp):Same H H:=λ_ _ h=>h
theorem Same.trans{H H1 H2:Hp}(a:Same H H1)(b:Same H1 H2):Same H H2:=λc o h=>b c o (a c o h)
theorem Same.free{H H':Hp}(e:Same H H'){l:Addr}(h:H' l=Option.none):H l=Option.none:=by
 cases q:H l with
 | none=>rfl
 | some o=>
  rw[e l o q]at h;cases h
end L2
namespace LwM
theorem qO{a b c:Int}(h:Int.gcd a b=1)(d:c∣b):Int.gcd a c=1:=by
 have:=Int.gcd_dvd_gcd_of_dvd_right a d;rw[h]at this;exact Nat.eq_one_of_dvd_one this
theorem yT{a b c:Int}(h:Int.gcd a b=1)(d:c∣a):Int.gcd c b=1:=by
 rw[Int.gcd_comm]at h ⊢;exact qO h d
theorem ZZ{t b o u:Int}(hb:0<b)(hu:0<u)(g1:Int.gcd t b=1)(g2:Int.gcd o u=1) :
  (t*(u/(Int.gcd b u:Int))+o*(b/(Int.gcd b u:Int)))/(Int.gcd (t*(u/(Int.gcd b u:Int))+o*(b/(Int.gcd b u:Int))) (Int.gcd b u):Int)=(t*u+o*b)/(Int.gcd (t*u+o*b) (b*u):Int)/\
  (b/(Int.gcd b u:Int))*(u/(Int.gcd (t*(u/(Int.gcd b u:Int))+o*(b/(Int.gcd b u:Int))) (Int.gcd b u):Int))=(b*u)/(Int.gcd (t*u+o*b) (b*u):Int):=by
 have sp:0<Int.gcd b u:=Int.gcd_pos_of_ne_zero_left _ (by omega);have c1:Int.gcd (b/(Int.gcd b u:Int)) (u/(Int.gcd b u:Int))=1:=Int.gcd_ediv_gcd_ediv_gcd sp;have d1:(Int.gcd b u:Int)∣b:=gZ ..;have d2:(Int.gcd b u:Int)∣u:=gR ..;have e1:(Int.gcd b u:Int)*(b/(Int.gcd b u:Int))=b:=Int.mul_ediv_cancel' d1;have e2:(Int.gcd b u:Int)*(u/(Int.gcd b u:Int))=u:=Int.mul_ediv_cancel' d2;have sp':(0:Int)<(Int.gcd b u:Int):=by omega
 generalize hs:(Int.gcd b u:Int)=s at *;generalize hb':b/s=b' at *;generalize hu':u/s=u' at *;generalize hT:t*u'+o*b'=T at *;have v1:b'∣b:=⟨s,by rw[mV];exact e1.symm⟩;have v2:u'∣u:=⟨s,by rw[mV];exact e2.symm⟩;have x1:t*u+o*b=s*T:=by
  rw[<-hT,Int.mul_add,<-Int.mul_assoc,<-Int.mul_assoc,mV s t,mV s o,Int.mul_assoc,Int.mul_assoc,e1,e2]
 have x2:b*u=s*(b'*u):=by rw[<-Int.mul_assoc,e1]
 have x3:b'*u=s*b'*u':=by rw[mV s b',Int.mul_assoc,e2]
 have y1:Int.gcd T b'=1:=by
  rw[<-hT,Int.gcd_add_mul_right_left,Int.gcd_mul_right_left_of_gcd_eq_one (qO g1 v1),Int.gcd_comm];exact c1
 have y2:Int.gcd T u'=1:=by
  rw[<-hT,Int.add_comm,Int.gcd_add_mul_right_left,Int.gcd_mul_right_left_of_gcd_eq_one (qO g2 v2)];exact c1
 have z:Int.gcd T (b'*u)=Int.gcd T s:=by
  rw[x3,Int.gcd_mul_left_right_of_gcd_eq_one y2,Int.gcd_mul_left_right_of_gcd_eq_one y1]
 have g:(Int.gcd (t*u+o*b) (b*u):Int)=s*(Int.gcd T s:Int):=by
  rw[x1,x2,Int.gcd_mul_left,z,Int.natCast_mul,Int.natAbs_of_nonneg (by omega)]
 rw[g];refine⟨?_, ?_⟩
 ·rw[x1,Int.mul_ediv_mul_of_pos _ _ sp']
 ·rw[x2,Int.mul_ediv_mul_of_pos _ _ sp'];exact(Int.mul_ediv_assoc _ (Int.dvd_trans (gR ..) d2)).symm
theorem ZD{t b o u:Int}(hb:0<b)(hu:0<u)(g1:Int.gcd t b=1)(g2:Int.gcd o u=1) :
  (t/(Int.gcd t u:Int))*(o/(Int.gcd o b:Int))=(t*o)/(Int.gcd (t*o) (b*u):Int)/\
  (b/(Int.gcd o b:Int))*(u/(Int.gcd t u:Int))=(b*u)/(Int.gcd (t*o) (b*u):Int):=by
 have fp:0<Int.gcd t u:=Int.gcd_pos_of_ne_zero_right _ (by omega);have sp:0<Int.gcd o b:=Int.gcd_pos_of_ne_zero_right _ (by omega);have c1:=Int.gcd_ediv_gcd_ediv_gcd fp;have c2:=Int.gcd_ediv_gcd_ediv_gcd sp;have e1:(Int.gcd t u:Int)*(t/(Int.gcd t u:Int))=t:=Int.mul_ediv_cancel' (gZ ..);have e2:(Int.gcd t u:Int)*(u/(Int.gcd t u:Int))=u:=Int.mul_ediv_cancel' (gR ..);have e3:(Int.gcd o b:Int)*(o/(Int.gcd o b:Int))=o:=Int.mul_ediv_cancel' (gZ ..);have e4:(Int.gcd o b:Int)*(b/(Int.gcd o b:Int))=b:=Int.mul_ediv_cancel' (gR ..);have fp':(0:Int)<(Int.gcd t u:Int):=by omega
 have sp':(0:Int)<(Int.gcd o b:Int):=by omega
 generalize (Int.gcd t u:Int)=f at *;generalize (Int.gcd o b:Int)=s at *;generalize t/f=t' at *;generalize u/f=u' at *;generalize o/s=o' at *;generalize b/s=b' at *;have v1:t'∣t:=⟨f,by rw[mV];exact e1.symm⟩;have v2:u'∣u:=⟨f,by rw[mV];exact e2.symm⟩;have v3:o'∣o:=⟨s,by rw[mV];exact e3.symm⟩;have v4:b'∣b:=⟨s,by rw[mV];exact e4.symm⟩;have x1:t*o=(f*s)*(t'*o'):=by
  rw[<-e1,<-e3];simp only[Int.mul_assoc,Int.mul_left_comm,mV]
 have x2:b*u=(f*s)*(b'*u'):=by
  rw[<-e2,<-e4];simp only[Int.mul_assoc,Int.mul_left_comm,mV]
 have n1:Int.gcd (t'*o') b'=1:=by
  rw[Int.gcd_mul_right_left_of_gcd_eq_one (yT (qO g1 v4) v1)];exact c2
 have n2:Int.gcd (t'*o') u'=1:=by
  rw[Int.gcd_mul_right_left_of_gcd_eq_one c1];exact yT (qO g2 v2) v3
 have n3:Int.gcd (t'*o') (b'*u')=1:=by
  rw[Int.gcd_mul_right_right_of_gcd_eq_one n1];exact n2
 have fs:(0:Int)<f*s:=mY fp' sp';have g:(Int.gcd (t*o) (b*u):Int)=f*s:=by
  rw[x1,x2,Int.gcd_mul_left,n3,Nat.mul_one,Int.natAbs_of_nonneg (by omega)]
 rw[g,x1,x2,Int.mul_ediv_cancel_left _ (by omega),Int.mul_ediv_cancel_left _ (by omega)];exact⟨rfl,rfl⟩
theorem JU(a b:Int):Int.gcd b (a%b)=Int.gcd a b:=by
 rw[Int.emod_def,mV b,Int.gcd_sub_mul_right_right,Int.gcd_comm]
theorem vA(a b:Int)(h:0<b):(1:Int)<=(Int.gcd a b:Int):=by
 have:0<Int.gcd a b:=Int.gcd_pos_of_ne_zero_right _ (by omega);omega
theorem gcd_le(a b:Int)(h:0<b):(Int.gcd a b:Int)<=b:=Int.le_of_dvd h (gR a b)
theorem zM(t g:Int)(h:1<=g):(t/g).natAbs<=t.natAbs:=by
 rcases Int.lt_or_le t 0 with n | n
 ·have h1:t/g<0:=Int.ediv_neg_of_neg_of_pos n (by omega);have h2:t<=t/g:=by
   rw[Int.le_ediv_iff_mul_le (by omega)];have:=Int.mul_le_mul_of_nonpos_left (a:=t) (b:=g) (c:=1) (by omega) h;omega
  omega
 ·have h1:0<=t/g:=Int.ediv_nonneg n (by omega);have h2:t/g<=t:=Int.ediv_le_self g n;omega
theorem log2_lt{n:Nat}{k:Nat}(hk:0<k)(h:n<2^k):n.log2<k:=by
 by_cases e:n=0
 ·subst e;simpa using hk
 ·exact(Nat.log2_lt e).mpr h
end LwM
namespace Lw
open PySem PySem.Spec PyProof.Rows L2
inductive Kd where
 | non | bl | int | str | lst | tup
 deriving DecidableEq
def Kd.ty:Kd->String
 | .non=>"NoneType" | .bl=>"bool" | .int=>"int" | .str=>"str" | .lst=>"list" | .tup=>"tuple"
inductive KdOf(H:Hp):V->Kd->Prop where
 | non:KdOf H .non .non
 | bl (b:Bool):KdOf H (.bl b) .bl
 | int (i:Int):KdOf H (.int i) .int
 | str (x:Str):KdOf H (.str x) .str
 | lst {a:Addr} {xs:List V} (e:H a=some (.lst xs)):KdOf H (.ref a) .lst
 | tup {a:Addr} {xs:List V} (e:H a=some (.tup xs)):KdOf H (.ref a) .tup
theorem KdOf.ty{K:nI}{H:Hp}{v:V}{k:Kd}(h:KdOf H v k):TyOf K H v (.type k.ty):=by
 cases h with
 | non=>exact .non
 | bl b=>exact .bl b
 | int i=>exact .int i
 | str x=>exact .str x
 | lst e=>exact .lst e
 | tup e=>exact .tup e
def Kd.isInt:Kd->Bool
 | .int=>true | .bl=>true | _=>false
def Kd.isBool:Kd->Bool
 | .bl=>true | _=>false
def Kd.isTup:Kd->Bool
 | .tup=>true | _=>false
def Kd.isStr:Kd->Bool
 | .str=>true | _=>false
def Isi(T:String)(f:Kd->Bool):Prop:=∀(K:nI) (k:Kd),PySem.W.kitOne K (.type k.ty) (.type T)=some (f k)
theorem HX:Isi "int" Kd.isInt:=λK k=>by cases k<;>rfl
theorem ER:Isi "bool" Kd.isBool:=λK k=>by cases k<;>rfl
theorem yQ:Isi "tuple" Kd.isTup:=λK k=>by cases k<;>rfl
section
variable{X:Cx}
def rIsi(T:String)(f:Kd->Bool):List V->Hp->VK->Prop:=λxs H Q=>match xs with
 | [x,y]=>y=.ty T/\∃k,KdOf H x k/\Q (.bl (f k)) H
 | _=>False
theorem WK{T:String}{f:Kd->Bool}(hf:Isi T f):CallR X (.builtin "isinstance") (rIsi T f):=by
 intro ac s σ H xs us Q I r h
 match xs,h with
 | [x,y],h=>
  obtain⟨rfl,k,ty,q⟩:=h;obtain⟨u,w',rfl,ru,rw'⟩:=vals2 r;cases (show w'=Value.type T from rw');exact QM I ru (ty.ty) (hf X.K k) λtk=>⟨.bl (f k),H,I.tok tk,rfl,q⟩
theorem vP{T:String}{f:Kd->Bool}{x:Str}{e:Expr}{te:TE}{p p2 pos:Pos}(hf:Isi T f)(hm:X.mg "isinstance" = none)(hm2:X.mg x=none)(hb:bootBuiltins x=some (.type T))(he:PE X e te)
  (hg:Gl X "isinstance":=by rfl) (hg2:Gl X x:=by rfl) (hn:x≠"__name__":=by decide) (hd:(x==("__debug__" :Str))=false:=by decide)
  (hs:starEach [e,.Name x p2] X.env=(false,eval e X.env)::starEach [.Name x p2] X.env:=by rfl) (hs2:starEach [.Name x p2] X.env=(false,eval (.Name x p2) X.env)::starEach [] X.env:=by rfl)
  (hpl:(backTo pos (starEach [.Name x p2] X.env)).any (·.1)=false:=by rfl):PE X (.Call (.Name "isinstance" p) [e,.Name x p2] [] pos) (tCB (rIsi T f) (CN te (CN (tC (.ty T)) tNil))):=
 jX (X:=X) (p:=p) (pos:=pos) (WK hf) hg hm boot_isinstance (jA he (jA (NK (v:=.ty T) hg2 hm2 hb rfl hn hd) jB hs2) hs) (by decide) (by decide) hs hpl
theorem yF:∀{vs:List Value} {ns:List Int} {j:Nat} (_:IntsAre vs ns) (h:j<vs.length),∃n t,ns[j]? = some n/\vs[j]=.int n t
 | _,_,_,.nil,h=>absurd h (Nat.not_lt_zero _)
 | _,_,0,.cons n t _,_=>⟨n,t,rfl,rfl⟩
 | _,_,j+1,.cons _ _ r,h=>by
  obtain⟨n,t,e1,e2⟩:=yF (j:=j) r (by simpa using h);exact⟨n,t,by simpa using e1,by simpa using e2⟩
theorem xA:∀{vs:List Value} {ns:List Int},IntsAre vs ns->vs.length=ns.length
 | _,_,.nil=>rfl
 | _,_,.cons _ _ r=>by simp [xA r]
def CDivL(_ j:Int):Prop:=0<j/\j.natAbs<2^8000
theorem qV:OpR X (binaryOp .FloorDiv) (rI CDivL λi j=>.int (i/j)):=opI λi j _ _ _ _ _ hc q=>by
 refine floordiv_int (by have:=hc.1;omega) ?_ (.inl (PyProof.noPylong_of_log2 (gG (LwM.log2_lt (by decide) hc.2) (by decide))));rw[Int.fdiv_eq_ediv_of_nonneg _ (Int.le_of_lt hc.1)];exact q
def CMulL(i j:Int):Prop:=i.natAbs<2^100000/\j.natAbs<2^100000
theorem kO:OpR X (binaryOp .Mult) (rI CMulL λi j=>.int (i*j)):=opI λ_ _ _ _ _ _ _ hc q=>mul_int q (IntMulOk.of_bits (mN (PySem.intBits_le_iff.mpr hc.1) (by decide)) (mN (PySem.intBits_le_iff.mpr hc.2) (by decide)))
end
theorem uI{c:Bool}{A B:Prop}(h:c=true)(a:A):if c=true then A else B:=by
 rw[nH h];exact a
theorem xE{c:Bool}{A B:Prop}(h:c=false)(b:B):if c=true then A else B:=by
 subst h;exact qJ b
def But(p:Addr)(H H':Hp):Prop:=∀c o,H c=some o->c≠p->H' c=some o
theorem But.refl(p:Addr)(H:Hp):But p H H:=λ_ _ h _=>h
theorem kB{H:Hp}{p:Addr}(o:HO)(n:H p=none):Same H (upd H p o):=λb q e=>by
 rw[jL (jU e n)];exact e
def New(H:Hp)(o:HO)(Q:VK):Prop:=∀p H',H p=none->Same H H'->H' p=some o->Q (.ref p) H'
theorem New.at{H:Hp}{o:HO}{Q:VK}(h:New H o Q){p:Addr}(n:H p=none):Q (.ref p) (upd H p o):=h p _ n (kB o n) jI
section
variable{X:Cx}{es:List Expr}{t:TA}{pos:Pos}
def tTupF(t:TA):TE:=fun σ H Q=>t σ H λxs H1=>xs.length<=sizeLine/\New H1 (.tup xs) Q
def tLstF(t:TA):TE:=fun σ H Q=>t σ H λxs H1=>xs.length<=sizeLine/\New H1 (.lst xs) Q
theorem jQ{x1}(h:PA X es t):PE X (.Tuple es x1 pos) (tTupF t):=by
 intro ac s σ H Q I hq;refine wpAny_Tuple_spliced (thn (h pos ac s σ H _ I hq) λus s1 ⟨xs,H1,I1,r,z,q⟩=>⟨by rw[<-r.length];exact z, ?_⟩);have hf:H1 s1.heap.objs.size=none:=I1.hok.fresh uJ ;refine⟨.ref s1.heap.objs.size,upd H1 s1.heap.objs.size (.tup xs),I1.laid (t':=s1.toks) (λb u e=>uS _ e) uJ ?_,rfl,q.at hf⟩;exact⟨z,us,r,⟨_,gC _ rfl,rfl,_,rfl⟩,.of (gC _ rfl) rfl⟩
theorem kH(h:PA X es t):PE X (.List es pos) (tLstF t):=by
 intro ac s σ H Q I hq;refine wpAny_List_spliced (thn (h pos ac s σ H _ I hq) λus s1 ⟨xs,H1,I1,r,z,q⟩=>⟨by rw[<-r.length];exact z, ?_⟩);have hf:H1 s1.heap.objs.size=none:=I1.hok.fresh uJ ;refine⟨.ref s1.heap.objs.size,upd H1 s1.heap.objs.size (.lst xs),I1.laid (t':=s1.toks) (λb u e=>uS _ e) uJ ?_,rfl,q.at hf⟩;exact⟨z,us,0,r,gC _ rfl⟩
theorem opr_of{f:Value->Value->Sem Value}{r r':R2}(h:OpR X f r)(i:∀x y H Q,r' x y H Q->r x y H Q):OpR X f r':=
 λac s σ H x y v u Q I rx ry q=>h ac s σ H x y v u Q I rx ry (i x y H Q q)
theorem WJ{f:Value}{r r':List V->Hp->VK->Prop}(h:CallR X f r)(i:∀xs H Q,r' xs H Q->r xs H Q):CallR X f r':=
 λac s σ H xs us Q I rv q=>h ac s σ H xs us Q I rv (i xs H Q q)
theorem SL{r r':V->Option Int->Option Int->Hp->VK->Prop}(h:SlR X r)(i:∀x a b H Q,r' x a b H Q->r x a b H Q):SlR X r':=
 λac s σ H x v vl vu lo hi sl Q I rx hs pl pu q=>h ac s σ H x v vl vu lo hi sl Q I rx hs pl pu (i x lo hi H Q q)
def rListF(K:nI):List V->Hp->VK->Prop:=λxs H Q=>∃p ys,xs=[.ref p]/\(SqL K H p ys∨SqT K H p ys)/\New H (.lst ys) Q
theorem LY:CallR X (.type "list") (rListF X.K):=WJ IF λxs H Q ⟨p,ys,e,h,q⟩=>⟨p,ys,e,h,λl n=>q.at n⟩
def rCatF:R2:=λx y H Q=>∃l b xs zs,x=.ref l/\y=.ref b/\H l=some (.lst xs)/\H b=some (.lst zs)/\xs.length+zs.length<=sizeLine/\New H (.lst (xs++zs)) Q
theorem NM:OpR X (binaryOp .Add) rCatF:=opr_of op_cat λx y H Q ⟨l,b,xs,zs,e1,e2,h1,h2,h3,q⟩=>⟨l,b,xs,zs,e1,e2,h1,h2,h3,λp n=>q.at n⟩
def rSlTF(K:nI):V->Option Int->Option Int->Hp->VK->Prop:=λx lo hi H Q=>∃a xs,x=.ref a/\SqT K H a xs/\
 ¬(HT.sIx xs.length 0 lo=0/\HT.sIx xs.length xs.length hi=xs.length)/\New H (.tup (wC xs lo hi)) Q
theorem WZ:SlR X (rSlTF X.K):=SL SM λx a b H Q ⟨p,xs,e,h1,h2,q⟩=>⟨p,xs,e,h1,h2,λp n=>q.at n⟩
def rSlLF(K:nI):V->Option Int->Option Int->Hp->VK->Prop:=λx lo hi H Q=>∃a xs,x=.ref a/\SqL K H a xs/\New H (.lst (wC xs lo hi)) Q
theorem CU:SlR X (rSlLF X.K):=SL XA λx a b H Q ⟨p,xs,e,h1,q⟩=>⟨p,xs,e,h1,λp n=>q.at n⟩
end
section
variable{prog:Program}{w:World}{A:Around}{R:Result->Shared->Prop}{s:Shared}
theorem yR{elt target iter:Expr}{scope:Scope}{pos:Pos}{it acc:Value}{env:Env}(I:Nat->Shared->Prop)
  (turn:∀n s,I n s->wpAny (model prog w) A (pyNext it) (λr s₁=>match r with
   | none=>R (.ok .next) s₁
   | some v=>wpAny (model prog w) A (letOwnedTupleGo target it v) (λ_ s₁'=>wpAny (model prog w) A (assign target env v) (λ_ s₂=>wpAny (model prog w) A (eval elt env) (λx s₃=>
     wpAny (model prog w) A (call (.builtin "list.append") [acc,x]) (λ_ s₄=>∃m,m<n/\I m s₄) (notedBy (model prog w) A env λe s'=>R (.error e) s') s₃)
     (notedBy (model prog w) A env λe s'=>R (.error e) s') s₂) (notedBy (model prog w) A env λe s'=>R (.error e) s') s₁') (notedBy (model prog w) A env λe s'=>R (.error e) s') s₁) (notedBy (model prog w) A env λe s'=>R (.error e) s') s)
  (n:Nat) (h:I n s) :
  codeAny (model prog w) A (.compLoop (.ListComp elt [⟨target,iter,[],0⟩] scope pos) 0 it acc env) R s:=by
 refine codeAny_loop rfl I (λn s hI=>?_) n h;show wpAny _ _ ((compTurn (.ListComp elt [⟨target,iter,[],0⟩] scope pos) 0 it acc env).onRaise (λx=>do noteFrame x env;theTreesLotGoes x)) _ _ s;refine wpAny_noted ?_;rw[compTurn_list1];refine nC (wpAny_standAt (nC (nF (turn n s hI) (λr s₁ h₁=>?_) λ_ _ h'=>h')));cases r with
 | none=>exact nE h₁
 | some v=>
  refine nC (nF h₁ (λ_ s₁' h₁'=>?_) λ_ _ h'=>h');exact nC (nF h₁' (λ_ s₂ h₂=>nC (nC (nF h₂ (λx s₃ h₃=>nC (nF h₃
   (λ_ s₄ h₄=>nE (nE ⟨rfl,h₄⟩)) λ_ _ h'=>h')) λ_ _ h'=>h'))) λ_ _ h'=>h')
end
def qI(X:Cx)(N:List Str)(scope:Scope)(C:Addr)(fp:List Addr)(s2:Shared)(H2:Hp):Cx:=
 { X with N:=N,s₀:=s2,H₀:=H2,env:=compEnv scope C X.env,outer:=X.stack,stack:=X.stack,ex:=fp,fn:=λ_=>true,pn:=[],xe:=λ_ _=>False }
def CompGo(n:Nat)(J:It)(g:TG)(te:TE)(Q:VK)(p:Addr)(H':Hp):Prop:=
 ∃W:Nat->Nat->List V->Hp->Prop,(∃m,W 0 m [] H')/\∀i m ys H2,W i m ys H2->H2 p=some (.lst ys)/\ys.length<sizeLine/\
  ((J.stop i H2/\Q (.ref p) H2)∨(J.go i H2/\∀x H3,J.yld i H2 x H3->g x (List.replicate n none) H3 fun σ4 H4=>te σ4 H4 λy H5=>H5 p=some (.lst ys)/\∃m',m'<m/\W (i+1) m' (ys++[y]) (upd H5 p (.lst (ys++[y])))))
def tComp(n:Nat)(wi:TI)(g:TG)(te:TE):TE:=fun σ H Q=>wi σ H λJ H1=>∀p H',H1 p=none->Same H1 H'->H' p=some (.lst [])->CompGo n J g te Q p H'
section
variable{X:Cx}
theorem QU{ac:List (Addr×Obj)}{σ:L2.St}{H1:Hp}{s2:Shared}{N:List Str}{scope:Scope}{C:Addr}{fp:List Addr}(I:Inv X ac σ H1 s2)(hk:scope.kind=.function)
  (hn:∀x,scope.names.lookup x≠some .cell/\scope.names.lookup x≠some .free) (hC:s2.heap.objs.size<=C) (hf:∀b∈fp,FpOk X ac H1 b) (hlt:∀b∈fp,b<s2.heap.objs.size):(qI X N scope C fp s2 H1).Ok where
 mod:=I.ok.mod
 kind:=hk
 glob:=I.ok.glob
 blt:=I.ok.blt
 above:=hC
 inj:=λx y c h=>nomatch h
 has:=λx h=>h.elim (λz=>absurd z (hn x).1) (λz=>absurd z (hn x).2)
 cab:=λx c _ h=>nomatch h
 hd:=I.ok.hd
 frames:=I.ok.frames
 stk:=.inl rfl
 exf:=λb hb=>⟨mO (gG (hlt b hb) hC),λx c h=>nomatch h⟩
 bs:=I.bs
 bsz:=mN I.ok.bsz I.sz
 noex:=λb o e hb=>by
  rcases(hf b hb).2.2.2.1 with z | z
  ·exact I.ok.noex b o e z
  ·exact absurd (gG (mM e) (mN I.ok.bsz z)) (mJ _)
 exfs:=λb hb z=>(mI.mp (I.stkSub b z)).elim (hf b hb).2.1 (hf b hb).2.2.1
 funs:=I.stack
 frf:=I.stkFree
theorem XZ{N:List Str}{elt target iter:Expr}{scope:Scope}{pos:Pos}{wi:TI}{g:TG}{te:TE}(hc:X.calm=true)
  (hk:scope.kind=.function) (hn:∀x,scope.names.lookup x≠some .cell/\scope.names.lookup x≠some .free) (hfree:∀x∈scope.names,x.2≠.free) (hcell:∀x∈scope.names,x.2≠.cell) (hnames:∀x∈scope.names,x.2=.local->scope.names.lookup x.1=some .local)
  (hi:PI X target iter wi) (hg:∀C fp s2 H2,PG (qI X N scope C fp s2 H2) target g) (he:∀C fp s2 H2,PE (qI X N scope C fp s2 H2) elt te)
  (hs:∀x,foldedSetIterable iter X.env x=pure x:=by intro _;rfl):PE X (.ListComp elt [⟨target,iter,[],0⟩] scope pos) (tComp N.length wi g te):=by
 intro ac s σ H Q I h;refine wpAny_ListComp hfree hk hnames (thn (hi ac s σ H _ I h) λv s1 h1=>thn h1 λitv s2 h2=>?_) hs;obtain⟨it,fp,tn,J,H1,e,I2,T,st2,f2,hR⟩:=h2;subst e;have hlt:∀b∈fp,b<s2.heap.objs.size:=λb hb=>by
  obtain⟨o,ho,_⟩:=T.obj 0 _ st2 b hb;exact mM ho
 refine wpAny_newObj_type (wpAny_newFunctionEnv hcell (by intro y hy;simp at hy) (λh₁ hns₁ hsb₁=>?_) hk);dsimp only at hns₁ hsb₁ ⊢;generalize hHH:s2.heap.push { cls:=.type "list",dict:=none,data:=.seq ([]:List Value).toArray } = HH at hns₁ hsb₁ ⊢;have hCe:HH.objs.size=s2.heap.objs.size+1:=by rw[<-hHH,mG]
 have hDC:s2.heap.objs.size≠HH.objs.size:=by rw[hCe];exact mO (hJ _)
 have hCle:s2.heap.objs.size<=HH.objs.size:=by rw[hCe];exact Nat.le_succ _
 have old:∀b o,s2.heap.get? b=some o->h₁.get? b=some o:=λb o e=>hsb₁.extBut b o (by rw[hCe];exact mO (Nat.lt_succ_of_lt (mM e))) (uS _ (hHH▸uS _ e));have hD:h₁.get? s2.heap.objs.size=some { cls:=.type "list",dict:=none,data:=.seq ([]:List Value).toArray } :=hsb₁.extBut _ _ hDC (uS _ (hHH▸gC _ rfl));have nD:H1 s2.heap.objs.size=none:=I2.hok.fresh uJ ;obtain⟨W,⟨m0,w0⟩,turn⟩:=hR s2.heap.objs.size _ nD (kB (.lst []) nD) jI;have ok:=QU (N:=N) (C:=HH.objs.size) I2 hk hn hCle f2 hlt;have I4:Inv (qI X N scope HH.objs.size fp s2 H1) [] (List.replicate N.length none) (upd H1 s2.heap.objs.size (.lst [])) { s2 with heap:=h₁,toks:=s2.toks+([]:List (Str×Value)).length } :=by
  refine⟨ok,rfl,I2.bare,Un.laid old uJ nD,⟨_,hns₁,λi x v _ e2 _=>?_⟩,(λx c z=>nomatch z), ?_,(λx c z=>nomatch z),(λp hp=>nomatch hp),I2.hok.laid old uJ ?_,by rw[uU];rfl⟩
  ·rw[List.getElem?_replicate]at e2;split at e2<;>cases e2
  ·show(upd H1 s2.heap.objs.size (.lst [])) HH.objs.size=none;rw[jL (Ne.symm hDC)];exact I2.hok.fresh hCle
  ·exact⟨by show 0<=sizeLine;decide,[],0,.nil,hD⟩
 have stat:∀{H':Hp},(∀b∈fp,H' b=none)->∀b∈fp,FpOk (qI X N scope HH.objs.size fp s2 H1) [] H' b:=λhn b hb=>
  ⟨hn b hb,(ok.exf b hb).1,ok.exfs b hb,.inl hb,(ok.exf b hb).2,λp hp=>nomatch hp⟩
 have st4:tn 0 h₁:=T.keep _ _ _ st2 λb _ o e=>old b o e;have fr4:∀b∈fp,(upd H1 s2.heap.objs.size (.lst [])) b=none:=λb hb=>by
  rw[jL (mO (hlt b hb))];exact(f2 b hb).1
 have loop:codeAny (model X.prog X.w) X.A (.compLoop (.ListComp elt [⟨target,iter,[],0⟩] scope pos) 0 (.ref it) (.ref s2.heap.objs.size) (compEnv scope HH.objs.size X.env))
   (λr s'=>∃m,s'.heap.Ns HH.objs.size m/\∀h',Heap.SameBut HH.objs.size s'.heap h'->
      match r with | .ok _=>EP X ac σ Q (.ref s2.heap.objs.size) { s' with heap:=h' } | .error x=>wpAny (model X.prog X.w) X.A (passOn "comprehension.variables-let-go" x (compEnv scope HH.objs.size X.env)) (EP X ac σ Q) X.xe { s' with heap:=h' })
   { s2 with heap:=h₁,toks:=s2.toks+([]:List (Str×Value)).length } :=by
  refine yR (λn s'=>∃i ys H',Inv (qI X N scope HH.objs.size fp s2 H1) [] (List.replicate N.length none) H' s'/\tn i s'.heap/\(∀b∈fp,H' b=none)/\W i n ys H') ?_ m0 ⟨0,[],_,I4,st4,fr4,w0⟩;rintro n s3 ⟨i,ys,H3,I3,st3,fr3,w3⟩;obtain⟨hp3,hz3,hw⟩:=turn i n ys H3 w3;rcases hw with⟨stop,qn⟩ | ⟨go,step⟩
  ·refine thn (T.done (qI X N scope HH.objs.size fp s2 H1) rfl rfl rfl hc i [] s3 _ H3 _ I3 (stat fr3) st3 stop) λr s4 ⟨hr,I5⟩=>?_;subst hr;obtain⟨m,hm,_⟩:=id I5.loc;refine⟨m,hm,λh' sb=>⟨.ref s2.heap.objs.size,H3, ?_,rfl,qn⟩⟩;have k:∀b o,b≠HH.objs.size->s4.heap.get? b=some o->h'.get? b=some o:=λb o hb e=>sb.extBut b o hb e;have nb:∀b o,s2.heap.get? b=some o->b≠HH.objs.size:=λb o e=>by rw[hCe];exact mO (Nat.lt_succ_of_lt (mM e))
   have U:=I5.base;have fC:H3 HH.objs.size=none:=I5.free;refine I2.call' (ch:=fp) (s':={ s4 with heap:=h' }) I5.os ⟨λb o e n hb hx=>k b o (nb b o e) (U.keep b o e n hb hx),λb o e n hb hx=>?_,U.free,λb o e hx=>?_,U.tups,U.frzs,U.tbls⟩ (λb u e=>?_) I5.bare (λb hb=>⟨(f2 b hb).2.2.2.1,(f2 b hb).2.1,(f2 b hb).2.2.2.2.1,(f2 b hb).2.2.2.2.2⟩)
   ·obtain⟨sl,q⟩:=U.slot b o e n hb hx;exact⟨sl,k b _ (nb b o e) q⟩
   ·obtain⟨o',q⟩:=U.there b o e hx;exact⟨o',k b _ (nb b o e) q⟩
   ·refine(I5.hok b u e).stay (λc v hcc q=>k c v ?_ q) (λ_ q=>q) λ_ _ q=>q;rcases hcc with z | z
    ·rw[z];intro y;rw[y,fC]at e;cases e
    ·intro y;rw[y,fC]at z;cases z
  ·refine nF (T.item (qI X N scope HH.objs.size fp s2 H1) rfl rfl rfl hc i [] s3 _ H3 (λ_ _=>False) I3 (stat fr3) st3 go) (λr s4 ⟨u,hr,h4⟩=>?_) λ_ _ z=>z.elim;subst hr;refine nF h4 (λ_ s5 ⟨x,H5,I5,r5,y5,st5,fr5⟩=>?_) λ_ _ z=>z.elim;have I5':=I5.pinned (stat fr5) (T.obj _ _ st5);refine nF (hg _ _ _ _ _ s5 _ H5 x u _ I5' r5 (step x H5 y5)) (λ_ s6 ⟨σ6,H6,I6,q6⟩=>?_) λ_ _ z=>z.elim;refine nF (he _ _ _ _ _ s6 σ6 H6 _ I6 q6) (λy s7 ⟨yv,H7,I7,r7,q7⟩=>?_) λ_ _ z=>z.elim;obtain⟨e7,m',hm',w7⟩:=q7;refine nF (qE (X:=qI X N scope HH.objs.size fp s2 H1) _ s7 σ6 H7 (.ref s2.heap.objs.size) [yv] (.ref s2.heap.objs.size) [y] (λ_ H8=>H8=upd H7 s2.heap.objs.size (.lst (ys++[yv]))) I7 rfl (.cons r7 .nil) ⟨_,ys,yv,rfl,rfl,e7,hz3,rfl⟩) (λ_ s8 ⟨_,H8,I8,_,q8⟩=>?_) λ_ _ z=>z.elim;subst q8;refine⟨m',hm',i+1,_,_,(I8.unpinned).weak (by rw[uU,I8.len];rfl) (λj v ev=>?_),T.keep _ _ _ st5 λb hb o e=>(I8.pin (b,o) (uT _ (uT _ (vQ hb e)))).1,λb hb=>?_,w7⟩
   ·rw[List.getElem?_replicate]at ev;split at ev<;>cases ev
   ·obtain⟨o,e,d⟩:=T.obj _ _ st5 b hb;exact(I8.pin (b,o) (uT _ (uT _ (vQ hb e)))).2.1
 exact codeAny_compStart_list loop (T.self _ 0 _ _ _ st4 loop)
end
mutual
inductive DecV(H:Hp):V->PyData->Prop where
 | non:DecV H .non .none
 | bl (b:Bool):DecV H (.bl b) (.bool b)
 | int (i:Int):DecV H (.int i) (.int i)
 | str (x:Str):DecV H (.str x) (.str x)
 | lst {a:Addr} {xs:List V} {ds:List PyData} (e:H a=some (.lst xs)) (h:DecVs H xs ds):DecV H (.ref a) (.list ds)
 | tup {a:Addr} {xs:List V} {ds:List PyData} (e:H a=some (.tup xs)) (h:DecVs H xs ds):DecV H (.ref a) (.tuple ds)
inductive DecVs(H:Hp):List V->List PyData->Prop where
 | nil:DecVs H [] []
 | cons {x:V} {d:PyData} {xs:List V} {ds:List PyData} (h:DecV H x d) (t:DecVs H xs ds):DecVs H (x::xs) (d::ds)
end
section
variable{X:Cx}
mutual
theorem DecV.reads{ac:List (Addr×Obj)}{σ:L2.St}{H:Hp}{s:Shared}(I:Inv X ac σ H s):∀{x:V} {d:PyData} {u:Value},DecV H x d->RelV x u->∃as,Reads s.heap u d as
 | _,_,_,.non,r=>by cases r;exact⟨_,.none⟩
 | _,_,_,.bl b,r=>by cases r;exact⟨_,.bool b⟩
 | _,_,_,.int i,r=>by obtain⟨t,rfl⟩:=r;exact⟨_,.int i t⟩
 | _,_,_,.str x,r=>by obtain⟨t,rfl⟩:=r;exact⟨_,.str x t⟩
 | _,_,_,.lst e h,r=>by
  cases r;obtain⟨its,rv,⟨o,n,ho,hc,_,hd⟩,_⟩:=I.list (SqL.of e);obtain⟨as,ra⟩:=DecVs.reads I h rv;exact⟨_,.list ho hc hd (by simpa using ra)⟩
 | _,_,_,.tup e h,r=>by
  cases r;obtain⟨its,rv,⟨o,ho,hc,n,hd⟩,_⟩:=I.tuple (SqT.of e);obtain⟨as,ra⟩:=DecVs.reads I h rv;exact⟨_,.tuple ho hc hd (by simpa using ra)⟩
theorem DecVs.reads{ac:List (Addr×Obj)}{σ:L2.St}{H:Hp}{s:Shared}(I:Inv X ac σ H s):∀{xs:List V} {ds:List PyData} {us:List Value},DecVs H xs ds->Vals xs us->∃as,ReadsAll s.heap us ds as
 | _,_,_,.nil,r=>by cases r;exact⟨_,.nil⟩
 | _,_,_,.cons h t,r=>by
  cases r with
  | cons q r=>
   obtain⟨as,ra⟩:=DecV.reads I h q;obtain⟨bs,rb⟩:=DecVs.reads I t r;exact⟨_,.cons ra rb⟩
end
def DataOk(d:PyData):Prop:=d.canLay0=true/\d.depth<=60
def rEqD:R2:=λx y H Q=>∃da db,DecV H x da/\DecV H y db/\DataOk da/\DataOk db/\Q (.bl (PyData.eqv da db)) H
theorem UB(hu:X.A.units+64<cLine):OpR X (compareOp .Eq) rEqD:=by
 intro ac s σ H x y v u Q I rx ry h;obtain⟨da,db,d1,d2,o1,o2,q⟩:=h;obtain⟨as,ra⟩:=d1.reads I rx;obtain⟨bs,rb⟩:=d2.reads I ry;exact SeqAt.rcAt_reads ra rb o1.1 o2.1 (by have:=o1.2;omega) _ _ _ _ ⟨.bl _,H,I,rfl,q⟩
def rAll(K:nI):List V->Hp->VK->Prop:=λxs H Q=>∃(a:Addr) (bs:List Bool),xs=[.ref a]/\SqL K H a (bs.map V.bl)/\Q (.bl (bs.all id)) H
theorem IG:∀{bs:List Bool} {us:List Value} {i:Nat} {v:Value},Vals (bs.map V.bl) us->us[i]? = some v->v=.bool (bs.getD i true)
 | [],_,_,_,.nil,e=>by simp at e
 | b::_,_,0,_,.cons r _,e=>by
  cases r;simp at e;simp [<-e]
 | b::bs,_,i+1,_,.cons _ t,e=>by
  have:=IG (i:=i) t (by simpa using e);simpa using this
theorem RD(bs:List Bool):(List.range bs.length).all (λi=>bs.getD i true)=bs.all id:=by
 induction bs with
 | nil=>rfl
 | cons b r ih=>
  rw[gX,List.range_succ_eq_map,List.all_cons,List.all_map,List.all_cons,<-ih]
  rfl
theorem AE(hc:X.calm=true):CallR X (.builtin "all") (rAll X.K):=by
 intro ac s σ H xs us Q I r h;obtain⟨a,bs,rfl,hq,q⟩:=h;obtain⟨u,rfl,ru⟩:=xG r;cases ru;obtain⟨its,rv,p,hz⟩:=I.list hq;have hl:=rv.length;rw[hU]at hl;refine PySem.call_all_walk (wpAny_pyIter_list p.isList ?_);have ha:a<s.heap.objs.size:=by
  obtain⟨o,n,e,_⟩:=p;exact mM e
 refine⟨s.heap.objs.size,_,_,_,_,_,λi=>bs.getD i true,rfl,Walks.list (show X.A.in1.handled=none from I.ok.hd hc) s.heap.objs.size a (mO ha) its.toArray,⟨⟨_,gC _ rfl,rfl,rfl⟩,p.isList.at λo e=>uS _ e⟩, ?_, ?_⟩
 ·intro i v s' Q' E' hv hq';obtain rfl:=IG rv (by simpa using hv);exact wpAny_truthy_bool hq'
 ·intro h' tk k;rw[gN,<-hl,RD];refine⟨.bl _,H,I.kept (t':=tk) (λb o e=>?_),rfl,q⟩;exact k b o (by simp;exact mO (mM e)) (uS _ e)
theorem EB{N:List Str}{elt target iter:Expr}{scope:Scope}{pos:Pos}{wi:TI}{g:TG}{te:TE}(hc:X.calm=true)
  (hk:scope.kind=.function) (hfree:∀x∈scope.names,x.2≠.free) (hcell:∀x∈scope.names,x.2≠.cell) (hnames:∀x∈scope.names,x.2=.local->scope.names.lookup x.1=some .local)
  (hi:PI X target iter wi) (hg:∀C fp s2 H2,PG (qI X N scope C fp s2 H2) target g) (he:∀C fp s2 H2,PE (qI X N scope C fp s2 H2) elt te)
  (hs:∀x,foldedSetIterable iter X.env x=pure x:=by intro _;rfl):PE X (.ListComp elt [⟨target,iter,[],0⟩] scope pos) (tComp N.length wi g te):=
 XZ hc hk (λx=>⟨λz=>hcell _ (PySem.mem_of_lookup z) rfl,λz=>hfree _ (PySem.mem_of_lookup z) rfl⟩) hfree hcell hnames hi hg he hs
end
def CompW(xs:List V)(Pv:Nat->List V->Hp->Prop)(i m:Nat)(ys:List V)(H:Hp):Prop:=m=xs.length-i/\i<=xs.length/\ys.length=i/\Pv i ys H
theorem kY{xs:List V}{Pv:Nat->List V->Hp->Prop}{i m:Nat}{ys:List V}{x y:V}{H5:Hp}{p:Addr}(hx:xs[i]? = some x)(hm:m=xs.length-i)(hl:ys.length=i)(e:H5 p=some (.lst ys))(h:Pv (i+1) (ys++[y]) (upd H5 p (.lst (ys++[y])))) :
  H5 p=some (.lst ys)/\∃m',m'<m/\CompW xs Pv (i+1) m' (ys++[y]) (upd H5 p (.lst (ys++[y]))):=by
 have hi:i<xs.length:=(uQ.mp hx).1;exact⟨e,xs.length-(i+1),by omega,rfl,by omega,by simp [hl],h⟩
section
end
def jN(X:Cx)(N:List Str)(scope:Scope)(cl:List (Str×Addr))(C:Addr)(fp:List Addr)(s2:Shared)(H2:Hp):Cx:=
 { X with N:=N,s₀:=s2,H₀:=H2,env:=compEnvC scope cl C X.env,outer:=X.stack,stack:=X.stack,ex:=fp,fn:=λ_=>false,pn:=[],xe:=λ_ _=>False }
def Keep(σ τ:L2.St):Prop:=∀(i:Nat) (v:V),σ[i]? = some (some v)->τ[i]? = some (some v)
theorem EQ{x:Option V}{r:L2.St} :Keep (none::r) (x::r):=λi v h=>by
 cases i with
 | zero=>cases h
 | succ j=>exact h
theorem BH{x y:Option V}{r:L2.St} :Keep (none::none::r) (x::y::r):=λi v h=>by
 cases i with
 | zero=>cases h
 | succ j=>cases j with
  | zero=>cases h
  | succ k=>exact h
def CompGoF(σ0:L2.St)(J:It)(g:TG)(te:TE)(Q:VK)(p:Addr)(H':Hp):Prop:=
 ∃W:Nat->Nat->List V->Hp->Prop,(∃m,W 0 m [] H')/\∀i m ys H2,W i m ys H2->H2 p=some (.lst ys)/\ys.length<sizeLine/\
  ((J.stop i H2/\Q (.ref p) H2)∨(J.go i H2/\∀x H3,J.yld i H2 x H3->g x σ0 H3 fun σ4 H4=>Keep σ0 σ4/\te σ4 H4 λy H5=>H5 p=some (.lst ys)/\∃m',m'<m/\W (i+1) m' (ys++[y]) (upd H5 p (.lst (ys++[y])))))
def RV(own:Nat)(idx:List Nat)(wi:TI)(g:TG)(te:TE):TE:=fun σ H Q=>wi σ H λJ H1=>∀p H',H1 p=none->Same H1 H'->H' p=some (.lst [])->
 CompGoF (List.replicate own none++idx.map λj=>(σ[j]?).getD none) J g te Q p H'
section
variable{X:Cx}
theorem LU{ac:List (Addr×Obj)}{σ:L2.St}{H1:Hp}{s2:Shared}{N:List Str}{scope:Scope}{cl:List (Str×Addr)}{C:Addr}{fp:List Addr}(I:Inv X ac σ H1 s2)(hk:scope.kind=.function)
  (hsub:∀x c,cl.lookup x=some c->X.env.cells.lookup x=some c) (hhas:∀x,((relabel scope X.env).names.lookup x=some .cell∨(relabel scope X.env).names.lookup x=some .free)->∃c,cl.lookup x=some c)
  (hC:s2.heap.objs.size<=C) (hf:∀b∈fp,FpOk X ac H1 b) (hlt:∀b∈fp,b<s2.heap.objs.size):(jN X N scope cl C fp s2 H1).Ok where
 mod:=I.ok.mod
 kind:=hk
 glob:=I.ok.glob
 blt:=I.ok.blt
 above:=hC
 inj:=λx y c h1 h2=>I.ok.inj x y c (hsub x c h1) (hsub y c h2)
 has:=hhas
 cab:=λx c h _=>by cases h
 hd:=I.ok.hd
 frames:=I.ok.frames
 stk:=.inl rfl
 exf:=λb hb=>⟨mO (gG (hlt b hb) hC),λx c h=>(hf b hb).2.2.2.2.1 x c (hsub x c h)⟩
 bs:=I.bs
 bsz:=mN I.ok.bsz I.sz
 noex:=λb o e hb=>by
  rcases(hf b hb).2.2.2.1 with z | z
  ·exact I.ok.noex b o e z
  ·exact absurd (gG (mM e) (mN I.ok.bsz z)) (mJ _)
 exfs:=λb hb z=>(mI.mp (I.stkSub b z)).elim (hf b hb).2.1 (hf b hb).2.2.1
 funs:=I.stack
 frf:=I.stkFree
structure CmpH(X:Cx)(own:Nat)(idx:List Nat)(N:List Str)(scope:Scope)(cl:List (Str×Addr)):Prop where
 k:scope.kind=.function
 clos:closureFor scope X.env=pure cl
 cell:∀x∈scope.names,x.2≠.cell
 names:∀x∈scope.names,x.2=.local->scope.names.lookup x.1=some .local
 sub:∀x c,cl.lookup x=some c->X.env.cells.lookup x=some c
 has:∀x,((relabel scope X.env).names.lookup x=some .cell∨(relabel scope X.env).names.lookup x=some .free)->∃c,cl.lookup x=some c
 len:N.length=own+idx.length
 at':∀(k j:Nat) (x:Str),idx[k]? = some j->N[own+k]? = some x->X.N[j]? = some x/\X.env.kindOf x=some .cell/\(relabel scope X.env).names.lookup x=some .cell/\X.env.scope.names.lookup x=some .cell
def CGo(Y:Cx)(σ0:L2.St)(J:It)(B:Value->(Shared->Prop)->Shared->Prop)(Qn:Hp->Prop)(H':Hp):Prop:=
 ∃W:Nat->Nat->Hp->Prop,(∃m,W 0 m H')/\∀i m H2,W i m H2->(J.stop i H2/\Qn H2)∨(J.go i H2/\∀x H3,J.yld i H2 x H3->∀pns u s5 K,Inv Y pns σ0 H3 s5->RelV x u->
  (∀s8 σ6 H8 m',Inv Y pns σ6 H8 s8->Keep σ0 σ6->m'<m->W (i+1) m' H8->K s8)->B u K s5)
def LeaveOk(X:Cx)(ac:List (Addr×Obj))(σ:L2.St)(use:Option (Value->Sem Unit))(Qc:Value->Shared->Prop)(Qn:Addr->Hp->Prop):Prop:=
 ∀N scope cl C fp s2 H1 σ0 H3 s4,Inv X ac σ H1 s2->(∀b∈fp,FpOk X ac H1 b)->C=s2.heap.objs.size+1->Inv (jN X N scope cl C fp s2 H1) [] σ0 H3 s4->Qn s2.heap.objs.size H3->
  compPost (model X.prog X.w) X.A X.xe use Qc (.ref s2.heap.objs.size) C (.ok .next) s4
theorem KD{ac:List (Addr×Obj)}{σ:L2.St}{N scope cl C fp s2 H1 σ0 H3 s4}(I2:Inv X ac σ H1 s2)(f2:∀b∈fp,FpOk X ac H1 b)(hC:C=s2.heap.objs.size+1)(I5:Inv (jN X N scope cl C fp s2 H1) [] σ0 H3 s4) :
  (∃m,s4.heap.Ns C m)/\Inv X ac σ H3 s4/\(∀b,b<s2.heap.objs.size->b≠C)/\∀σ' s5,Inv X ac σ' H3 s5->∀h',(∀b o,b≠C->s5.heap.get? b=some o->h'.get? b=some o)->Inv X ac σ' H3 { s5 with heap:=h' } :=by
 have lt:∀b,b<s2.heap.objs.size->b≠C:=λb hb=>by omega
 refine⟨I5.loc.imp λ_ h=>h.1,I2.call' (ch:=fp) (s':=s4) I5.os I5.base I5.hok I5.bare (λb hb=>⟨(f2 b hb).2.2.2.1,(f2 b hb).2.1,(f2 b hb).2.2.2.2.1,(f2 b hb).2.2.2.2.2⟩),lt,fun σ' s5 I6 h' k=>?_⟩;refine I6.turned (it:=C) (t':=s5.toks) k I5.free (Ne.symm (lt _ I2.lt)) (.inr (mN I2.sz (hC▸Nat.le_succ _))) (λx c hc=>?_) (λp hp=>lt _ (mM (I2.pin p hp).1));obtain⟨v,hv⟩:=I2.cell x c hc;exact lt _ hv.lt
theorem VI{ac:List (Addr×Obj)}{σ:L2.St}{Q:VK} :LeaveOk X ac σ none (EP X ac σ Q) (λp H=>Q (.ref p) H):=by
 intro N scope cl C fp s2 H1 σ0 H3 s4 I2 f2 hC I5 qn;obtain⟨⟨m,hm⟩,IX,_,k⟩:=KD I2 f2 hC I5;exact⟨m,hm,λh' sb=>⟨.ref s2.heap.objs.size,H3,k _ _ IX h' (λb o hb e=>sb.extBut b o hb e),rfl,qn⟩⟩
theorem LP{ac:List (Addr×Obj)}{σ:L2.St}{i:Nat}{y:Str}{py:Pos}{Qx:L2.St->Hp->Prop}(hN:X.N.Nodup)(hi:X.N[i]? = some y)(hx:Loc X.env.scope y)(hfn:X.fn y=true∨X.env.scope.names.lookup y=some .local) :
  LeaveOk X ac σ (some (assign (.Name y py) X.env)) (λ_ s'=>∃σ' H',Inv X ac σ' H' s'/\Qx σ' H') (λp H=>Qx (σ.set i (some (.ref p))) H):=by
 intro N scope cl C fp s2 H1 σ0 H3 s4 I2 f2 hC I5 qn;obtain⟨⟨m,hm⟩,IX,lt,k⟩:=KD I2 f2 hC I5;show wpAny _ X.A (assign (.Name y py) X.env (.ref s2.heap.objs.size)) _ _ s4;refine wpAny_assign_Name (FI IX hN hi hx (v:=.ref s2.heap.objs.size) rfl (λs5 I6 ⟨a,sb,ha⟩=>?_) hfn);have aC:a≠C:=by
  rcases ha with ha | ha
  ·rw[ha];exact lt _ I2.lt
  ·obtain⟨v,hv⟩:=I2.cell y a ha;exact lt _ hv.lt
 exact⟨m,hm.sameBut sb (Ne.symm aC),λh' sb'=>⟨_,H3,k _ _ I6 h' (λb o hb e=>sb'.extBut b o hb e),qn⟩⟩
theorem yG{own:Nat}{idx:List Nat}{N:List Str}{scope:Scope}{cl:List (Str×Addr)}(M:CmpH X own idx N scope cl)(hc:X.calm=true){e target iter:Expr}{gs:List Comprehension}{ifs:List Expr}{pos:Pos}{T:String}{data:Data}{u0:HO}{wi:TI}{G:It->Addr->Hp->Prop}
  {B:Env->Addr->(Result->Shared->Prop)->Value->(Shared->Prop)->Shared->Prop} {use:Option (Value->Sem Unit)} {Qc:Value->Shared->Prop} {Qn:Addr->Hp->Prop} {ac:List (Addr×Obj)} {s:Shared} {σ:L2.St} {H:Hp} (I:Inv X ac σ H s) (hi:PI X target iter wi)
  (h:wi σ H λJ H1=>∀p H',H1 p=none->Same H1 H'->H' p=some u0->G J p H') (hcl:clausesOf e=⟨target,iter,ifs,0⟩::gs) (hs:∀x,foldedSetIterable iter X.env x=pure x) (hd:sizeOk data) (hfr:({ cls:=.type T,dict:=none,data:=data } :Obj).isFreed=false)
  (hnew:∀s2 H1 h,Inv X ac σ H1 s2->h.get? s2.heap.objs.size=some { cls:=.type T,dict:=none,data:=data }->ObjOk X.prog X.w (upd H1 s2.heap.objs.size u0) h s2.heap.objs.size u0)
  (hloop:∀{it:Value} {a:Addr} {env:Env} {R:Result->Shared->Prop} {s:Shared} (V:Nat->Shared->Prop),(∀n s,V n s->wpAny (model X.prog X.w) X.A (pyNext it) (λr s₁=>match r with
   | none=>R (.ok .next) s₁
   | some v=>wpAny (model X.prog X.w) X.A (letOwnedTupleGo target it v) (λ_ s₁'=>B env a R v (λs₄=>∃m,m<n/\V m s₄) s₁') (notedBy (model X.prog X.w) X.A env λe s'=>R (.error e) s') s₁) (notedBy (model X.prog X.w) X.A env λe s'=>R (.error e) s') s)->
   ∀n,V n s->codeAny (model X.prog X.w) X.A (.compLoop e 0 it (.ref a) env) R s)
  (hstart:∀{it acc:Value} {env:Env} {R:Result->Shared->Prop} {s:Shared},codeAny (model X.prog X.w) X.A (.compLoop e 0 it acc env) R s->wpAny (model X.prog X.w) X.A (pyIter it) (λit' s'=>codeAny (model X.prog X.w) X.A (.compLoop e 0 it' acc env) R s') (notedBy (model X.prog X.w) X.A env λx s'=>R (.error x) s') s->codeAny (model X.prog X.w) X.A (.compStart e 0 it acc env) R s)
  (hG:∀C fp s2 H2 J p H' R,G J p H'->CGo (jN X N scope cl C fp s2 H2) (List.replicate own none++idx.map λj=>(σ[j]?).getD none) J (B (compEnvC scope cl C X.env) p R) (Qn p) H')
  (hL:LeaveOk X ac σ use Qc Qn):wpAny (model X.prog X.w) X.A (comprehension e scope X.env pos (newObj (.type T) data) false (eval iter X.env) use) Qc X.xe s:=by
 refine wpAny_comprehension_free hcl hs M.clos M.k M.names (thn (hi ac s σ H _ I h) λv s1 h1=>thn h1 λitv s2 h2=>?_);obtain⟨it,fp,tn,J,H1,e,I2,T,st2,f2,hR⟩:=h2;subst e;have hlt:∀b∈fp,b<s2.heap.objs.size:=λb hb=>by
  obtain⟨o,ho,_⟩:=T.obj 0 _ st2 b hb;exact mM ho
 refine wpAny_newObj_type (wpAny_newFunctionEnv M.cell (by intro y hy;simp at hy) (λh₁ hns₁ hsb₁=>?_) M.k) hd;dsimp only at hns₁ hsb₁ ⊢;generalize hHH:s2.heap.push _=HH at hns₁ hsb₁ ⊢;have hCe:HH.objs.size=s2.heap.objs.size+1:=by rw[<-hHH,mG]
 have hDC:s2.heap.objs.size≠HH.objs.size:=by rw[hCe];exact mO (hJ _)
 have hCle:s2.heap.objs.size<=HH.objs.size:=by rw[hCe];exact Nat.le_succ _
 have old:∀b o,s2.heap.get? b=some o->h₁.get? b=some o:=λb o e=>hsb₁.extBut b o (by rw[hCe];exact mO (Nat.lt_succ_of_lt (mM e))) (uS _ (hHH▸uS _ e));have hD:=hsb₁.extBut _ _ hDC (uS _ (hHH▸gC _ hfr));have nD:H1 s2.heap.objs.size=none:=I2.hok.fresh uJ ;obtain⟨W,⟨m0,w0⟩,turn⟩:=hG HH.objs.size fp s2 H1 J _ _ (compPost (model X.prog X.w) X.A X.xe use Qc (.ref s2.heap.objs.size) HH.objs.size) (hR s2.heap.objs.size _ nD (kB u0 nD) jI);generalize hσ:(List.replicate own none++idx.map λj=>(σ[j]?).getD none:L2.St)=σ0 at turn;have lσ:σ0.length=N.length:=by rw[<-hσ,gE,uU,hU,M.len]
 have ok:=LU (N:=N) (cl:=cl) (C:=HH.objs.size) I2 M.k M.sub M.has hCle f2 hlt;have oldC:∀c v,s2.heap.IsCell c v->h₁.IsCell c v:=λc v ⟨o,ho,hd⟩=>⟨o,old c o ho,hd⟩;have I4:Inv (jN X N scope cl HH.objs.size fp s2 H1) [] σ0 (upd H1 s2.heap.objs.size u0) { s2 with heap:=h₁,toks:=s2.toks+([]:List (Str×Value)).length } :=by
  refine⟨ok,rfl,I2.bare,Un.laid old uJ nD,⟨_,hns₁,λi x v e1 e2 _=>?_⟩,(λx c z=>?_), ?_,(λx c z=>?_),(λp hp=>nomatch hp),I2.hok.laid old uJ (hnew _ _ _ I2 hD),lσ⟩
  ·
   rw[<-hσ]at e2;by_cases hi':i<own
   ·rw[List.getElem?_append_left (by rw[uU];exact hi'),List.getElem?_replicate]at e2;split at e2<;>cases e2
   ·obtain⟨k,rfl⟩:∃k,i=own+k:=⟨i-own,by omega⟩;rw[List.getElem?_append_right (by rw[uU];omega),uU,Nat.add_sub_cancel_left,gM]at e2;cases ej:idx[k]? with
    | none=>rw[ej]at e2;cases e2
    | some j=>
     rw[ej,Option.map_some]at e2;have e2:=Option.some.inj e2;obtain⟨n1,n2,n3,n4⟩:=M.at' k j x ej e1;have e3:σ[j]? = some (some v):=by
      cases q:σ[j]? with
      | none=>rw[q]at e2;cases e2
      | some y=>rw[q,Option.getD_some]at e2;rw[e2]
     obtain⟨m,hm,hl⟩:=I2.loc;obtain⟨u,ru,lk⟩:=hl j x v n1 e3 (.inr (.inl n4));refine⟨u,ru, ?_⟩;rcases lk with⟨kl,_⟩ | ⟨_,c,hcl,hic⟩
     ·rw[n2]at kl;cases kl
     ·obtain⟨c',hc'⟩:=M.has x (.inl n3);have:c'=c:=Option.some.inj ((M.sub x c' hc').symm.trans hcl);subst this;exact .inr ⟨.inl n3,c',hc',oldC _ _ hic⟩
  ·obtain⟨v,hv⟩:=I2.cell x c (M.sub x c z);exact⟨v,oldC _ _ hv⟩
  ·show(upd H1 s2.heap.objs.size u0) HH.objs.size=none;rw[jL (Ne.symm hDC)];exact I2.hok.fresh hCle
  ·obtain⟨v,hv⟩:=I2.cell x c (M.sub x c z);show(upd H1 s2.heap.objs.size u0) c=none;rw[jL (mO hv.lt)];exact I2.freeC x c (M.sub x c z)
 have stat:∀{H':Hp},(∀b∈fp,H' b=none)->∀b∈fp,FpOk (jN X N scope cl HH.objs.size fp s2 H1) [] H' b:=λhn b hb=>
  ⟨hn b hb,(ok.exf b hb).1,ok.exfs b hb,.inl hb,(ok.exf b hb).2,λp hp=>nomatch hp⟩
 have st4:tn 0 h₁:=T.keep _ _ _ st2 λb _ o e=>old b o e;have fr4:∀b∈fp,(upd H1 s2.heap.objs.size u0) b=none:=λb hb=>by
  rw[jL (mO (hlt b hb))];exact(f2 b hb).1
 have loop:=hloop (it:=.ref it) (a:=s2.heap.objs.size) (env:=compEnvC scope cl HH.objs.size X.env) (R:=compPost (model X.prog X.w) X.A X.xe use Qc (.ref s2.heap.objs.size) HH.objs.size) (s:={ s2 with heap:=h₁,toks:=s2.toks+([]:List (Str×Value)).length })
  (λn s'=>∃i H',Inv (jN X N scope cl HH.objs.size fp s2 H1) [] σ0 H' s'/\tn i s'.heap/\(∀b∈fp,H' b=none)/\W i n H') (by
  rintro n s3 ⟨i,H3,I3,st3,fr3,w3⟩;rcases turn i n H3 w3 with⟨stop,qn⟩ | ⟨go,step⟩
  ·refine thn (T.done (jN X N scope cl HH.objs.size fp s2 H1) rfl rfl rfl hc i [] s3 _ H3 _ I3 (stat fr3) st3 stop) λr s4 ⟨hr,I5⟩=>?_;subst hr;exact hL _ _ _ _ _ _ _ _ _ _ I2 f2 hCe I5 qn
  ·refine nF (T.item (jN X N scope cl HH.objs.size fp s2 H1) rfl rfl rfl hc i [] s3 _ H3 (λ_ _=>False) I3 (stat fr3) st3 go) (λr s4 ⟨u,hr,h4⟩=>?_) λ_ _ z=>z.elim;subst hr;refine nF h4 (λ_ s5 ⟨x,H5,I5,r5,y5,st5,fr5⟩=>?_) λ_ _ z=>z.elim;refine step x H5 y5 _ u s5 _ (I5.pinned (stat fr5) (T.obj _ _ st5)) r5 λs8 σ6 H8 m' I8 kp6 hm' w7=>?_;refine⟨m',hm',i+1,_,(I8.unpinned).weak (by rw[lσ,I8.len];rfl) kp6,T.keep _ _ _ st5 λb hb o e=>(I8.pin (b,o) (uT _ (uT _ (vQ hb e)))).1,λb hb=>?_,w7⟩;obtain⟨o,e,d⟩:=T.obj _ _ st5 b hb;exact(I8.pin (b,o) (uT _ (uT _ (vQ hb e)))).2.1) m0 ⟨0,_,I4,st4,fr4,w0⟩
 exact hstart loop (T.self _ 0 _ _ _ st4 loop)
theorem HR{ac:List (Addr×Obj)}{σ:L2.St}(s2:Shared)(H1:Hp)(h:Heap)(_:Inv X ac σ H1 s2)(hD:h.get? s2.heap.objs.size=some { cls:=.type "list",dict:=none,data:=.seq ([]:List Value).toArray }):ObjOk X.prog X.w (upd H1 s2.heap.objs.size (.lst [])) h s2.heap.objs.size (.lst []):=
 ⟨by show 0<=sizeLine;decide,[],0,.nil,hD⟩
abbrev BF(X:Cx)(target elt:Expr)(env:Env)(a:Addr)(R:Result->Shared->Prop)(v:Value)(K:Shared->Prop)(s:Shared):Prop:=
 wpAny (model X.prog X.w) X.A (assign target env v) (λ_ s₂=>wpAny (model X.prog X.w) X.A (eval elt env) (λx s₃=>
  wpAny (model X.prog X.w) X.A (call (.builtin "list.append") [.ref a,x]) (λ_ s₄=>K s₄) (notedBy (model X.prog X.w) X.A env λe s'=>R (.error e) s') s₃)
  (notedBy (model X.prog X.w) X.A env λe s'=>R (.error e) s') s₂) (notedBy (model X.prog X.w) X.A env λe s'=>R (.error e) s') s
theorem cgoF{target elt:Expr}{g:TG}{te:TE}{N:List Str}{scope:Scope}{cl:List (Str×Addr)}(hg:∀C fp s2 H2,PG (jN X N scope cl C fp s2 H2) target g)(he:∀C fp s2 H2,PE (jN X N scope cl C fp s2 H2) elt te){σ0:L2.St}{Q:VK}(C:Addr)(fp:List Addr)(s2:Shared)(H2:Hp)(J:It)(p:Addr)(H':Hp)(R:Result->Shared->Prop)
  (h:CompGoF σ0 J g te Q p H'):CGo (jN X N scope cl C fp s2 H2) σ0 J (BF X target elt (compEnvC scope cl C X.env) p R) (λH=>Q (.ref p) H) H':=by
 obtain⟨W,⟨m0,w0⟩,turn⟩:=h;refine⟨λi m H=>∃ys,W i m ys H,⟨m0,[],w0⟩, ?_⟩;rintro i m H3 ⟨ys,w⟩;obtain⟨hp3,hz3,hw⟩:=turn i m ys H3 w;refine hw.imp id λ⟨go,step⟩=>⟨go,λx H5 y5 pns u s5 K I5 r5 hK=>?_⟩;refine nF (hg _ _ _ _ _ s5 _ H5 x u _ I5 r5 (step x H5 y5)) (λ_ s6 ⟨σ6,H6,I6,kp6,q6⟩=>?_) λ_ _ z=>z.elim;refine nF (he _ _ _ _ _ s6 σ6 H6 _ I6 q6) (λy s7 ⟨yv,H7,I7,r7,e7,m',hm',w7⟩=>?_) λ_ _ z=>z.elim;refine nF (qE (X:=jN X N scope cl C fp s2 H2) _ s7 σ6 H7 (.ref p) [yv] (.ref p) [y] (λ_ H8=>H8=upd H7 p (.lst (ys++[yv]))) I7 rfl (.cons r7 .nil) ⟨_,ys,yv,rfl,rfl,e7,hz3,rfl⟩) (λ_ s8 ⟨_,H8,I8,_,q8⟩=>?_) λ_ _ z=>z.elim;subst q8;exact hK _ _ _ m' I8 kp6 hm' ⟨_,w7⟩
theorem vZ{own:Nat}{idx:List Nat}{N:List Str}{elt target iter:Expr}{scope:Scope}{cl:List (Str×Addr)}{pos:Pos}{wi:TI}{g:TG}{te:TE}(hc:X.calm=true)
  (hk:scope.kind=.function) (hclos:closureFor scope X.env=pure cl) (hcell:∀x∈scope.names,x.2≠.cell) (hnames:∀x∈scope.names,x.2=.local->scope.names.lookup x.1=some .local)
  (hsub:∀x c,cl.lookup x=some c->X.env.cells.lookup x=some c) (hhas:∀x,((relabel scope X.env).names.lookup x=some .cell∨(relabel scope X.env).names.lookup x=some .free)->∃c,cl.lookup x=some c)
  (hlen:N.length=own+idx.length)
  (hidx:∀(k j:Nat) (x:Str),idx[k]? = some j->N[own+k]? = some x->X.N[j]? = some x/\X.env.kindOf x=some .cell/\(relabel scope X.env).names.lookup x=some .cell/\X.env.scope.names.lookup x=some .cell)
  (hi:PI X target iter wi) (hg:∀C fp s2 H2,PG (jN X N scope cl C fp s2 H2) target g) (he:∀C fp s2 H2,PE (jN X N scope cl C fp s2 H2) elt te)
  (hs:∀x,foldedSetIterable iter X.env x=pure x:=by intro _;rfl):PE X (.ListComp elt [⟨target,iter,[],0⟩] scope pos) (RV own idx wi g te):=by
 intro ac s σ H Q I h;rw[eval_ListComp];exact yG ⟨hk,hclos,hcell,hnames,hsub,hhas,hlen,hidx⟩ hc I hi h rfl hs (data:=.seq ([]:List Value).toArray) (mX _) rfl HR (B:=BF X target elt) (λV=>yR V) codeAny_compStart_list (cgoF hg he) VI
def hasB(names:List (Str×NameKind))(cl:List (Str×Addr)):Bool:=names.all λy=>match y.2 with
 | .cell=>(cl.lookup y.1).isSome
 | .free=>(cl.lookup y.1).isSome
 | _=>true
theorem qN{names:List (Str×NameKind)}{cl:List (Str×Addr)}(h:hasB names cl=true):∀x,(names.lookup x=some .cell∨names.lookup x=some .free)->∃c,cl.lookup x=some c:=by
 intro x hx;have all:=List.all_eq_true.mp h;rcases hx with hx | hx
 ·have:=all _ (PySem.mem_of_lookup hx);exact Option.isSome_iff_exists.mp this
 ·have:=all _ (PySem.mem_of_lookup hx);exact Option.isSome_iff_exists.mp this
theorem vS{X:Cx}{scope:Scope}{own j0:Nat}{N:List Str}{x0:Str}(h0:N[own]? = some x0)(h:X.N[j0]? = some x0/\X.env.kindOf x0=some .cell/\(relabel scope X.env).names.lookup x0=some .cell/\X.env.scope.names.lookup x0=some .cell) :
  ∀(k j:Nat) (x:Str),[j0][k]? = some j->N[own+k]? = some x->X.N[j]? = some x/\X.env.kindOf x=some .cell/\(relabel scope X.env).names.lookup x=some .cell/\X.env.scope.names.lookup x=some .cell:=by
 intro k j x e1 e2
 match k,e1 with
 | 0,e1=>
  cases e1;rw[Nat.add_zero,h0]at e2;cases e2;exact h
 | k+1,e1=>cases e1
end
theorem IE{J:It}{xs:List V}{σ0:L2.St}{g:TG}{te:TE}{Q:VK}{p:Addr}{H':Hp}(Pv:Nat->List V->Hp->Prop)(hz:xs.length<sizeLine)(h0:Pv 0 [] H')
  (hgo:∀i ys H2,Pv i ys H2->i<xs.length->J.go i H2/\∀x H3,J.yld i H2 x H3->H3=H2/\xs[i]? = some x) (hst:∀ys H2,Pv xs.length ys H2->J.stop xs.length H2) (hl:∀i ys H2,Pv i ys H2->H2 p=some (.lst ys))
  (hs:∀i m ys x H2,xs[i]? = some x->m=xs.length-i->ys.length=i->Pv i ys H2->g x σ0 H2 fun σ4 H4=>Keep σ0 σ4/\te σ4 H4 λy H5=>H5 p=some (.lst ys)/\∃m',m'<m/\CompW xs Pv (i+1) m' (ys++[y]) (upd H5 p (.lst (ys++[y]))))
  (hd:∀ys H2,ys.length=xs.length->Pv xs.length ys H2->Q (.ref p) H2):CompGoF σ0 J g te Q p H':=by
 unfold CompGoF;refine⟨CompW xs Pv,⟨_,rfl,mX _,rfl,h0⟩, ?_⟩;rintro i m ys H2 ⟨hm,hi,hy,hp⟩;refine⟨hl i ys H2 hp,by omega, ?_⟩;by_cases hlt:i<xs.length
 ·obtain⟨g1,g2⟩:=hgo i ys H2 hp hlt;refine .inr ⟨g1,λx H3 y=>?_⟩;obtain⟨e3,z⟩:=g2 x H3 y;subst e3;exact hs i m ys x _ z hm hy hp
 ·have ei:i=xs.length:=by omega
  subst ei;exact .inl ⟨hst ys H2 hp,hd ys H2 hy hp⟩
theorem wP{K:nI}{a:Addr}{xs:List V}{σ0:L2.St}{g:TG}{te:TE}{Q:VK}{p:Addr}{H':Hp}(Pv:Nat->List V->Hp->Prop)(hz:xs.length<sizeLine)(h0:Pv 0 [] H')
  (hl:∀i ys H2,Pv i ys H2->SqL K H2 a xs/\H2 p=some (.lst ys))
  (hs:∀i m ys x H2,xs[i]? = some x->m=xs.length-i->ys.length=i->Pv i ys H2->g x σ0 H2 fun σ4 H4=>Keep σ0 σ4/\te σ4 H4 λy H5=>H5 p=some (.lst ys)/\∃m',m'<m/\CompW xs Pv (i+1) m' (ys++[y]) (upd H5 p (.lst (ys++[y]))))
  (hd:∀ys H2,ys.length=xs.length->Pv xs.length ys H2->Q (.ref p) H2):CompGoF σ0 (Itl K a) g te Q p H':=
 IE Pv hz h0 (λi ys H2 h hi=>⟨⟨xs,xs[i],(hl i ys H2 h).1,by simp [hi]⟩,λx H3 y=>⟨y.1,y.2 xs (hl i ys H2 h).1⟩⟩) (λys H2 h=>⟨xs,(hl _ ys H2 h).1,mW _⟩) (λi ys H2 h=>(hl i ys H2 h).2) hs hd
theorem AZ{K:nI}{a:Addr}{xs:List V}{σ0:L2.St}{g:TG}{te:TE}{Q:VK}{p:Addr}{H':Hp}(Pv:Nat->List V->Hp->Prop)(hz:xs.length<sizeLine)(h0:Pv 0 [] H')
  (hl:∀i ys H2,Pv i ys H2->SqT K H2 a xs/\H2 p=some (.lst ys))
  (hs:∀i m ys x H2,xs[i]? = some x->m=xs.length-i->ys.length=i->Pv i ys H2->g x σ0 H2 fun σ4 H4=>Keep σ0 σ4/\te σ4 H4 λy H5=>H5 p=some (.lst ys)/\∃m',m'<m/\CompW xs Pv (i+1) m' (ys++[y]) (upd H5 p (.lst (ys++[y]))))
  (hd:∀ys H2,ys.length=xs.length->Pv xs.length ys H2->Q (.ref p) H2):CompGoF σ0 (Itt K a) g te Q p H':=
 IE Pv hz h0 (λi ys H2 h hi=>⟨⟨xs,xs[i],(hl i ys H2 h).1,by simp [hi]⟩,λx H3 y=>⟨y.1,y.2 xs (hl i ys H2 h).1⟩⟩) (λys H2 h=>⟨xs,(hl _ ys H2 h).1,mW _⟩) (λi ys H2 h=>(hl i ys H2 h).2) hs hd
section
theorem zB(ns:List Int):∀j,j<=ns.length->preSum (λi=>ns.getD i 0) j=(ns.take j).sum
 | 0,_=>by simp [preSum]
 | j+1,h=>by
  have hj:j<ns.length:=h;show preSum (λi=>ns.getD i 0) j+ns.getD j 0=_;rw[zB ns j (by omega),List.take_succ_eq_append_getElem hj,List.sum_append,uO,uR hj];simp
theorem FH{M:Int} :∀(ns:List Int),(∀n∈ns,0<=n/\n<=M)->0<=ns.sum/\ns.sum<=ns.length*M
 | [],_=>by simp
 | n::r,h=>by
  have h1:=h n (by simp);have h2:=FH r λm hm=>h m (by simp [hm]);rw[List.sum_cons,gX,Int.natCast_succ,Int.add_mul];omega
def rSumT(K:nI):List V->Hp->VK->Prop:=λxs H Q=>∃(a:Addr) (ns:List Int),xs=[.ref a]/\SqT K H a (ns.map V.int)/\(∀n∈ns,0<=n/\n<=2^40)/\ns.length<=1000/\Q (.int ns.sum) H
theorem FT(hc:X.calm=true):CallR X (.builtin "sum") (rSumT X.K):=by
 intro ac s σ H xs us Q I r h;obtain⟨a,ns,rfl,hq,hb,hn,q⟩:=h;obtain⟨u,rfl,ru⟩:=xG r;cases ru;obtain⟨its,rv,p,hz⟩:=I.tuple hq;have i1:IntsAre its ns:=vD rv;have hl:=xA i1;have ha:a<s.heap.objs.size:=by
  obtain⟨o,e,_⟩:=p;exact mM e
 refine PySem.call_sum_walk (wpAny_pyIter_tuple (t:=a) (items:=its.toArray) p ?_);refine⟨s.heap.objs.size,_,_,_,_,_,λi=>ns.getD i 0,rfl,Walks.tuple (show X.A.in1.handled=none from I.ok.hd hc) s.heap.objs.size a (mO ha) its.toArray,⟨⟨_,gC _ rfl,rfl,rfl⟩,p.keeps λb o e=>uS _ e⟩, ?_, ?_, ?_, ?_⟩
 ·intro b hb;show b<(s.heap.push _).objs.size;rw[mG];simp only[mI,gU,or_false]at hb;rcases hb with rfl | rfl
  ·exact hJ _
  ·exact Nat.lt_succ_of_lt ha
 ·intro i v hv;have hv':its[i]? = some v:=by simpa using hv
  obtain⟨hi,e⟩:=uQ.mp hv';obtain⟨n,t,e1,e2⟩:=yF i1 hi;exact⟨t,by dsimp only;rw[<-e,e2,uO,e1];rfl⟩
 ·intro j hj;have hj':j<ns.length:=by rw[<-hl];simpa using hj
  have b1:=hb ns[j] (List.getElem_mem hj');have b2:=FH (ns.take (j+1)) λn hn'=>hb n (List.mem_of_mem_take hn');have e1:ns.getD j 0=ns[j]:=by rw[uO,uR hj'];rfl
  have l1:(ns.take (j+1)).length<=1000:=by rw[gT];omega
  dsimp only;rw[zB ns (j+1) hj',e1];unfold InLong;refine⟨⟨by omega,by omega⟩,⟨by omega, ?_⟩⟩;have:((ns.take (j+1)).length:Int)*2^40<=1000*2^40:=Int.mul_le_mul_of_nonneg_right (by omega) (by decide);omega
 ·intro h' tk t' k;have e:preSum (λi=>ns.getD i 0) its.toArray.size=ns.sum:=by
   rw[gN,hl,zB ns _ uJ,gW]
  rw[e];refine⟨.int ns.sum,H,I.kept (t':=tk) (λb o q=>?_),⟨t',rfl⟩,q⟩;exact k b o (by simp;exact mO (mM q)) (uS _ q)
end
end Lw
namespace LwT
open PySem PySem.Spec PyProof.Rows L2 Lw
def xU(f:Int->Int->Bool)(g:Nat->Nat->Bool):List Int->List Int->Bool
 | x::xs,y::ys=>if x=y then xU f g xs ys else f x y
 | xs,ys=>g xs.length ys.length
abbrev lexLt:List Int->List Int->Bool:=xU (λi j=>decide (i<j)) (λm n=>decide (m<n))
abbrev lexNe:List Int->List Int->Bool:=xU (λ_ _=>true) (λm n=>m != n)
abbrev lexGe:List Int->List Int->Bool:=xU (λi j=>decide (j<=i)) (λm n=>decide (n<=m))
theorem vT{f g}{ys:List Int} :xU f g [] ys=g 0 ys.length:=by cases ys<;>rfl
theorem vJ{f g}{xs:List Int} :xU f g xs []=g xs.length 0:=by cases xs<;>rfl
theorem VH:∀(xs ys:List Int),lexGe xs ys = !lexLt xs ys
 | [],ys=>by
  show xU _ _ _ _ = !xU _ _ _ _;rw[vT,vT];cases ys<;>simp
 | x::xs,[]=>by
  show xU _ _ _ _ = !xU _ _ _ _;rw[vJ,vJ];simp
 | x::xs,y::ys=>by
  show(if x=y then lexGe xs ys else _) = !(if x=y then lexLt xs ys else _);by_cases h:x=y
  ·rw[nH h,nH h];exact VH xs ys
  ·rw[nG h,nG h];by_cases h2:x<y
   ·simp [h2,show ¬y<=x by omega]
   ·simp [h2,show y<=x by omega]
theorem lexNe_eq:∀(xs ys:List Int),xU (λ_ _=>true) (λm n=>m != n) xs ys = !decide (xs=ys)
 | [],ys=>by
  rw[vT];cases ys<;>simp
 | x::xs,[]=>by
  rw[vJ];simp
 | x::xs,y::ys=>by
  show(if x=y then xU _ _ xs ys else true)=_;by_cases h:x=y
  ·rw[nH h,lexNe_eq xs ys];simp [h]
  ·rw[nG h];simp [h]
theorem OF{f:Int->Int->Bool}{g:Nat->Nat->Bool}{xs ys:List Int}{i:Nat}(h:min xs.length ys.length<=i):xU f g (xs.drop i) (ys.drop i)=g (xs.length-i) (ys.length-i):=by
 by_cases hx:xs.length<=i
 ·rw[List.drop_of_length_le hx,vT,List.length_drop];rw[show xs.length-i=0 by omega]
 ·have hy:ys.length<=i:=by omega
  rw[List.drop_of_length_le hy,vJ,List.length_drop];rw[show ys.length-i=0 by omega]
theorem wA{vs:List Value}{ns:List Int}(r:IntsAre vs ns){i:Nat}(h:i<vs.length):∃n t,vs[i]=.int n t/\ns.drop i=n::ns.drop (i+1):=by
 obtain⟨n,t,e1,e2⟩:=yF r h;refine⟨n,t,e2, ?_⟩;obtain⟨hi,e⟩:=uQ.mp e1;rw[List.drop_eq_getElem_cons hi,e]
section
variable{l b:Addr}{as bs:List Value}{xs ys:List Int}{n n2:Nat}{dd dd2:Option Addr}{sl sl2:Array (Option Value)}
theorem RM(ra:IntsAre as xs)(rb:IntsAre bs ys) :
  Meets (Builtin.«tuple.__lt__» ⟨[.ref l,.ref b],[]⟩)
   (λ_ R s=>s.heap.get? l=some { cls:=.type "tuple",dict:=dd,data:=.seq as.toArray n,slots:=sl }/\s.heap.get? b=some { cls:=.type "tuple",dict:=dd2,data:=.seq bs.toArray n2,slots:=sl2 }/\
    R (.ok (.ret (.bool (lexLt xs ys)))) s):=
 .of_wp λprog w A R s h=>by
  obtain⟨hp,g,d,tk,os⟩:=s;obtain⟨hl,hb,h⟩:=h;have f2:=AutoSeq1.sub_tuple_tuple;have la:=xA ra;have lb:=xA rb;have hZ:(as.zip bs).length=min as.length bs.length:=by simp
  wp_walk using wpAny_loadPart' hl,wpAny_loadPart' hb,wpAny_forIn_list _ (λrest b s'=>b.1=none/\s'=⟨hp,g,d,tk,os⟩/\∃i,i<=(as.zip bs).length/\rest=(as.zip bs).drop i/\
   R (.ok (.ret (.bool (lexLt (xs.drop i) (ys.drop i))))) ⟨hp,g,d,tk,os⟩) _
  case turn=>
   rintro⟨y,x⟩ rest b s' ⟨hb',rfl,i,hi,hz,hR⟩;have hlt:i<(as.zip bs).length:=by
    rcases Nat.lt_or_ge i (as.zip bs).length with h' | h'
    ·exact h'
    ·rw[List.drop_of_length_le h']at hz;cases hz
   have h1:i<as.length:=by omega
   have h2:i<bs.length:=by omega
   rw[List.drop_eq_getElem_cons hlt]at hz;injection hz with hyx hrest
   obtain⟨p,t1,e1,d1⟩:=wA ra h1;obtain⟨q,t2,e2,d2⟩:=wA rb h2;have hy:y=.int p t1:=by have:=congrArg Prod.fst hyx;rw[<-e1];simpa using this
   have hx:x=.int q t2:=by have:=congrArg Prod.snd hyx;rw[<-e2];simpa using this
   subst hy hx;rw[d1,d2]at hR;have hR:R (.ok (.ret (.bool (if p=q then lexLt (xs.drop (i+1)) (ys.drop (i+1))else decide (p<q))))) ⟨hp,g,d,tk,os⟩:=hR;refine nC (SeqAt.EqAt.int_int _ _ _ _ prog w _ _ ?_);by_cases hpq:p=q
   ·rw[nH hpq]at hR;have e:(p==q)=true:=by simp [hpq]
    rw[e]
    wp_walk
    exact⟨rfl,rfl,i+1,hlt,hrest,hR⟩
   ·rw[nG hpq]at hR;have e:(p==q)=false:=by simp [hpq]
    rw[e];simp only[Bool.not_false,if_true];refine nC (wpAny_rule ?_);refine nC (lt_int (a:=p) (b:=q) ?_)
    wp_walk
    exact⟨_,rfl,hR⟩
  case fin=>
   rintro⟨b1,b2⟩ s' ⟨hb',rfl,i,hi,hz,hR⟩;simp only at hb';subst hb';have hge:min as.length bs.length<=i:=by
    rcases Nat.lt_or_ge i (as.zip bs).length with h' | h'
    ·rw[List.drop_eq_getElem_cons h']at hz;cases hz
    ·exact hZ▸h'
   have e:lexLt (xs.drop i) (ys.drop i)=decide (xs.length-i<ys.length-i):=OF (by rw[la,lb]at hge;exact hge);have e2:decide (xs.length-i<ys.length-i)=decide (as.length<bs.length):=by
    rw[hZ]at hi;by_cases q:as.length<bs.length
    ·rw[mC q,mC (by omega)]
    ·rw[hW q,hW (by omega)]
   rw[e,e2]at hR
   wp_walk
   exact⟨_,rfl,by simpa [Builtin.Tuple.tupleCompareSizes]using hR⟩
  case h=>
   exact⟨rfl,rfl,0,mX _,rfl,by simpa using h⟩
theorem RL(ra:IntsAre as xs)(rb:IntsAre bs ys) :
  Meets (Builtin.«tuple.__ne__» ⟨[.ref l,.ref b],[]⟩)
   (λ_ R s=>s.heap.get? l=some { cls:=.type "tuple",dict:=dd,data:=.seq as.toArray n,slots:=sl }/\s.heap.get? b=some { cls:=.type "tuple",dict:=dd2,data:=.seq bs.toArray n2,slots:=sl2 }/\
    R (.ok (.ret (.bool (lexNe xs ys)))) s):=
 .of_wp λprog w A R s h=>by
  obtain⟨hp,g,d,tk,os⟩:=s;obtain⟨hl,hb,h⟩:=h;have f2:=AutoSeq1.sub_tuple_tuple;have la:=xA ra;have lb:=xA rb;have hZ:(as.zip bs).length=min as.length bs.length:=by simp
  wp_walk using wpAny_loadPart' hl,wpAny_loadPart' hb,wpAny_forIn_list _ (λrest b s'=>b.1=none/\s'=⟨hp,g,d,tk,os⟩/\∃i,i<=(as.zip bs).length/\rest=(as.zip bs).drop i/\
   R (.ok (.ret (.bool (lexNe (xs.drop i) (ys.drop i))))) ⟨hp,g,d,tk,os⟩) _
  case turn=>
   rintro⟨y,x⟩ rest b s' ⟨hb',rfl,i,hi,hz,hR⟩;have hlt:i<(as.zip bs).length:=by
    rcases Nat.lt_or_ge i (as.zip bs).length with h' | h'
    ·exact h'
    ·rw[List.drop_of_length_le h']at hz;cases hz
   have h1:i<as.length:=by omega
   have h2:i<bs.length:=by omega
   rw[List.drop_eq_getElem_cons hlt]at hz;injection hz with hyx hrest
   obtain⟨p,t1,e1,d1⟩:=wA ra h1;obtain⟨q,t2,e2,d2⟩:=wA rb h2;have hy:y=.int p t1:=by have:=congrArg Prod.fst hyx;rw[<-e1];simpa using this
   have hx:x=.int q t2:=by have:=congrArg Prod.snd hyx;rw[<-e2];simpa using this
   subst hy hx;rw[d1,d2]at hR;have hR:R (.ok (.ret (.bool (if p=q then lexNe (xs.drop (i+1)) (ys.drop (i+1))else true)))) ⟨hp,g,d,tk,os⟩:=hR;refine nC (SeqAt.EqAt.int_int _ _ _ _ prog w _ _ ?_);by_cases hpq:p=q
   ·rw[nH hpq]at hR;have e:(p==q)=true:=by simp [hpq]
    rw[e]
    wp_walk
    exact⟨rfl,rfl,i+1,hlt,hrest,hR⟩
   ·rw[nG hpq]at hR;have e:(p==q)=false:=by simp [hpq]
    rw[e]
    wp_walk
    exact⟨_,rfl,hR⟩
  case fin=>
   rintro⟨b1,b2⟩ s' ⟨hb',rfl,i,hi,hz,hR⟩;simp only at hb';subst hb';have hge:min as.length bs.length<=i:=by
    rcases Nat.lt_or_ge i (as.zip bs).length with h' | h'
    ·rw[List.drop_eq_getElem_cons h']at hz;cases hz
    ·exact hZ▸h'
   have e:lexNe (xs.drop i) (ys.drop i)=(xs.length-i != ys.length-i):=OF (by rw[la,lb]at hge;exact hge);have e2:(xs.length-i != ys.length-i)=(as.length != bs.length):=by
    rw[hZ]at hi;by_cases q:as.length=bs.length
    ·have q2:xs.length-i=ys.length-i:=by omega
     rw[bne,bne,q2,q,beq_self_eq_true,beq_self_eq_true]
    ·have q2:¬xs.length-i=ys.length-i:=by omega
     rw[bne,bne,beq_eq_false_iff_ne.mpr q2,beq_eq_false_iff_ne.mpr q]
   rw[e,e2]at hR
   wp_walk
   exact⟨_,rfl,by simpa [Builtin.Tuple.tupleCompareSizes]using hR⟩
  case h=>
   exact⟨rfl,rfl,0,mX _,rfl,by simpa using h⟩
end
section
variable{X:Cx}
def rOrdT(K:nI)(f:List Int->List Int->Bool):R2:=λx y H Q=>∃(a b:Addr) (ns ms:List Int),x=.ref a/\y=.ref b/\SqT K H a (ns.map V.int)/\SqT K H b (ms.map V.int)/\Q (.bl (f ns ms)) H
theorem op_ltT(hu:X.A.units<cLine):OpR X (compareOp .Lt) (rOrdT X.K lexLt):=by
 intro ac s σ H x y v u Q I rx ry h;obtain⟨a,b,ns,ms,rfl,rfl,ha,hb,q⟩:=h;cases rx;cases ry;obtain⟨its,r1,p1,_⟩:=I.tuple ha;obtain⟨its2,r2,p2,_⟩:=I.tuple hb;obtain⟨⟨cls,dd,data,sl⟩,ho,hc,n,hd⟩:=id p1;obtain⟨⟨cls2,dd2,data2,sl2⟩,ho2,hc2,n2,hd2⟩:=id p2;simp only at hc hd hc2 hd2;subst hc hd hc2 hd2;exact richCompare_meets_room (op:=.Lt) ⟨_,ho,rfl⟩ ⟨_,ho2,rfl⟩ PySem.F.slot_tuple_lt PySem.F.entry_tuple_lt (PySem.F.args_tuple_lt_2 _ _) (RM (vD r1) (vD r2)) ⟨ho,ho2,show Value.bool _≠Value.notImplemented/\_ from⟨(λz=>nomatch z),⟨.bl _,H,I,rfl,q⟩⟩⟩ hu
theorem op_neT(hu:X.A.units<cLine):OpR X (compareOp .NotEq) (rOrdT X.K lexNe):=by
 intro ac s σ H x y v u Q I rx ry h;obtain⟨a,b,ns,ms,rfl,rfl,ha,hb,q⟩:=h;cases rx;cases ry;obtain⟨its,r1,p1,_⟩:=I.tuple ha;obtain⟨its2,r2,p2,_⟩:=I.tuple hb;obtain⟨⟨cls,dd,data,sl⟩,ho,hc,n,hd⟩:=id p1;obtain⟨⟨cls2,dd2,data2,sl2⟩,ho2,hc2,n2,hd2⟩:=id p2;simp only at hc hd hc2 hd2;subst hc hd hc2 hd2;exact richCompare_meets_room (op:=.NotEq) ⟨_,ho,rfl⟩ ⟨_,ho2,rfl⟩ PySem.F.slot_tuple_ne PySem.F.entry_tuple_ne (PySem.F.args_tuple_ne_2 _ _) (RL (vD r1) (vD r2)) ⟨ho,ho2,show Value.bool _≠Value.notImplemented/\_ from⟨(λz=>nomatch z),⟨.bl _,H,I,rfl,q⟩⟩⟩ hu
end
end LwT
namespace L2
open PySem PySem.Spec PyProof.Rows
section
variable{κ:Type} [DecidableEq κ]
def qK(ag:List (κ×V))(k:κ):Option V:=(ag.find? λkv=>decide (kv.1=k)).map (·.2)
def vI(ag:List (κ×V))(k:κ)(v:V):List (κ×V):=
 if (ag.any λkv=>decide (kv.1=k))=true then ag.map (λkv=>if kv.1=k then(kv.1,v)else kv)else ag++[(k,v)]
theorem yB{p:κ×V}{r:List (κ×V)}{k:κ}(e:p.1=k):qK (p::r) k=some p.2:=by simp [qK,List.find?_cons,e]
theorem CI{p:κ×V}{r:List (κ×V)}{k:κ}(e:¬p.1=k):qK (p::r) k=qK r k:=by simp [qK,List.find?_cons,e]
theorem IK(k:κ):∀ag:List (κ×V),(ag.any λkv=>decide (kv.1=k))=(qK ag k).isSome
 | []=>rfl
 | p::r=>by
  rw[List.any_cons];by_cases e:p.1=k
  ·simp only[yB e,mC e,Bool.true_or,Option.isSome_some]
  ·rw[CI e,hW e,Bool.false_or];exact IK k r
theorem xW(ag:List (κ×V))(k:κ)(v:V):(vI ag k v).length<=ag.length+1:=by
 unfold vI;split
 ·rw[hU];omega
 ·rw[gE,gX,List.length_nil];omega
theorem RelO.isSome_eq{o:Option V}{u:Option Value}(r:RelO o u):o.isSome=u.isSome:=by
 cases o with
 | none=>cases u with
  | none=>rfl
  | some _=>exact(show False from r).elim
 | some _=>cases u with
  | none=>exact(show False from r).elim
  | some _=>rfl
theorem RelO.getD{o:Option V}{u:Option Value}{d:V}{d':Value}(r:RelO o u)(rd:RelV d d'):RelV (o.getD d) (u.getD d'):=by
 cases o with
 | none=>cases u with
  | none=>exact rd
  | some _=>exact(show False from r).elim
 | some _=>cases u with
  | none=>exact(show False from r).elim
  | some _=>exact r
theorem KV.val{ag:List (κ×V)}{vs:List (κ×Value)}(r:KV ag vs)(k:κ):RelO (qK ag k) (valueAt vs k):=by
 unfold KV at r;induction r with
 | nil=>exact True.intro
 | @cons p q ps qs h t ih=>
  obtain⟨h1,h2⟩:=h;by_cases e:p.1=k
  ·have e':q.1=k:=h1.symm.trans e;have b:valueAt (q::qs) k=some q.2:=by simp [valueAt,List.find?_cons,e']
   rw[yB e,b];exact h2
  ·have e':¬q.1=k:=λz=>e (h1.trans z);have b:valueAt (q::qs) k=valueAt qs k:=by simp [valueAt,List.find?_cons,e']
   rw[CI e,b];exact ih
theorem KV.any{ag:List (κ×V)}{vs:List (κ×Value)}(r:KV ag vs)(k:κ):(ag.any λkv=>decide (kv.1=k))=vs.any λkv=>decide (kv.1=k):=by
 unfold KV at r;induction r with
 | nil=>rfl
 | cons h t ih=>rw[List.any_cons,List.any_cons,ih,h.1]
theorem KV.repl{ag:List (κ×V)}{vs:List (κ×Value)}(r:KV ag vs)(k:κ){y:V}{u:Value}(ry:RelV y u) :
  KV (ag.map λkv=>if kv.1=k then(kv.1,y)else kv) (vs.map λkv=>if kv.1=k then(kv.1,u)else kv):=by
 unfold KV at r ⊢;induction r with
 | nil=>exact .nil
 | @cons p q ps qs h t ih=>
  rw[mH,mH];refine .cons ?_ ih;obtain⟨h1,h2⟩:=h;by_cases e:p.1=k
  ·rw[nH e,nH (h1.symm.trans e)];exact⟨h1,ry⟩
  ·rw[nG e,nG (λz=>e (h1.trans z))];exact⟨h1,h2⟩
theorem KV.put{ag:List (κ×V)}{vs:List (κ×Value)}(r:KV ag vs)(k:κ){y:V}{u:Value}(ry:RelV y u):KV (vI ag k y) (stored vs k u):=by
 unfold vI stored;rw[r.any k];by_cases e:(vs.any λkv=>decide (kv.1=k))=true
 ·rw[nH e,nH e];exact r.repl k ry
 ·rw[nG e,nG e];exact Paired.snoc r ⟨rfl,ry⟩
theorem KV.length{ag:List (κ×V)}{vs:List (κ×Value)}(r:KV ag vs):ag.length=vs.length:=Paired.length r
end
theorem BJ{P:Program}{w:World}{k:Key}{u:Value}(r:RelV (kV k) u):(kE P w).is k u=true:=by
 cases k with
 | inl i=>obtain⟨t,e⟩:=(show ∃t,u=Value.int i t from r);subst e;exact JN P w i t
 | inr x=>obtain⟨t,e⟩:=(show ∃t,u=Value.str x t from r);subst e;exact JM P w x t
theorem FP{P:Program}{w:World} :∀{ks:List Key} {us:List Value},Vals (ks.map kV) us->ItemsAre (kE P w) ks us
 | [],_,r=>by rw[List.map_nil]at r;cases r;exact .nil
 | k::ks,_,r=>by
  rw[mH]at r;cases r with
  | cons h t=>exact .cons (BJ h) (FP t)
abbrev KT(H:Hp):List (List Key×V)->List (List Key×Addr×Value)->Prop:=Paired λp q=>p.1=q.1/\H q.2.1=some (.tup (p.1.map kV))/\RelV p.2 q.2.2
theorem KT.val{H:Hp}{ag:List (List Key×V)}{xs:List (List Key×Addr×Value)}(r:KT H ag xs)(k:List Key):RelO (qK ag k) ((atKey xs k).map (·.2)):=by
 induction r with
 | nil=>exact True.intro
 | @cons p q ps qs h t ih=>
  obtain⟨h1,_,h2⟩:=h;by_cases e:p.1=k
  ·have e':q.1=k:=h1.symm.trans e;have b:atKey (q::qs) k=some q.2:=by simp [atKey,List.find?_cons,e']
   rw[yB e,b];exact h2
  ·have e':¬q.1=k:=λz=>e (h1.trans z);have b:atKey (q::qs) k=atKey qs k:=by simp [atKey,List.find?_cons,e']
   rw[CI e,b];exact ih
theorem KT.repl{H:Hp}{ag:List (List Key×V)}{xs:List (List Key×Addr×Value)}(r:KT H ag xs)(k:List Key){y:V}{u:Value}(ry:RelV y u) :
  KT H (ag.map λkv=>if kv.1=k then(kv.1,y)else kv) (xs.map (putAt k u)):=by
 induction r with
 | nil=>exact .nil
 | @cons p q ps qs h t ih=>
  rw[mH,mH];refine .cons ?_ ih;obtain⟨h1,h2,h3⟩:=h;unfold putAt;by_cases e:p.1=k
  ·rw[nH e,nH (h1.symm.trans e)];exact⟨h1,h2,ry⟩
  ·rw[nG e,nG (λz=>e (h1.trans z))];exact⟨h1,h2,h3⟩
theorem KT.put{H:Hp}{ag:List (List Key×V)}{xs:List (List Key×Addr×Value)}(r:KT H ag xs)(k:List Key){b:Addr}{y:V}{u:Value}(hb:H b=some (.tup (k.map kV)))(ry:RelV y u) :
  KT H (vI ag k y) (storedH xs k b u):=by
 have e:(ag.any λkv=>decide (kv.1=k))=(atKey xs k).isSome:=by
  rw[IK,(r.val k).isSome_eq,Option.isSome_map]
 unfold vI storedH;rw[e];by_cases q:(atKey xs k).isSome=true
 ·rw[nH q,nH q];exact r.repl k ry
 ·rw[nG q,nG q];exact Paired.snoc r ⟨rfl,hb,ry⟩
theorem KT.keeps{H H':Hp}{ag:List (List Key×V)}{xs:List (List Key×Addr×Value)}(r:KT H ag xs)(ht:∀b ys,H b=some (.tup ys)->H' b=some (.tup ys)):KT H' ag xs:=
 Paired.mapP r λ_ _ z=>⟨z.1,ht _ _ z.2.1,z.2.2⟩
section
variable{P:Program}{w:World}{H:Hp}{h:Heap}{a:Addr}
theorem rd_of{u:HO}(ok:HOk P w H h)(e:Rd H a u):ObjOk P w H h a u:=e.ok ok
theorem EV{ag:List (Key×V)}(ok:HOk P w H h)(e:Rd H a (.dK ag)):ag.length<=sizeLine/\(a==sysModules)=false/\∃vs,KV ag vs/\h.DictOf (kE P w) a vs:=
 show ObjOk P w H h a (.dK ag)from rd_of ok e
theorem VY{ag:List (Key×V)}(ok:HOk P w H h)(e:H a=some (.dK ag)):ag.length<=sizeLine/\(a==sysModules)=false/\∃vs,KV ag vs/\h.DictOf (kE P w) a vs:=EV ok (.inl e)
theorem EN{ks:List Key}(ok:HOk P w H h)(e:H a=some (.tup (ks.map kV))):(tupleKind (kE P w)).is h ks a:=by
 obtain⟨_,its,r,⟨o,h1,h2,n,h3⟩,_⟩:=(show ObjOk P w H h a (.tup (ks.map kV))from ok a _ e);exact⟨o,its.toArray,n,h1,h2,h3,by simpa using FP r⟩
theorem JY{ag:List (List Key×V)}(ok:HOk P w H h)(e:Rd H a (.dT ag)):ag.length<=sizeLine/\(a==sysModules)=false/\
  ∃xs,KT H ag xs/\h.DictOfH (tupleKind (kE P w)) a xs:=by
 obtain⟨z,y,xs,r,o,es,ep,h1,h2,h3,h4,h5⟩:=(show ObjOk P w H h a (.dT ag)from rd_of ok e);refine⟨z,y,xs,r,o,es,ep,h1,h2,h3,h4,λx hx=>?_,h5⟩;have all:∀{l:List (List Key×V)} {m:List (List Key×Addr×Value)},KT H l m->∀x∈m,(tupleKind (kE P w)).is h x.1 x.2.1:=by
  intro l m q;induction q with
  | nil=>intro x hx;exact nomatch hx
  | @cons p q ps qs hq t ih=>
   intro x hx;rcases mI.mp hx with e | hx
   ·subst e;exact EN ok (by rw[<-hq.1];exact hq.2.1)
   ·exact ih x hx
 exact all r x hx
theorem dt_of{ag:List (List Key×V)}(ok:HOk P w H h)(e:H a=some (.dT ag)):ag.length<=sizeLine/\(a==sysModules)=false/\
  ∃xs,KT H ag xs/\h.DictOfH (tupleKind (kE P w)) a xs:=JY ok (.inl e)
end
def DGet(H:Hp)(a:Addr)(y:V)(r:Option V):Prop:=
 (∃ag k,Rd H a (.dK ag)/\y=kV k/\r=qK ag k)∨∃ag k b,Rd H a (.dT ag)/\y=.ref b/\H b=some (.tup (k.map kV))/\r=qK ag k
def DPut(H:Hp)(a:Addr)(y v:V)(H':Hp):Prop:=
 (∃ag k,H a=some (.dK ag)/\y=kV k/\ag.length<sizeLine/\H'=upd H a (.dK (vI ag k v)))∨
 ∃ag k b,H a=some (.dT ag)/\y=.ref b/\H b=some (.tup (k.map kV))/\ag.length<sizeLine/\H'=upd H a (.dT (vI ag k v))
theorem DGet.k{H:Hp}{a:Addr}{ag:List (Key×V)}{k:Key}(e:H a=some (.dK ag)):DGet H a (kV k) (qK ag k):=.inl ⟨ag,k,.inl e,rfl,rfl⟩
theorem DGet.t{H:Hp}{a b:Addr}{ag:List (List Key×V)}{k:List Key}(e:H a=some (.dT ag))(eb:H b=some (.tup (k.map kV))):DGet H a (.ref b) (qK ag k):=.inr ⟨ag,k,b,.inl e,rfl,eb,rfl⟩
theorem DPut.k{H:Hp}{a:Addr}{ag:List (Key×V)}{k:Key}{v:V}(e:H a=some (.dK ag))(hl:ag.length<sizeLine):DPut H a (kV k) v (upd H a (.dK (vI ag k v))):=.inl ⟨ag,k,e,rfl,hl,rfl⟩
section
variable{X:Cx}{ac:List (Addr×Obj)}{σ:St}{H:Hp}{s:Shared}{a:Addr}{y v:V}{u r:Value}{o:Option V}{A:Around}{E:Value->Shared->Prop}
theorem Inv.big(I:Inv X ac σ H s):sysModules<s.heap.objs.size:=by
 have h:mainGlobals<s.heap.objs.size:=(I.mod.glob.keeps I.bk).lt;exact Nat.lt_trans (by decide) h
theorem QT{Q:Value->Shared->Prop}(hu:A.units+1<cLine)(I:Inv X ac σ H s)(g:DGet H a y (some v))(ry:RelV y u)(h:∀w' s',Inv X ac σ H s'->RelV v w'->Q w' s') :
  wpAny (model X.prog X.w) A (getItem (.ref a) u) Q E s:=by
 rcases g with⟨ag,k,e,ey,l⟩ | ⟨ag,k,b,e,ey,eb,l⟩
 ·subst ey;obtain⟨z,hd,vs,rel,dd⟩:=EV I.hok e;obtain⟨w',hw,rw'⟩:=RelO.some_of (v:=v) (o:=valueAt vs k) (by rw[l];exact rel.val k);exact wpAny_getItem_of (BJ ry) dd.mapOf hw (h w' _ (I.tok _) rw')
 ·subst ey;cases (show u=Value.ref b from ry);obtain⟨z,hd,xs,rel,dd⟩:=JY I.hok e;obtain⟨w',hw,rw'⟩:=RelO.some_of (v:=v) (o:=(atKey xs k).map (·.2)) (by rw[l];exact rel.val k);obtain⟨p,hp,hp2⟩:=Option.map_eq_some_iff.mp hw;refine wpAny_getItem_heap (tupleKind_room_in1 hu) (EN I.hok eb) dd hp ?_;rw[hp2];exact h w' _ (I.tok _) rw'
theorem CD{h':Heap}{t':Nat}{ob:HO}(I:Inv X ac σ H s)(mu:Mut (H a))(hs:Heap.SameBut a s.heap h')(he:∃q,h'.get? a=some q)(new:ObjOk X.prog X.w (upd H a ob) h' a ob) :
  Inv X ac σ (upd H a ob) { s with heap:=h',toks:=t' } :=
 I.write (x:=a) (e:=a) mu (.inl rfl) (λb q hb z=>(hs.2 b hb).trans z) he new
theorem ID{P:Program}{w:World}{H':Hp}{h':Heap}{ag:List (Key×V)}{vs:List (Key×Value)}(z:ag.length<=sizeLine)(hd:(a==sysModules)=false)(rel:KV ag vs)(dd:h'.DictOf (kE P w) a vs) :
  ObjOk P w H' h' a (.dK ag):=⟨z,hd,vs,rel,dd⟩
theorem QS{H':Hp}{Q:Unit->Shared->Prop}(hu:A.units+1<cLine)(I:Inv X ac σ H s)(g:DPut H a y v H')(ry:RelV y u)(rv:RelV v r)(h:∀s',Inv X ac σ H' s'->Q () s') :
  wpAny (model X.prog X.w) A (setItem (.ref a) u r) Q E s:=by
 rcases g with⟨ag,k,e,ey,l,eH⟩ | ⟨ag,k,b,e,ey,eb,l,eH⟩
 ·subst ey eH;obtain⟨z,hd,vs,rel,dd⟩:=VY I.hok e;have hz:vs.length<=sizeLine:=by rw[<-rel.length];exact z
  have hl:(vI ag k v).length<=sizeLine:=by have:=xW ag k v;omega
  refine wpAny_setItem_pairs (hsz:=hz) (BJ ry) dd λh' dd' hs=>h _ ?_;have he:∃q,h'.get? a=some q:=let ⟨q,_,_,hq,_⟩:=dd';⟨q,hq⟩;exact CD I (by rw[e];exact True.intro) hs he (ID hl hd (rel.put k rv) dd')
 ·subst ey eH;cases (show u=Value.ref b from ry);obtain⟨z,hd,xs,rel,dd⟩:=dt_of I.hok e;have hz:xs.length<=sizeLine:=by rw[<-Paired.length rel];exact z
  have hl:(vI ag k v).length<=sizeLine:=by have:=xW ag k v;omega
  refine wpAny_setItem_heap (hsz:=hz) (tupleKind_room_in1 hu) (EN I.hok eb) dd λh' dd' hs=>h _ ?_;obtain⟨q,es,ep,hq,h2,h3,h4,_,h5⟩:=dd';refine CD I (by rw[e];exact True.intro) hs ⟨q,hq⟩ ⟨hl,hd,_,(rel.put k eb rv).keeps λc ys ec=>?_,q,es,ep,hq,h2,h3,h4,h5⟩;rw[jL (ne_of ec e (λz=>nomatch z))];exact ec
end
section
variable{X:Cx}{ac:List (Addr×Obj)}{σ:St}{H:Hp}{s:Shared}{a:Addr}{ag:List (Key×V)}{k:Key}{u:Value}{A:Around}{E:Value->Shared->Prop}
end
def NoSl(i:Expr):Prop:=∀ov iv,subscripted i false ov iv=operate [ov,iv] (getItem ov iv)
theorem MI{prog:Program}{w:World}{A:Around}{E:Value->Shared->Prop}{s:Shared}{env:Env}{value slice:Expr}{pos:Pos}{T id:String}{Q:Value->Shared->Prop}
  (hl:typeLookup (.type T) "__getitem__" = pure (some (.builtin id))) (hs:NoSl slice)
  (h:wpAny (model prog w) A (eval value env) (λo s₁=>wpAny (model prog w) A (eval slice env) (λi s₂=>s₂.TypeIs o T/\wpAny (model prog w) A (getItem o i) Q E s₂) E s₁) E s) :
  wpAny (model prog w) A (eval (.Subscript value slice pos) env) Q E s:=by
 refine Subscript_ (nF h (λo s₁ h₁=>nF h₁ (λi s₂ h₂=>?_) λ_ _ x=>x) λ_ _ x=>x);obtain⟨hT,h₂⟩:=h₂;unfold subscriptTail;refine nC ?_;rw[getitemInPython_of_ne hT.not_modules];refine nC (wpAny_specialOf hT hl ?_);have fin:wpAny (model prog w) A (subscripted slice false o i) (λr s₃=>wpAny (model prog w) A (letTemporaryGo value o r >>= λ_=>pure r) Q E s₃) E s₂:=by
  rw[hs o i];exact wpAny_operating (nF h₂ (λr s₃ h₃=>nC (wpAny_letTemporaryGo (nE h₃))) λ_ _ x=>x)
 first
  | exact nE (nC fin)
  | exact nC (nE (nC fin))
  | exact nC fin
theorem JZ{X:Cx}{ac:List (Addr×Obj)}{σ:St}{H:Hp}{s:Shared}{a:Addr}{y:V}{o:Option V}(I:Inv X ac σ H s)(g:DGet H a y o):s.TypeIs (.ref a) "dict":=by
 rcases g with⟨ag,k,e,_,_⟩ | ⟨ag,k,b,e,_,_,_⟩
 ·obtain⟨_,_,vs,_,dd⟩:=EV I.hok e;exact dd.typeIs
 ·obtain⟨_,_,xs,_,dd⟩:=JY I.hok e;exact dd.typeIs
def tDGet(td ty:TE):TE:=fun σ H Q=>td σ H λx H1=>ty σ H1 λy H2=>∃a v,x=.ref a/\DGet H2 a y (some v)/\Q v H2
def sDPut(td ty tv:TE):TS:=λD σ H=>tv σ H λv H1=>td σ H1 λx H2=>ty σ H2 λy H3=>∃a H4,x=.ref a/\DPut H3 a y v H4/\D.nx σ H4
section
variable{X:Cx}{o i e value:Expr}{pos pos' tpos:Pos}{td ty tv:TE}
theorem NJ(hu:X.A.units+1<cLine)(ho:PE X o td)(hi:PE X i ty)(hs:NoSl i):PE X (.Subscript o i pos) (tDGet td ty):=by
 intro ac s σ H Q I h;refine MI PySem.F.slot_dict_getitem.lookup hs (thn (ho ac s σ H _ I h) λu s1 ⟨x,H1,I1,rx,q1⟩=>thn (hi ac s1 σ H1 _ I1 q1) λiv s2 ⟨y,H2,I2,ry,a,v,ex,g,q2⟩=>?_);subst ex;obtain rfl:u=Value.ref a:=rx;exact⟨JZ I2 g,QT hu I2 g ry λw' s3 I3 rw'=>⟨v,H2,I3,rw',q2⟩⟩
theorem NE(hu:X.A.units+1<cLine)(ho:PE X o td)(hi:PE X i ty)(hv:PE X value tv)(hs:swapsWith value (some (.Subscript o i pos')) pos.line X.env=pure false) :
  PS X (.Assign [.Subscript o i pos'] value pos) (sDPut td ty tv):=by
 intro ac s σ H D I h;refine wpAny_Assign_Subscript (thn (hv ac s σ H _ I h) λr s1 ⟨v,H1,I1,rv,q1⟩=>thn (ho ac s1 σ H1 _ I1 q1) λu s2 ⟨x,H2,I2,rx,q2⟩=>thn (hi ac s2 σ H2 _ I2 q2) λiv s3 ⟨y,H3,I3,ry,a,H4,ex,g,q3⟩=>?_) hs;subst ex;obtain rfl:u=Value.ref a:=rx;exact QS hu I3 g ry rv λs4 I4=>⟨σ,H4,I4,q3⟩
end
theorem VZ{P:Program}{w:World}{H:Hp}(h:Heap)(hb:sysModules<h.objs.size):ObjOk P w H (h.push { cls:=.type "dict",data:=.dict #[] }) h.objs.size (.dK []):=
 ⟨mX _,beq_eq_false_iff_ne.mpr (Ne.symm (mO hb)),[],.nil,Heap.DictOf.new h⟩
def tDNewK:TE:=λ_ H Q=>∀p,H p=none->Q (.ref p) (upd H p (.dK []))
section
variable{X:Cx}{pos:Pos}
theorem JB:PE X (.Dict [] [] pos) tDNewK:=λac s σ H Q I h=>
 wpAny_Dict_empty ⟨.ref s.heap.objs.size,_,I.laid (a:=s.heap.objs.size) (o:=.dK []) (t':=s.toks) (λ_ _ q=>uS _ q) uJ (VZ s.heap I.big),rfl,h _ (I.hok.fresh uJ)⟩
end
structure M1(X:Cx)(o:Expr)(m:Str)(apos:Pos)(e:Expr)(cpos:Pos):Prop where
 base:attributeBase o m X.env (eval o X.env)=eval o X.env
 few:((backTo cpos (starEach [e] X.env)).all (λx=>!x.1)&&(backToKw cpos (keywordEach [] X.env)).all (λx=>x.1.isSome)
  &&decide (([e]:List Expr).length+([]:List Keyword).length+(if ([]:List Keyword).isEmpty then 0 else 1)<30))=true
 line:(apos.endLine==cpos.line)=true
 trees:backTo cpos (starEach [e] X.env)=[(false,eval e X.env)]
structure M2(X:Cx)(o:Expr)(m:Str)(apos:Pos)(e f:Expr)(cpos:Pos):Prop where
 base:attributeBase o m X.env (eval o X.env)=eval o X.env
 few:((backTo cpos (starEach [e,f] X.env)).all (λx=>!x.1)&&(backToKw cpos (keywordEach [] X.env)).all (λx=>x.1.isSome)
  &&decide (([e,f]:List Expr).length+([]:List Keyword).length+(if ([]:List Keyword).isEmpty then 0 else 1)<30))=true
 line:(apos.endLine==cpos.line)=true
 trees:backTo cpos (starEach [e,f] X.env)=[(false,eval e X.env),(false,eval f X.env)]
def IsD(H:Hp)(a:Addr):Prop:=(∃ag,Rd H a (.dK ag))∨∃ag,Rd H a (.dT ag)
theorem VN{X:Cx}{ac:List (Addr×Obj)}{σ:St}{H:Hp}{s:Shared}{a:Addr}(I:Inv X ac σ H s)(d:IsD H a) :
  s.TypeIs (.ref a) "dict"/\(∀b,Value.ref a=.ref b->∃ob,s.heap.get? b=some ob/\ob.dict=none)/\(a==sysModules)=false:=by
 rcases d with⟨ag,e⟩ | ⟨ag,e⟩
 ·obtain⟨_,hd,vs,_,dd⟩:=EV I.hok e;refine⟨dd.typeIs,λb q=>?_,hd⟩;cases q;obtain⟨ob,_,_,h1,h2,_⟩:=dd;exact⟨ob,h1,h2.2.1⟩
 ·obtain⟨_,hd,xs,_,dd⟩:=JY I.hok e;refine⟨dd.typeIs,λb q=>?_,hd⟩;cases q;obtain⟨ob,_,_,h1,h2,_⟩:=dd;exact⟨ob,h1,h2.2.1⟩
section
variable{X:Cx}{ac:List (Addr×Obj)}{σ:St}{H:Hp}{s:Shared}{a:Addr}{y d:V}{u r:Value}{o:Option V}{A:Around}{E:Value->Shared->Prop}
theorem d_get2{Q:Value->Shared->Prop}(hu:A.units+1<cLine)(I:Inv X ac σ H s)(g:DGet H a y o)(ry:RelV y u)(rd:RelV d r)(h:∀w' s',Inv X ac σ H s'->RelV (o.getD d) w'->Q w' s') :
  wpAny (model X.prog X.w) A (call (.builtin "dict.get") [.ref a,u,r]) Q E s:=by
 rcases g with⟨ag,k,e,ey,l⟩ | ⟨ag,k,b,e,ey,eb,l⟩
 ·subst ey;obtain⟨z,hd,vs,rel,dd⟩:=EV I.hok e;refine call_meetsIn PySem.F.slot_dict_get dd.typeIs PySem.F.entry_dict_get (PySem.F.args_dict_get_3 _ _ _) (meets_dict_get_default (kE X.prog X.w) a (BJ ry) hd r) ⟨_,dd.mapOf,h _ _ (I.tok _) ?_⟩;rw[l];exact(rel.val k).getD rd
 ·subst ey;cases (show u=Value.ref b from ry);obtain⟨z,hd,xs,rel,dd⟩:=JY I.hok e;refine call_meetsIn PySem.F.slot_dict_get dd.typeIs PySem.F.entry_dict_get (PySem.F.args_dict_get_3 _ _ _) (meetsH_dict_get_default (tupleKind (kE X.prog X.w)) a b hd r) ⟨tupleKind_room_in1 hu,k,xs,EN I.hok eb,dd,h _ _ (I.tok _) ?_⟩;rw[l];exact(rel.val k).getD rd
end
def tDGet2(td ty tx:TE):TE:=fun σ H Q=>td σ H λx H1=>∃a,x=.ref a/\IsD H1 a/\ty σ H1 λy H2=>tx σ H2 λz H3=>∃o,DGet H3 a y o/\Q (o.getD z) H3
section
variable{X:Cx}{o e f:Expr}{apos cpos:Pos}{td ty tx:TE}
theorem EA(hu:X.A.units+1<cLine)(ho:PE X o td)(he:PE X e ty)(hf:PE X f tx)(m:M2 X o "get" apos e f cpos):PE X (.Call (.Attribute o "get" apos) [e,f] [] cpos) (tDGet2 td ty tx):=by
 intro ac s σ H Q I h;refine wpAny_Call_method m.base m.few m.line PySem.F.plainAttrs_dict PySem.F.slot_dict_get PySem.F.type_dict_get (thn (ho ac s σ H _ I h) λu s1 ⟨x,H1,I1,rx,a,ex,d,q1⟩=>?_);subst ex;obtain rfl:u=Value.ref a:=rx;obtain⟨t1,t2,_⟩:=VN I1 d;refine⟨t1,t2, ?_⟩;rw[m.trees];refine Calls.callWith_builtin rfl (Calls.evalArgs_plain (Calls.spliced_cons (thn (he ac s1 σ H1 _ I1 q1) λiv s2 ⟨y,H2,I2,ry,q2⟩=>
  Calls.spliced_cons (thn (hf ac s2 σ H2 _ I2 q2) λfv s3 ⟨z,H3,I3,rz,ov,g,q3⟩=>Calls.spliced_nil ?_))))
 exact d_get2 hu I3 g ry rz λw' s4 I4 rw'=>⟨_,H3,I4,rw',q3⟩
end
section
variable{X:Cx}{ac:List (Addr×Obj)}{σ:St}{H:Hp}{s:Shared}{a:Addr}{ag:List (Key×V)}{A:Around}{E:Value->Shared->Prop}
theorem WF{Q:Value->Shared->Prop}(I:Inv X ac σ H s)(e:Rd H a (.dK ag))(h:∀p s',H p=none->Inv X ac σ (upd H p (.dK ag)) s'->Q (.ref p) s'):wpAny (model X.prog X.w) A (call (.type "dict") [.ref a]) Q E s:=by
 obtain⟨z,hd,vs,rel,dd⟩:=EV I.hok e;refine kt_call_dict hd dd (by rw[<-rel.length];exact z) λh' dd' hs=>?_;refine h _ _ (I.hok.fresh uJ) (I.laid (a:=s.heap.objs.size) (o:=.dK ag) (t':=s.toks) (λb q hq=>?_) uJ (ID z (beq_eq_false_iff_ne.mpr (Ne.symm (mO I.big))) rel dd'));exact(hs.2 b (mO (mM hq))).trans (uS _ hq)
end
section
variable{X:Cx}{ac:List (Addr×Obj)}{σ:St}{H:Hp}{s:Shared}{a:Addr}{y:V}{u:Value}{A:Around}{E:Value->Shared->Prop}
end
section
variable{X:Cx}
end
end L2
namespace L2
section
variable{κ:Type} [DecidableEq κ]
end
end L2
namespace LwD
open PySem PySem.Spec PyProof.Rows L2
section
variable{prog:Program}{w:World}{K:Type} [DecidableEq K]{knd:HeapKind prog w K}{A:Around}{E:Value->Shared->Prop}{s:Shared}
end
section
variable{X:Cx}{ac:List (Addr×Obj)}{σ:L2.St}{H:Hp}{s:Shared}{a b:Addr}{ag:List (List Key×V)}{k:List Key}{E:Value->Shared->Prop}
variable{o e:Expr}{td ty:TE}{apos cpos:Pos}
end
def Raw(h:Heap)(d:Addr)(es:Array DictEntry)(ep:Nat):Prop:=∃o,h.get? d=some o/\o.ExactDict/\o.data=.dict es ep
theorem Raw.lt{h:Heap}{d:Addr}{es:Array DictEntry}{ep:Nat}(r:Raw h d es ep):d<h.objs.size:=let ⟨_,e,_⟩:=r;mM e
theorem Raw.keep{h h':Heap}{d:Addr}{es:Array DictEntry}{ep:Nat}(r:Raw h d es ep)(k:∀o,h.get? d=some o->h'.get? d=some o):Raw h' d es ep:=let ⟨o,e,x⟩:=r;⟨o,k o e,x⟩
theorem Raw.ty{s:Shared}{d:Addr}{es:Array DictEntry}{ep:Nat}(r:Raw s.heap d es ep):s.TypeIs (.ref d) "dict":=let ⟨o,e,c,_⟩:=r;⟨o,e,c.1⟩
section
variable{prog:Program}{w:World}{A:Around}{E:Value->Shared->Prop}{s:Shared}{d it:Addr}{es:Array DictEntry}{ep i:Nat}
theorem TD{Q:Value->Shared->Prop}(lo:(d==sysModules)=false)(r:Raw s.heap d es ep)
  (q:Q (.ref s.heap.objs.size) { s with heap:=s.heap.push { cls:=.type "dict_keyiterator",data:=.fields #[.ref d,.int 0 0,.int es.size 0,.int ep 0] } }):wpAny (model prog w) A (pyIter (.ref d)) Q E s:=by
 have ty:=r.ty;obtain⟨o,ho,hc,hdat⟩:=r;refine wpAny_pyIter_slot ty PySem.F.slot_dict_iter (wpAny_call_entry PySem.F.slot_dict_iter ty PySem.F.entry_dict_iter ?_ (PySem.F.args_dict_iter_1 _));unfold Builtin.«dict.__iter__»;refine nC (show wpAny _ _ (Builtin.Dict.dictSlotNone _ _) _ _ s from ?_);unfold Builtin.Dict.dictSlotNone;refine nC (wpAny_notOrdered_dict ty (show wpAny _ _ (pure (Value.ref d)) _ _ s from nE ?_));show wpAny _ _ (Builtin.Dict.showsAll d >>= _) _ _ s;unfold Builtin.Dict.showsAll;rw[nG (by rw[lo];exact gF)];refine nC (nE (nC (wpAny_dictEntries ho hdat (nC (wpAny_dictEpoch ho hdat ?_)))));refine nC (wpAny_newObj_type (nE ⟨_,rfl,"dict_keyiterator",_,⟨_,gC _ rfl,rfl⟩,PySem.F.slot_dict_keyiterator_next.lookup, ?_⟩));simpa [rawInt]using q
theorem TC{Q:Option Value->Shared->Prop}(k:s.heap.IsKeyIter it d i es.size ep)(r:Raw s.heap d es ep)(hi:i<es.size)
  (q:∀h',h'.IsKeyIter it d (i+1) es.size ep->Heap.SameBut it s.heap h'->Q (some es[i].key) { s with heap:=h' }):wpAny (model prog w) A (pyNext (.ref it)) Q E s:=by
 have ty:=k.typeIs;obtain⟨o,ho,hc,hd⟩:=id k;obtain⟨od,hod,hcd,hdd⟩:=id r;have own:Builtin.Dict_items.ownsTuple "dict_keyiterator" = false:=by decide
 unfold pyNext;refine nC (wpAny_attempt (wpAny_callSpecial?_slot (name:=Str.ofString "__next__") ty PySem.F.slot_dict_keyiterator_next (wpAny_call_entry PySem.F.slot_dict_keyiterator_next ty PySem.F.entry_dict_keyiterator_next ?_ (PySem.F.args_dict_keyiterator_next_1 _))));refine nC (nE (nC (nC ?_)));first | refine nC (wpAny_typeNameOfWhole_keyiter ty (nE (nC (wpAny_fieldsOf ho hd ?_)))) | refine nC (wpAny_typeNameOf_keyiter ty (nE (nC (wpAny_fieldsOf ho hd ?_))))
 simp only[own,Bool.false_eq_true,if_false];show wpAny _ _ (if (Value.ref d==Value.none)=true then _ else _) _ _ s;rw[nG (show ¬((Value.ref d==Value.none)=true)from gF)];refine nC (nE (nC (wpAny_dictEntries hod hdd ?_)));rw[nG (by simp)];refine nC (nE (nC (wpAny_dictEpoch hod hdd ?_)));rw[nG (by simp)];refine nE ?_;simp only[show ¬((i:Int)<0)from by omega,if_false,gS,Array.getElem?_eq_getElem hi];refine nC ?_;first | refine nC (wpAny_typeNameOfWhole_keyiter ty (nE (nC (wpAny_isOneOf_keyiter ty ?_)))) | refine nC (wpAny_typeNameOf_keyiter ty (nE (nC (wpAny_isOneOf_keyiter ty ?_))))
 show wpAny _ _ (setField (.ref it) 1 (rawInt ((i:Int)+1)) >>= _) _ _ s;have k':(s.heap.update it (Obj.mapFields (·.setIfInBounds 1 (rawInt ((i:Int)+1))))).IsKeyIter it d (i+1) es.size ep:=
  ⟨_,Heap.get?_update_self _ ho (Obj.isFreed_of_fields (Obj.data_mapFields hd _)),(Obj.cls_mapFields ..).trans hc,by rw[Obj.data_mapFields hd];simp [rawInt]⟩
 refine nC (wpAny_setField ho hd (by simp) (nC (wpAny_holding ?_)));refine nC (wpAny_isOneOf_keyiter (s:={ s with heap:=s.heap.update it (Obj.mapFields (·.setIfInBounds 1 (rawInt ((i:Int)+1)))) }) k'.typeIs ?_);show wpAny _ _ (pure es[i].key) _ _ _;exact nE (nE ⟨_,rfl,nE (q _ k' (Heap.SameBut.update ..))⟩)
theorem XI{Q:Option Value->Shared->Prop}(hh:A.handled=none)(k:s.heap.IsKeyIter it d es.size es.size ep)(r:Raw s.heap d es ep)(q:∀h',Heap.ExtBut it s.heap h'->Q none { s with heap:=h' }):wpAny (model prog w) A (pyNext (.ref it)) Q E s:=by
 have ty:=k.typeIs;obtain⟨o,ho,hc,hd⟩:=id k;obtain⟨od,hod,hcd,hdd⟩:=id r;have own:Builtin.Dict_items.ownsTuple "dict_keyiterator" = false:=by decide
 unfold pyNext;refine nC (wpAny_attempt (wpAny_callSpecial?_slot (name:=Str.ofString "__next__") ty PySem.F.slot_dict_keyiterator_next (wpAny_call_entry PySem.F.slot_dict_keyiterator_next ty PySem.F.entry_dict_keyiterator_next ?_ (PySem.F.args_dict_keyiterator_next_1 _))));refine nC (nE (nC (nC ?_)));first | refine nC (wpAny_typeNameOfWhole_keyiter ty (nE (nC (wpAny_fieldsOf ho hd ?_)))) | refine nC (wpAny_typeNameOf_keyiter ty (nE (nC (wpAny_fieldsOf ho hd ?_))))
 simp only[own,Bool.false_eq_true,if_false];show wpAny _ _ (if (Value.ref d==Value.none)=true then _ else _) _ _ s;rw[nG (show ¬((Value.ref d==Value.none)=true)from gF)];refine nC (nE (nC (wpAny_dictEntries hod hdd ?_)));rw[nG (by simp)];refine nC (nE (nC (wpAny_dictEpoch hod hdd ?_)));rw[nG (by simp)];refine nE ?_;simp only[show ¬((es.size:Int)<0)from by omega,if_false,gS,Array.getElem?_eq_none (mW es.size)];refine nC ?_;first | refine nC (wpAny_typeNameOfWhole_keyiter ty (nE ?_)) | refine nC (wpAny_typeNameOf_keyiter ty (nE ?_))
 show wpAny _ _ (setField (.ref it) 0 .none >>= _) _ _ s;refine nC (wpAny_setField ho hd (by simp) (show wpAny _ _ (newExc (.type "StopIteration") [] >>= _) _ _ _ from nC ?_));simp only[newExc,newTuple];refine nC (wpAny_newObj_type (nC (m:=firstArgMember _ _) (wpAny_of_eq (a:=Value.none) (by first | rfl | (simp only[firstArgMember];rfl)) (wpAny_newObj_type ?_ (by size_fits)))) (by size_fits));simp only[raiseNew];refine nC (wpAny_handled ?_);rw[show A.in1.handled=none from hh];refine nC (nE (wpAny_throw ?_));refine nC (wpAny_isInstance (b:=true) (T:="StopIteration") ⟨_,gC _ rfl,rfl⟩ isSubtype_stop ?_);exact nE (q _ (((Heap.SameBut.update ..).extBut.push _).push _))
theorem PF(hh:A.handled=none)(hne:d≠it):Walks prog w A it [it,d] [it] es.size (λi v=>∃h:i<es.size,v=es[i].key) (λi h=>h.IsKeyIter it d i es.size ep/\Raw h d es ep) where
 sub:=λb hb=>by simp at hb;simp [hb]
 frame:=λ_ _ _ st hk=>⟨st.1.at λo e=>hk it (by simp) o e,st.2.keep λo e=>hk d (by simp) o e⟩
 item:=λi s Q E hi st hQ=>TC st.1 st.2 hi λh' k' hs'=>hQ _ h' s.toks ⟨hi,rfl⟩ ⟨k',st.2.keep λo e=>hs'.extBut d o hne e⟩ λb o hb e=>hs'.extBut b o (λh=>hb (by simp [h])) e
 done:=λs Q E st hQ=>XI hh st.1 st.2 λh' he'=>hQ h' s.toks λb o hb e=>he' b o (λh=>hb (by simp [h])) e
 self:=λ_ _ _ _ st hQ=>wpAny_pyIter_keyiter st.1 hQ
theorem XH(lo:(d==sysModules)=false):PySem.W.KdlSrc prog w "dict" d d es.size (λi v=>∃h:i<es.size,v=es[i].key) (λh=>Raw h d es ep) where
 type:=λ_ hm=>hm.ty
 there:=λ_ hm=>⟨hm.lt,hm.lt⟩
 keep:=λ_ _ hm hk=>hm.keep λo e=>hk d (.inl rfl) o e
 notList:=by decide
 notTuple:=by decide
 hint:=λ_ _ _ _ hm hq=>PySem.W.kdl_hint_dict hm.ty hq
 iter:=λ_ _ hh hm=>⟨_,_,(λ_ _ hq=>TD lo hm hq),PF hh (mO hm.lt),⟨⟨_,gC _ rfl,rfl,rfl⟩,hm.keep λo e=>uS _ e⟩⟩
end
end LwD
namespace LwD
open PySem PySem.W PySem.Spec PyProof.Rows
section
variable{prog:Program}{w:World}{A:Around}{E:Value->Shared->Prop}{s:Shared}
end
end LwD
namespace LwD
open PySem PySem.Spec PyProof.Rows L2 Lw
theorem YY{h:Heap}{a:Addr}{m m':Str->Option Value}(x:h.Ns a m)(y:h.Ns a m'):m=m':=by
 obtain⟨o,es,ep,ho,hd,hk,hm⟩:=x;obtain⟨o',es',ep',ho',hd',hk',hm'⟩:=y;rw[ho]at ho';cases ho';rw[hd]at hd';cases hd'
 funext z
 rw[<-hm z,<-hm' z]
theorem UO{P:Program}{w:World}{H:Hp}{h:Heap}{a:Addr}{o:HO}(x:ObjOk P w H h a o):∃q,h.get? a=some q:=by
 cases o with
 | lst xs=>obtain⟨_,_,_,_,e⟩:=x;exact⟨_,e⟩
 | tup xs=>obtain⟨_,_,_,⟨q,e,_⟩,_⟩:=x;exact⟨_,e⟩
 | dK ag=>obtain⟨_,_,_,_,o,_,_,e,_⟩:=x;exact⟨_,e⟩
 | dT ag=>obtain⟨_,_,_,_,o,_,_,e,_⟩:=x;exact⟨_,e⟩
 | set S n=>obtain⟨o,_,_,_,e,_⟩:=x;exact⟨_,e⟩
 | ins C dx fs=>obtain⟨_,_,_,e,_⟩:=x;exact⟨_,e⟩
 | own y=>exact x
 | xd fs=>obtain⟨_,⟨_,_,_,e,_⟩,_⟩:=x;exact⟨_,e⟩
 | rng lo hi=>obtain⟨_,_,_,e⟩:=x;exact⟨_,e⟩
 | frz ob u=>exact⟨_,x.1⟩
 | tbl ps=>exact⟨_,x⟩
 | met f y=>exact⟨_,x⟩
 | ext φ=>exact x.2.1
section
variable{X:Cx}{ac:List (Addr×Obj)}{σ:L2.St}{H:Hp}{s:Shared}
theorem JJ{D:Addr}{o:Obj}{ho:HO}{h3:Heap}{m:Str->Option Value}{tk:Nat}(I:Inv X ac σ H s)(F:Fr X.base X.env.locals s.heap m)(F3:Fr X.base X.env.locals h3 m)(N3:News X.base X.env.locals h3 ((D,o)::wB X.base s.heap X.env.locals))
  (lt:∀q∈wB X.base s.heap X.env.locals,q.1<D) (new:h3.get? D=some o->ObjOk X.prog X.w (upd H D ho) h3 D ho):H D=none/\Inv X ac σ (upd H D ho) { s with heap:=h3,toks:=tk } :=by
 have n1:=N3 (D,o) (gJ ..);have dn:s.heap.get? D=none:=by
  cases q:s.heap.get? D with
  | none=>rfl
  | some u=>exact absurd (lt _ (BG n1.2.1 n1.2.2 q)) (mJ _)
 have Hn:H D=none:=by
  cases q:H D with
  | none=>rfl
  | some u=>
   obtain⟨z,e⟩:=UO (I.hok D u q);rw[dn]at e;cases e
 have kp:∀b u,b≠X.env.locals->s.heap.get? b=some u->h3.get? b=some u:=λb u hb e=>by
  cases q:X.base.get? b with
  | some z=>
   have y:=I.bk b z q;rw[e]at y;cases y;exact F3.keep b _ q
  | none=>exact(N3 (b,u) (uX _ (BG hb q e))).1
 have ne:∀b u,s.heap.get? b=some u->b≠D:=λb u e z=>by rw[z,dn]at e;cases e
 have thr:∀b u,s.heap.get? b=some u->∃u',h3.get? b=some u':=λb u e=>by
  by_cases hb:b=X.env.locals
  ·obtain⟨u',_,_,e',_⟩:=F3.ns;exact⟨u',by rw[hb];exact e'⟩
  ·exact⟨u,kp b u hb e⟩
 refine⟨Hn,I.step (g':=s.gens) (d':=s.drawn) (ch:=[]) (λ_ z=>nomatch z) (λb u hb _ _ e _=>kp b u hb e) (λb u hb _ _ e _=>⟨u.slots,kp b u hb e⟩) (λb u _ e n=>?_) (λb u _ e=>thr b u e) (λb xs e=>?_) (λb u v e=>?_) (λb ps e=>?_) (λm' hm=>?_) (λb u e=>?_) I.bare⟩
 ·rw[jL (ne b u e)];exact n
 ·rw[jL (jU e Hn)];exact e
 ·rw[jL (jU e Hn)];exact e
 ·exact⟨#[],by rw[jL (jU e Hn),e];simp⟩
 ·rw[YY hm F.ns];exact F3.ns
 ·by_cases hb:b=D
  ·subst hb;rw[jI]at e;cases e;exact new n1.1
  ·rw[jL hb]at e;refine(I.hok b u e).stay (λc v hc q=>kp c v (λz=>?_) q) (λc q=>by rw[jL (jU q Hn)];exact q) λc xs q=>by rw[jL (jU q Hn)];exact q
   rcases hc with y | y
   ·rw[<-y,z,I.free]at e;cases e
   ·rw[z,I.free]at y;cases y
end
section
variable{prog:Program}{w:World}{A:Around}{E:Value->Shared->Prop}{s:Shared}
end
abbrev ik(ns:List Int):List Key:=ns.map Sum.inl
theorem ik_map(ns:List Int):(ik ns).map kV=ns.map V.int:=by
 unfold ik;rw[List.map_map]
 rfl
section
variable{X:Cx}
end
end LwD
namespace L2
open PySem PySem.Spec PyProof.Rows
section
variable{prog:Program}{w:World}{A:Around}{E:Value->Shared->Prop}{s:Shared}
theorem nextT{it t:Addr}{k:Nat}{its:Array Value}{v:Value}{Q:Value->Shared->Prop}(st:s.heap.IsTupleIter it t k)(tu:s.heap.IsTuple t its)(hv:its[k]? = some v)
  (q:∀g,g.IsTupleIter it t (k+1)->Heap.SameBut it s.heap g->Q v { s with heap:=g }):wpAny (model prog w) A (Builtin.SmallTypes.nextOf (.ref it)) Q E s:=by
 obtain⟨oi,gi,ci,di⟩:=id st;obtain⟨ot,gt,_,nt,dt⟩:=tu;unfold Builtin.SmallTypes.nextOf;refine nC (wpAny_callSpecial?_slot (name:=Str.ofString "__next__") st.typeIs F.slot_tuple_iterator_next (wpAny_call_entry F.slot_tuple_iterator_next st.typeIs F.entry_tuple_iterator_next ?_ (F.args_tuple_iterator_next_1 _)));show wpAny _ _ (field (.ref it) 0 >>= _) _ _ _;refine nC (wpAny_field gi di (x:=.ref t) rfl ?_);show wpAny _ _ (if (Value.ref t==Value.none)=true then _ else _) _ _ _;rw[nG (show ¬(Value.ref t==Value.none)=true from gF)];show wpAny _ _ (field (.ref it) 1 >>= _) _ _ _;refine nC (wpAny_field gi di (x:=.int k 0) rfl ?_);show wpAny _ _ (seqItems? (.ref t) >>= _) _ _ _;refine nC (wpAny_seqItems gt dt ?_);simp only[gS,hv];refine nC (wpAny_setField gi di (by simp) (nE ⟨v,rfl,nE (q _ ⟨_,Heap.get?_update_self _ gi (Obj.isFreed_of_fields (Obj.data_mapFields di _)),(Obj.cls_mapFields ..).trans ci,by rw[Obj.data_mapFields di];simp [rawInt]⟩ (Heap.SameBut.update ..))⟩))
theorem QC{it t:Addr}{k:Nat}{its:Array Value}{Q:Value->Shared->Prop}(hh:A.handled=none)(st:s.heap.IsTupleIter it t k)(tu:s.heap.IsTuple t its)(hv:its[k]? = none)
  (q:∀g e,Heap.ExtBut it s.heap g->(∃o,g.get? e=some o/\o.cls=.type "StopIteration")->E (.ref e) { s with heap:=g }):wpAny (model prog w) A (Builtin.SmallTypes.nextOf (.ref it)) Q E s:=by
 obtain⟨oi,gi,ci,di⟩:=id st;obtain⟨ot,gt,_,nt,dt⟩:=tu;unfold Builtin.SmallTypes.nextOf;refine nC (wpAny_callSpecial?_slot (name:=Str.ofString "__next__") st.typeIs F.slot_tuple_iterator_next (wpAny_call_entry F.slot_tuple_iterator_next st.typeIs F.entry_tuple_iterator_next ?_ (F.args_tuple_iterator_next_1 _)));show wpAny _ _ (field (.ref it) 0 >>= _) _ _ _;refine nC (wpAny_field gi di (x:=.ref t) rfl ?_);show wpAny _ _ (if (Value.ref t==Value.none)=true then _ else _) _ _ _;rw[nG (show ¬(Value.ref t==Value.none)=true from gF)];show wpAny _ _ (field (.ref it) 1 >>= _) _ _ _;refine nC (wpAny_field gi di (x:=.int k 0) rfl ?_);show wpAny _ _ (seqItems? (.ref t) >>= _) _ _ _;refine nC (wpAny_seqItems gt dt ?_);simp only[gS,hv];refine nC (wpAny_rule (nC (wpAny_setField gi di (by simp) ?_)));show wpAny _ _ (newExc (.type "StopIteration") [] >>= _) _ _ _;refine nC ?_;simp only[newExc,newTuple];refine nC (wpAny_newObj_type ?_ (by size_fits));refine nC (m:=firstArgMember _ _) (wpAny_of_eq (a:=Value.none) (by first | rfl | (simp only[firstArgMember];rfl)) ?_);refine wpAny_newObj_type ?_ (by size_fits);simp only[raiseNew];refine nC (wpAny_handled ?_);first | rw[show A.in1.handled=none from hh] | rw[hh]
 exact nC (nE (wpAny_throw (q _ _ (((Heap.SameBut.update ..).extBut.push _).push _) ⟨_,gC _ rfl,rfl⟩)))
theorem IsTupleIter.as{h h':Heap}{a t:Addr}{k:Nat}(x:h.IsTupleIter a t k)(f:∀o,h.get? a=some o->h'.get? a=some o):h'.IsTupleIter a t k:=let ⟨o,ho,r⟩:=x;⟨o,f o ho,r⟩
structure Src(prog:Program)(w:World)(i:Addr) where
 at_:Nat->Heap->Prop
 has:List V->Heap->Prop
 dep:List Addr
 next:∀{xs:List V} {A:Around} {E:Value->Shared->Prop} {s:Shared} {k:Nat} {x:V} {Q:Value->Shared->Prop},at_ k s.heap->has xs s.heap->xs[k]? = some x->(∀g (t:Nat) u,RelV x u->at_ (k+1) g->Heap.SameBut i s.heap g->Q u { s with heap:=g,toks:=t })->wpAny (model prog w) A (Builtin.SmallTypes.nextOf (.ref i)) Q E s
 stop:∀{xs:List V} {A:Around} {E:Value->Shared->Prop} {s:Shared} {k:Nat} {Q:Value->Shared->Prop},A.handled=none->at_ k s.heap->has xs s.heap->xs[k]? = none->(∀g e,Heap.ExtBut i s.heap g->(∃o,g.get? e=some o/\o.cls=.type "StopIteration")->E (.ref e) { s with heap:=g })->wpAny (model prog w) A (Builtin.SmallTypes.nextOf (.ref i)) Q E s
 atk:∀{k:Nat} {h h':Heap},at_ k h->(∀o,h.get? i=some o->h'.get? i=some o)->at_ k h'
 hask:∀{xs:List V} {h h':Heap},has xs h->(∀c∈dep,∀o,h.get? c=some o->h'.get? c=some o)->has xs h'
 obj:∀{k:Nat} {h:Heap},at_ k h->∃o,h.get? i=some o/\∀v,o.data≠.cell v
structure Five(z TI TO i1 i2:Addr):Prop where
 nd:[z,TI,TO,i1,i2].Nodup
structure ZG(z TI TO:Addr){i1 i2:Addr}(S1:Src prog w i1)(S2:Src prog w i2)(k:Nat)(h:Heap):Prop where
 zz:IsZip h z TI TO .none
 ti:IsPair h TI (.ref i1) (.ref i2)
 to:∃a b,IsPair h TO a b
 one:S1.at_ k h
 two:S2.at_ k h
structure ZA(z TI TO i1 i2:Addr)(d:List Addr):Prop where
 TIz:TI≠z
 TOz:TO≠z
 i1z:i1≠z
 i2z:i2≠z
 TITO:TI≠TO
 TIi1:TI≠i1
 TIi2:TI≠i2
 TOi1:TO≠i1
 TOi2:TO≠i2
 i12:i1≠i2
 dz:∀l∈d,l≠z/\l≠TO/\l≠i1
theorem Five.za{z TI TO i1 i2:Addr}{d:List Addr}(F:Five z TI TO i1 i2)(h:∀b∈[z,TI,TO,i1,i2],b∉d):ZA z TI TO i1 i2 d:=by
 have nd:=F.nd;simp only[List.nodup_cons,mI,not_or,gU]at nd;obtain⟨⟨a1,a2,a3,a4,_⟩,⟨b1,b2,b3,_⟩,⟨c1,c2,_⟩,⟨d1,_⟩,_⟩:=nd;exact⟨Ne.symm a1,Ne.symm a2,Ne.symm a3,Ne.symm a4,b1,b2,b3,c1,c2,d1,λl hl=>⟨λe=>h z (by simp) (e▸hl),λe=>h TO (by simp) (e▸hl),λe=>h i1 (by simp) (e▸hl)⟩⟩
variable{z TI TO i1 i2:Addr}{S1:Src prog w i1}{S2:Src prog w i2}{k:Nat}{xs ys:List V}
theorem OT{x y:V}{Q:Option Value->Shared->Prop}(D:ZA z TI TO i1 i2 (S1.dep++S2.dep))(Z:ZG z TI TO S1 S2 k s.heap)(t1:S1.has xs s.heap)(t2:S2.has ys s.heap)(hx:xs[k]? = some x)(hy:ys[k]? = some y)
  (q:∀g (t:Nat) u v,RelV x u->RelV y v->IsZip g z TI TO (rawInt s.heap.objs.size)->IsPair g TO u v->S1.at_ (k+1) g->S2.at_ (k+1) g->IsPair g s.heap.objs.size u v->
   (∀c o,c∉[z,TO,i1,i2]->s.heap.get? c=some o->g.get? c=some o)->Q (some (.ref s.heap.objs.size)) { s with heap:=g,toks:=t }):wpAny (model prog w) A (pyNext (.ref z)) Q E s:=by
 obtain⟨hz,hti,⟨a,b,hto⟩,s1,s2⟩:=Z;have T:s.TypeIs (.ref z) "zip":=⟨_,hz,rfl⟩;have D1:∀c∈S1.dep,c≠z/\c≠TO/\c≠i1:=λc hc=>D.dz c (List.mem_append_left _ hc);have D2:∀c∈S2.dep,c≠z/\c≠TO/\c≠i1:=λc hc=>D.dz c (uT _ hc);unfold pyNext;refine nC (wpAny_attempt (wpAny_callSpecial?_slot (name:=Str.ofString "__next__") T F.slot_zip_next (wpAny_call_entry F.slot_zip_next T F.entry_zip_next ?_ (F.args_zip_next_1 _))));show wpAny _ _ (field (.ref z) 2 >>= _) _ _ _;refine nC (wpAny_field hz rfl (x:=.bool false) rfl ?_);show wpAny _ _ (field (.ref z) 3 >>= _) _ _ _;refine nC (wpAny_field hz rfl (x:=.ref TI) rfl (nC (wpAny_seqItems hti rfl ?_)));show wpAny _ _ (Builtin.SmallTypes.ownedTupleIsFree (.ref z) >>= _) _ _ _;refine nC ?_;unfold Builtin.SmallTypes.ownedTupleIsFree;refine nC (wpAny_field hz rfl (x:=.none) rfl (nE ?_));simp only[if_true];refine nC (wpAny_rule (nC (wpAny_field hz rfl (x:=.ref TO) rfl (nC (wpAny_setField_rec hz (by simp) λg1 z1 b1=>?_)))))
 replace z1:IsZip g1 z TI TO .ellipsis:=z1
 refine nC ?_;simp only[List.zipIdx_cons,List.zipIdx_nil,List.forIn_cons,List.forIn_nil];refine nC (nC (wpAny_onRaise ?_));show wpAny _ _ (Builtin.SmallTypes.nextOf (.ref i1) >>= _) _ _ _;refine nC (S1.next (S1.atk s1 λo e=>b1.extBut _ _ D.i1z e) (S1.hask t1 λc hc o e=>b1.extBut _ _ (D1 c hc).1 e) hx λg2 tk2 u ru n2 b2=>nE ?_);have o2:IsPair g2 TO a b:=b2.extBut _ _ D.TOi1 (b1.extBut _ _ D.TOz hto);refine nC (wpAny_seqItems o2 rfl (nC (wpAny_updateSeq_pair o2 λg3 o3 b3=>?_)))
 replace o3:IsPair g3 TO u b:=o3
 refine nC (wpAny_letGo (nE (nC (nC (wpAny_onRaise ?_)))));show wpAny _ _ (Builtin.SmallTypes.nextOf (.ref i2) >>= _) _ _ _;refine nC (S2.next (S2.atk s2 λo e=>b3.extBut _ _ D.TOi2.symm (b2.extBut _ _ D.i12.symm (b1.extBut _ _ D.i2z e))) (S2.hask t2 λc hc o e=>b3.extBut _ _ (D2 c hc).2.1 (b2.extBut _ _ (D2 c hc).2.2 (b1.extBut _ _ (D2 c hc).1 e))) hy λg4 tk4 v rv n4 b4=>nE ?_);have o4:IsPair g4 TO u b:=b4.extBut _ _ D.TOi2 o3;refine nC (wpAny_seqItems o4 rfl (nC (wpAny_updateSeq_pair o4 λg5 o5 b5=>?_)))
 replace o5:IsPair g5 TO u v:=o5
 refine nC (wpAny_letGo (nE (nE (nC (wpAny_seqItems o5 rfl (nC (wpAny_newTuple ?_)))))));have sz:g5.objs.size=s.heap.objs.size:=by rw[b5.1,b4.1,b3.1,b2.1,b1.1]
 have z5:IsZip g5 z TI TO .ellipsis:=b5.extBut _ _ D.TOz.symm (b4.extBut _ _ D.i2z.symm (b3.extBut _ _ D.TOz.symm (b2.extBut _ _ D.i1z.symm z1)));have k5:∀c o,c∉[z,TO,i1,i2]->s.heap.get? c=some o->g5.get? c=some o:=λc o hc e=>by
  simp only[mI,not_or]at hc;exact b5.extBut _ _ hc.2.1 (b4.extBut _ _ hc.2.2.2.1 (b3.extBut _ _ hc.2.1 (b2.extBut _ _ hc.2.2.1 (b1.extBut _ _ hc.1 e))))
 have zl:z<g5.objs.size:=mM z5;show wpAny _ _ (Builtin.SmallTypes.ownedTupleHandOut (.ref z) (.ref g5.objs.size) >>= _) _ _ _;refine nC ?_;unfold Builtin.SmallTypes.ownedTupleHandOut;have z6:IsZip (g5.push { cls:=.type "tuple",data:=.seq #[u,v] }) z TI TO .ellipsis:=uS _ z5;refine nC (wpAny_setField_rec z6 (by simp) λg7 z7 b7=>?_)
 replace z7:IsZip g7 z TI TO (rawInt g5.objs.size):=z7
 refine wpAny_setField_rec z7 (by simp) λg8 z8 b8=>?_
 replace z8:IsZip g8 z TI TO (rawInt g5.objs.size):=z8
 have up:∀c o,c≠z->g5.get? c=some o->g8.get? c=some o:=λc o cz e=>b8.extBut _ _ cz (b7.extBut _ _ cz (uS _ e));have nu:IsPair g8 g5.objs.size u v:=b8.extBut _ _ (Nat.ne_of_gt zl) (b7.extBut _ _ (Nat.ne_of_gt zl) (gC _ rfl));rw[sz]at z8 nu;refine nE ⟨_,rfl,nE ?_⟩;show Q (some (.ref g5.objs.size)) _;rw[sz];exact q g8 tk4 u v ru rv z8 (up _ _ D.TOz o5) (S1.atk n2 λo e=>up _ o D.i1z (b5.extBut _ _ D.TOi1.symm (b4.extBut _ _ D.i12 (b3.extBut _ _ D.TOi1.symm e)))) (S2.atk n4 λo e=>up _ o D.i2z (b5.extBut _ _ D.TOi2.symm e)) nu λc o hc e=>up c o (λh=>hc (by simp [h])) (k5 c o hc e)
theorem RF{Q:Option Value->Shared->Prop}(hh:A.handled=none)(D:ZA z TI TO i1 i2 (S1.dep++S2.dep))(Z:ZG z TI TO S1 S2 k s.heap)(t1:S1.has xs s.heap)(t2:S2.has ys s.heap)(he:xs[k]? = none∨ys[k]? = none)
  (q:∀g (tk:Nat),(∀c o,c∉[z,TO,i1,i2]->s.heap.get? c=some o->g.get? c=some o)->Q none { s with heap:=g,toks:=tk }):wpAny (model prog w) A (pyNext (.ref z)) Q E s:=by
 obtain⟨hz,hti,⟨a,b,hto⟩,s1,s2⟩:=Z;have T:s.TypeIs (.ref z) "zip":=⟨_,hz,rfl⟩;have D1:∀c∈S1.dep,c≠z/\c≠TO/\c≠i1:=λc hc=>D.dz c (List.mem_append_left _ hc);have D2:∀c∈S2.dep,c≠z/\c≠TO/\c≠i1:=λc hc=>D.dz c (uT _ hc);unfold pyNext;refine nC (wpAny_attempt (wpAny_callSpecial?_slot (name:=Str.ofString "__next__") T F.slot_zip_next (wpAny_call_entry F.slot_zip_next T F.entry_zip_next ?_ (F.args_zip_next_1 _))));have fin:∀g (tk:Nat) (e:Addr),(∀c o,c∉[z,TO,i1,i2]->s.heap.get? c=some o->g.get? c=some o)->(∃o,g.get? e=some o/\o.cls=.type "StopIteration")->
   wpAny (model prog w) A (do if (<-isInstance (.ref e) (.type "StopIteration"))then pure none else throw (.ref e)) Q E { s with heap:=g,toks:=tk } :=λg tk e hk ⟨o,ho,hc⟩=>
  nC (wpAny_isInstance (T:="StopIteration") (b:=true) ⟨o,ho,hc⟩ isSubtype_stop (nE (q _ tk hk)))
 show wpAny _ _ (field (.ref z) 2 >>= _) _ _ _;refine nC (wpAny_field hz rfl (x:=.bool false) rfl ?_);show wpAny _ _ (field (.ref z) 3 >>= _) _ _ _;refine nC (wpAny_field hz rfl (x:=.ref TI) rfl (nC (wpAny_seqItems hti rfl ?_)));show wpAny _ _ (Builtin.SmallTypes.ownedTupleIsFree (.ref z) >>= _) _ _ _;refine nC ?_;unfold Builtin.SmallTypes.ownedTupleIsFree;refine nC (wpAny_field hz rfl (x:=.none) rfl (nE ?_));simp only[if_true];refine nC (wpAny_rule (nC (wpAny_field hz rfl (x:=.ref TO) rfl (nC (wpAny_setField_rec hz (by simp) λg1 z1 b1=>?_)))))
 replace z1:IsZip g1 z TI TO .ellipsis:=z1
 refine nC ?_;simp only[List.zipIdx_cons,List.zipIdx_nil,List.forIn_cons,List.forIn_nil];refine nC (nC (wpAny_onRaise ?_));show wpAny _ _ (Builtin.SmallTypes.nextOf (.ref i1) >>= _) _ _ _;have h1:=S1.atk s1 λo e=>b1.extBut _ _ D.i1z e;have h2:=S1.hask t1 λc hc o e=>b1.extBut _ _ (D1 c hc).1 e;cases hx:xs[k]? with
 | none=>
  refine nC (S1.stop hh h1 h2 hx λg2 e b2 ⟨oe,he,ce⟩=>?_);have z2:IsZip g2 z TI TO .ellipsis:=b2 _ _ D.i1z.symm z1;have ez:e≠z:=λh=>by subst h;rw[z2]at he;cases he;simp at ce
  refine wpAny_setField_rec z2 (by simp) λg3 _ b3=>fin g3 _ e (λc o hc h=>?_) ⟨oe,b3.extBut _ _ ez he,ce⟩;simp only[mI,not_or]at hc;exact b3.extBut _ _ hc.1 (b2 _ _ hc.2.2.1 (b1.extBut _ _ hc.1 h))
 | some x=>
  have hy:ys[k]? = none:=he.resolve_left (by rw[hx];simp);refine nC (S1.next h1 h2 hx λg2 tk2 u ru n2 b2=>nE ?_);have o2:IsPair g2 TO a b:=b2.extBut _ _ D.TOi1 (b1.extBut _ _ D.TOz hto);refine nC (wpAny_seqItems o2 rfl (nC (wpAny_updateSeq_pair o2 λg3 o3 b3=>?_)));refine nC (wpAny_letGo (nE (nC (nC (wpAny_onRaise ?_)))));show wpAny _ _ (Builtin.SmallTypes.nextOf (.ref i2) >>= _) _ _ _;refine nC (S2.stop hh (S2.atk s2 λo e=>b3.extBut _ _ D.TOi2.symm (b2.extBut _ _ D.i12.symm (b1.extBut _ _ D.i2z e))) (S2.hask t2 λc hc o e=>b3.extBut _ _ (D2 c hc).2.1 (b2.extBut _ _ (D2 c hc).2.2 (b1.extBut _ _ (D2 c hc).1 e))) hy λg4 e b4 ⟨oe,he,ce⟩=>?_);have z4:IsZip g4 z TI TO .ellipsis:=b4 _ _ D.i2z.symm (b3.extBut _ _ D.TOz.symm (b2.extBut _ _ D.i1z.symm z1));have ez:e≠z:=λh=>by subst h;rw[z4]at he;cases he;simp at ce
  refine wpAny_setField_rec z4 (by simp) λg5 _ b5=>fin g5 _ e (λc o hc h=>?_) ⟨oe,b5.extBut _ _ ez he,ce⟩;simp only[mI,not_or]at hc;exact b5.extBut _ _ hc.1 (b4 _ _ hc.2.2.2.1 (b3.extBut _ _ hc.2.1 (b2.extBut _ _ hc.2.2.1 (b1.extBut _ _ hc.1 h))))
def Itr0(prog:Program)(w:World)(v:Value)(o:Obj)(h:Heap):Prop:=∀{A:Around} {E:Value->Shared->Prop} {s:Shared} {Q:Value->Shared->Prop},s.heap=h->Q (.ref h.objs.size) { s with heap:=h.push o }->wpAny (model prog w) A (pyIter v) Q E s
theorem QX{v1 v2:Value}{o1 o2:Obj}{Q:Value->Shared->Prop}(p1:Itr0 prog w v1 o1 s.heap)(p2:Itr0 prog w v2 o2 (s.heap.push o1))(f1:o1.isFreed=false)(f2:o2.isFreed=false)
  (q:∀g,(∀c o,s.heap.get? c=some o->g.get? c=some o)->IsZip g (s.heap.objs.size+4) (s.heap.objs.size+2) (s.heap.objs.size+3) .none->IsPair g (s.heap.objs.size+2) (.ref s.heap.objs.size) (.ref (s.heap.objs.size+1))->(∃a b,IsPair g (s.heap.objs.size+3) a b)->g.get? s.heap.objs.size=some o1->g.get? (s.heap.objs.size+1)=some o2->Q (.ref (s.heap.objs.size+4)) { s with heap:=g }) :
  wpAny (model prog w) A (call (.type "zip") [v1,v2]) Q E s:=by
 refine callType_newIn (S:=λ_ R s'=>s'=s/\∀g,(∀c o,s.heap.get? c=some o->g.get? c=some o)->IsZip g (s.heap.objs.size+4) (s.heap.objs.size+2) (s.heap.objs.size+3) .none->IsPair g (s.heap.objs.size+2) (.ref s.heap.objs.size) (.ref (s.heap.objs.size+1))->(∃a b,IsPair g (s.heap.objs.size+3) a b)->g.get? s.heap.objs.size=some o1->g.get? (s.heap.objs.size+1)=some o2->R (.ok (.ret (.ref (s.heap.objs.size+4)))) { s with heap:=g }) F.called_zip (by decide) (F.typeCall_zip_2 _ _) (F.newCall_zip_2 _ _) (λobj=>F.args_object_init_3 obj _ _) F.entry_zip_new (λA R s' h=>?_) ⟨rfl,λg k zz ti to e1 e2=>⟨⟨_,zz,rfl⟩,q g k zz ti to e1 e2⟩⟩;obtain⟨rfl,h⟩:=h;refine nF (Q:=λfin s'=>∃v,fin=.done (.ret v)/\R (.ok (.ret v)) s') ?_ (λfin s' h'=>by obtain⟨v,rfl,hv⟩:=h';exact hv) λ_ _ x=>x;obtain⟨hp,gs,d,tk,os⟩:=s';have hsub:=sub_zip;have P1:∀{A:Around} {E:Value->Shared->Prop} {Q:Value->Shared->Prop},Q (.ref hp.objs.size) ⟨hp.push o1,gs,d,tk,os⟩->wpAny (model prog w) A (pyIter v1) Q E ⟨hp,gs,d,tk,os⟩:=λq=>p1 rfl q;have P2:∀{A:Around} {E:Value->Shared->Prop} {Q:Value->Shared->Prop},Q (.ref (hp.push o1).objs.size) ⟨(hp.push o1).push o2,gs,d,tk,os⟩->wpAny (model prog w) A (pyIter v2) Q E ⟨hp.push o1,gs,d,tk,os⟩:=λq=>p2 rfl q
 wp_walk using P1,P2
 have e1:=λo=>mG hp (o:=o);refine⟨_,rfl, ?_⟩;simp only[mG]at h ⊢;refine h _ (λc o e=>uS _ (uS _ (uS _ (uS _ (uS _ e))))) ?_ ?_ ?_ ?_ ?_
 ·have e:=gC ((((hp.push o1).push o2).push { cls:=.type "tuple",data:=.seq #[.ref hp.objs.size,.ref (hp.objs.size+1)] }).push { cls:=.type "tuple",data:=.seq #[.none,.none] }) (o:={ cls:=.type "zip",data:=.fields #[.none,.bool false,.bool false,.ref (hp.objs.size+2),.ref (hp.objs.size+3)] }) rfl;simp only[mG]at e;exact e
 ·have e:=gC ((hp.push o1).push o2) (o:={ cls:=.type "tuple",data:=.seq #[.ref hp.objs.size,.ref (hp.objs.size+1)] }) rfl;simp only[mG]at e;exact uS _ (uS _ e)
 ·have e:=gC (((hp.push o1).push o2).push { cls:=.type "tuple",data:=.seq #[.ref hp.objs.size,.ref (hp.objs.size+1)] }) (o:={ cls:=.type "tuple",data:=.seq #[.none,.none] }) rfl;simp only[mG]at e;exact⟨_,_,uS _ e⟩
 ·exact uS _ (uS _ (uS _ (uS _ (gC hp f1))))
 ·have e:=gC (hp.push o1) (o:=o2) f2;simp only[mG]at e;exact uS _ (uS _ (uS _ e))
end
section
variable{X:Cx}{ac:List (Addr×Obj)}{σ:St}{H:Hp}{s:Shared}{h':Heap}
theorem Inv.turnedL{t':Nat}{fp:List Addr}(I:Inv X ac σ H s)(hf:∀b∈fp,FpOk X ac H b)(k:∀b o,b∉fp->s.heap.get? b=some o->h'.get? b=some o):Inv X ac σ H { s with heap:=h',toks:=t' } :=by
 have nit:∀b u,H b=some u->b∉fp:=λb u e z=>by rw[(hf b z).1]at e;cases e
 refine I.step (g':=s.gens) (d':=s.drawn) (ch:=fp) (λb hb=>⟨(hf b hb).2.2.2.1,(hf b hb).2.1,(hf b hb).2.2.2.2.1,(hf b hb).2.2.2.2.2⟩) (λb o _ _ hc e _=>k b o hc e) (λb o _ _ hc e _=>⟨o.slots,k b o hc e⟩) (λ_ _ _ _ n=>n)
  (λb o hc e=>⟨o,k b o hc e⟩) (λ_ _ e=>e) (λ_ _ _ e=>e) (λb ps e=>⟨#[],by rw[e];simp⟩) (λm ⟨o,es,ep,ho,r⟩=>⟨o,es,ep,k _ o (λz=>(hf _ z).2.1 rfl) ho,r⟩) (λb u e=>?_) I.bare
 refine(I.hok b u e).stay (λc v hc q=>k c v ?_ q) (λ_ q=>q) λ_ _ q=>q;rcases hc with z | z
 ·rw[z];exact nit b u e
 ·exact nit c _ z
theorem FpOk.apart{a b:Addr}{xs:List V}(I:Inv X ac σ H s)(f:FpOk X ac H b)(h:SqT X.K H a xs):a≠b:=by
 rintro rfl;rcases h with(h | ⟨o,h⟩) | ⟨o,its,n,hk,hc,hs,hz,r⟩
 ·rw[f.1]at h;cases h
 ·rw[f.1]at h;cases h
 ·have hb:X.base.get? a=some o:=I.ok.mod.kin a o hk;rcases f.2.2.2.1 with z | z
  ·exact I.ok.noex a o hb z
  ·exact absurd (gG (mM hb) (mN I.ok.bsz z)) (mJ _)
end
structure SrcJ(P:Program)(w:World)(K:nI){i1 i2:Addr}(S1:Src P w i1)(S2:Src P w i2)(J:It):Prop where
 go:∀(X:Cx),X.prog=P->X.w=w->X.K=K->∀{i:Nat} {ac:List (Addr×Obj)} {s:Shared} {σ:St} {H:Hp},Inv X ac σ H s->J.go i H->∃xs ys x y,S1.has xs s.heap/\S2.has ys s.heap/\xs[i]? = some x/\ys[i]? = some y/\(∀b,FpOk X ac H b->b∉S1.dep++S2.dep)/\∀p,H p=none->J.yld i H (.ref p) (upd H p (.tup [x,y]))
 stop:∀(X:Cx),X.prog=P->X.w=w->X.K=K->∀{i:Nat} {ac:List (Addr×Obj)} {s:Shared} {σ:St} {H:Hp},Inv X ac σ H s->J.stop i H->∃xs ys,S1.has xs s.heap/\S2.has ys s.heap/\(xs[i]? = none∨ys[i]? = none)/\∀b,FpOk X ac H b->b∉S1.dep++S2.dep
theorem ZG.objs{P:Program}{w:World}{z TI TO i1 i2:Addr}{S1:Src P w i1}{S2:Src P w i2}{i:Nat}{h:Heap}(Z:ZG z TI TO S1 S2 i h):∀b∈[z,TI,TO,i1,i2],∃o,h.get? b=some o/\∀v,o.data≠.cell v:=λb hb=>by
 simp only[mI,gU,or_false]at hb;obtain⟨hz,hti,⟨a,c,hto⟩,s1,s2⟩:=Z;rcases hb with rfl | rfl | rfl | rfl | rfl
 ·exact⟨_,hz,λv q=>by cases (show Data.fields _=Data.cell v from q)⟩
 ·exact⟨_,hti,λv q=>by cases (show Data.seq _ _=Data.cell v from q)⟩
 ·exact⟨_,hto,λv q=>by cases (show Data.seq _ _=Data.cell v from q)⟩
 ·exact S1.obj s1
 ·exact S2.obj s2
theorem OV{P:Program}{w:World}{K:nI}{es:List Expr}{x1}{pos:Pos}{z TI TO i1 i2:Addr}{S1:Src P w i1}{S2:Src P w i2}{J:It}(SJ:SrcJ P w K S1 S2 J)(F:Five z TI TO i1 i2):Turn P w K (.Tuple es x1 pos) J [z,TI,TO,i1,i2] z (λi h=>ZG z TI TO S1 S2 i h) where
 mem:=by simp
 obj:=λi h Z=>Z.objs
 keep:=λi h h' Z k=>by
  obtain⟨hz,hti,⟨a,c,hto⟩,s1,s2⟩:=Z;exact⟨k z (by simp) _ hz,k TI (by simp) _ hti,⟨a,c,k TO (by simp) _ hto⟩,S1.atk s1 λo e=>k i1 (by simp) o e,S2.atk s2 λo e=>k i2 (by simp) o e⟩
 item:=by
  intro X hP hw hK hc i ac s σ H E I hf Z hg;obtain⟨xs,ys,x,y,t1,t2,hx,hy,dp,yl⟩:=SJ.go X hP hw hK I hg;subst hP hw hK;have D:=F.za (λb hb=>dp b (hf b hb));refine OT D Z t1 t2 hx hy λg t u1 u2 ru1 ru2 z1 to1 n1 n2 nu kk=>⟨_,rfl, ?_⟩;refine wpAny_letOwnedTupleGo_zip z1 λg2 z2 sb=>?_;have fr:H s.heap.objs.size=none:=I.hok.fresh uJ ;have fp:∀b∈[z,TI,TO,i1,i2],FpOk X ac (upd H s.heap.objs.size (.tup [x,y])) b:=λb hb=>by
   obtain⟨o,ho,_⟩:=Z.objs b hb;exact⟨by rw[jL (mO (mM ho))];exact(hf b hb).1,(hf b hb).2⟩
  have I1:Inv X ac σ (upd H s.heap.objs.size (.tup [x,y])) { s with heap:=s.heap.push { cls:=.type "tuple",data:=.seq #[u1,u2] },toks:=t } :=I.laid (t':=t) (λb u e=>uS _ e) uJ ⟨by simp [sizeLine],[u1,u2],.cons ru1 (.cons ru2 .nil),⟨_,gC _ rfl,rfl,_,rfl⟩,.of (gC _ rfl) rfl⟩;have up:∀c o,c≠z->g.get? c=some o->g2.get? c=some o:=λc o cz e=>sb.extBut _ _ cz e;have zs:z≠s.heap.objs.size:=mO (mM Z.zz);have I2:Inv X ac σ (upd H s.heap.objs.size (.tup [x,y])) { s with heap:=g2,toks:=t } :=by
   refine Inv.turnedL (s:={ s with heap:=s.heap.push { cls:=.type "tuple",data:=.seq #[u1,u2] },toks:=t }) (h':=g2) (t':=t) I1 fp λb o hb e=>?_;have bz:b≠z:=λh=>hb (by simp [h]);rcases Heap.get?_push_cases e with⟨e1,e2⟩ | e1
   ·rw[e1,e2];exact up _ _ (Ne.symm zs) nu
   ·exact up _ _ bz (kk b o (λh=>hb (by simp only[mI,gU,or_false]at h ⊢;rcases h with h | h | h | h<;>simp [h])) e1)
  exact⟨.ref s.heap.objs.size,_,I2,rfl,yl _ fr,⟨z2,up _ _ D.TIz (kk _ _ (by simp [D.TIz,D.TITO,D.TIi1,D.TIi2]) Z.ti),⟨_,_,up _ _ D.TOz to1⟩,S1.atk n1 λo e=>up _ o D.i1z e,S2.atk n2 λo e=>up _ o D.i2z e⟩,λb hb=>(fp b hb).1⟩
 done:=by
  intro X hP hw hK hc i ac s σ H E I hf Z hg;obtain⟨xs,ys,t1,t2,he,dp⟩:=SJ.stop X hP hw hK I hg;subst hP hw hK;exact RF (I.ok.hd hc) (F.za (λb hb=>dp b (hf b hb))) Z t1 t2 he λg tk kk=>⟨rfl,Inv.turnedL (t':=tk) I hf λb o hb e=>kk b o (λh=>hb (by simp only[mI,gU,or_false]at h ⊢;rcases h with h | h | h | h<;>simp [h])) e⟩
 self:=λ_ _ _ _ _ Z h=>wpAny_pyIter_zip Z.zz h
section
variable{X:Cx}
theorem XS{es:List Expr}{x1}{tp:Pos}{J:It}{v1 v2:Value}{o1 o2:Obj}{ac:List (Addr×Obj)}{s:Shared}{σ:St}{H:Hp}{R:It->Hp->Prop}{A:Around}{E:Value->Shared->Prop}(I:Inv X ac σ H s)(p1:Itr0 X.prog X.w v1 o1 s.heap)(p2:Itr0 X.prog X.w v2 o2 (s.heap.push o1))(f1:o1.isFreed=false)(f2:o2.isFreed=false)
  (S1:Src X.prog X.w s.heap.objs.size) (S2:Src X.prog X.w (s.heap.objs.size+1)) (a1:∀g,g.get? s.heap.objs.size=some o1->S1.at_ 0 g) (a2:∀g,g.get? (s.heap.objs.size+1)=some o2->S2.at_ 0 g) (SJ:SrcJ X.prog X.w X.K S1 S2 J) (q:R J H):wpAny (model X.prog X.w) A (call (.type "zip") [v1,v2]) (λv s2=>wpAny (model X.prog X.w) A (pyIter v) (PIE X ac σ (.Tuple es x1 tp) R) E s2) E s:=by
 refine QX p1 p2 f1 f2 λg k zz ti to e1 e2=>wpAny_pyIter_zip zz ?_;refine⟨_,_,_,_,H,rfl,I.kept (t':=s.toks) k,OV SJ ⟨by simp⟩,⟨zz,ti,to,a1 g e1,a2 g e2⟩,λb hb=>?_,q⟩;have hb':s.heap.objs.size<=b:=by
  simp only[mI,gU,or_false]at hb;rcases hb with rfl | rfl | rfl | rfl | rfl<;>first | exact Nat.le_add_right _ _ | exact mW _
 exact I.fpOk hb' (I.hok.fresh hb')
end
def RO(a:Addr):Obj:={ cls:=.type "tuple_iterator",data:=.fields #[.ref a,.int 0 0] }
def OZ(prog:Program)(w:World)(i l:Addr):Src prog w i where
 at_ k h:=h.IsTupleIter i l k
 has xs h:=∃its,h.IsTuple l (List.toArray its)/\Vals xs its
 dep:=[l]
 next st hs hx q:=by
  obtain⟨its,t,r⟩:=hs;obtain⟨u,hu,ru⟩:=r.get hx;exact nextT st t (by simpa using hu) λg n b=>q g _ u ru n b
 stop hh st hs hx q:=by
  obtain⟨its,t,r⟩:=hs;exact QC hh st t (by have:=r.length;have:=List.getElem?_eq_none_iff.mp hx;simp;omega) q
 atk x f:=IsTupleIter.as x f
 hask x f:=let ⟨its,⟨o,h1,h2⟩,r⟩:=x;⟨its,⟨o,f l (gH.mpr rfl) o h1,h2⟩,r⟩
 obj x:=let ⟨o,h1,_,d⟩:=x;⟨o,h1,λv q=>by rw[d]at q;cases q⟩
theorem Inv.hasT{X:Cx}{ac:List (Addr×Obj)}{s:Shared}{σ:St}{H:Hp}{a i:Addr}{xs:List V}(I:Inv X ac σ H s)(h:SqT X.K H a xs):(OZ X.prog X.w i a).has xs s.heap:=by
 obtain⟨its,r,p,_⟩:=I.tuple h;exact⟨its,p,r⟩
theorem it0T{prog:Program}{w:World}{a:Addr}{its:Array Value}{h:Heap}(t:h.IsTuple a its):Itr0 prog w (.ref a) (RO a) h:=λe q=>by
 subst e;exact wpAny_pyIter_tuple t q
theorem at0T{prog:Program}{w:World}{i a:Addr}(g:Heap)(e:g.get? i=some (RO a)):(OZ prog w i a).at_ 0 g:=⟨_,e,rfl,rfl⟩
def Itz(K:nI)(a b:Addr):It:=
 ⟨λi H=>∃xs ys x y,SqT K H a xs/\SqT K H b ys/\xs[i]? = some x/\ys[i]? = some y,
  λi H v H'=>∃p x y,H p=none/\v=.ref p/\H'=upd H p (.tup [x,y])/\(∀xs,SqT K H a xs->xs[i]? = some x)/\(∀ys,SqT K H b ys->ys[i]? = some y),
  λi H=>∃xs ys,SqT K H a xs/\SqT K H b ys/\(xs.length<=i∨ys.length<=i)⟩
theorem srcJ_T{P:Program}{w:World}{K:nI}{i1 i2 a b:Addr} :SrcJ P w K (OZ P w i1 a) (OZ P w i2 b) (Itz K a b):=by
 refine⟨λX hP hw hK {i ac s σ H} I hg=>?_,λX hP hw hK {i ac s σ H} I hg=>?_⟩<;>subst hP hw hK
 ·obtain⟨xs,ys,x,y,q1,q2,hx,hy⟩:=hg;exact⟨xs,ys,x,y,I.hasT q1,I.hasT q2,hx,hy,λb' f=>by rintro z;rcases mB.mp z with z | z;exact(f.apart I q1) (gH.mp z).symm;exact(f.apart I q2) (gH.mp z).symm,λp n=>⟨p,x,y,n,rfl,rfl,λxs' h=>by rw[I.tuple_inj h q1];exact hx,λys' h=>by rw[I.tuple_inj h q2];exact hy⟩⟩
 ·obtain⟨xs,ys,q1,q2,he⟩:=hg;exact⟨xs,ys,I.hasT q1,I.hasT q2,he.imp List.getElem?_eq_none List.getElem?_eq_none,λb' f=>by rintro z;rcases mB.mp z with z | z;exact(f.apart I q1) (gH.mp z).symm;exact(f.apart I q2) (gH.mp z).symm⟩
section
variable{X:Cx}
def iZipT(K:nI)(ta:TA):TI:=fun σ H R=>ta σ H λvs H1=>∃a b,vs=[.ref a,.ref b]/\(∃xs,SqT K H1 a xs)/\(∃ys,SqT K H1 b ys)/\R (Itz K a b) H1
theorem XT{es:List Expr}{x1}{tp:Pos}{a b:Expr}{ta:TA}{p pos:Pos}(hg:Gl X "zip")(hm:X.mg "zip" = none)(ha:PA X [a,b] ta)(hs:starEach [a,b] X.env=[(false,eval a X.env),(false,eval b X.env)]:=by rfl)(hs2:starEach [b] X.env=[(false,eval b X.env)]:=by rfl) :
  PI X (.Tuple es x1 tp) (.Call (.Name "zip" p) [a,b] [] pos) (iZipT X.K ta):=by
 intro ac s σ H R I h;refine Call_ (xZ I hg hm boot_zip (PyProof.Rows.callWith_type1 (thn (ha pos ac s σ H _ I h) λus s1 ⟨vs,H1,I1,r1,q1⟩=>?_) (by rw[hs,hs2]) (by rw[hs2];rfl)));obtain⟨l1,l2,e,⟨xs,q1⟩,⟨ys,q2⟩,q⟩:=q1;subst e;cases r1 with
 | cons r rr=>
  cases rr with
  | cons r' rr=>
   cases rr;cases r;cases r';obtain⟨its1,_,p1,_⟩:=I1.tuple q1;obtain⟨its2,_,p2,_⟩:=I1.tuple q2;exact XS I1 (it0T p1) (it0T (Heap.IsTuple.push p2 _)) rfl rfl (OZ _ _ _ l1) (OZ _ _ _ l2) (λg=>at0T g) (λg=>at0T g) srcJ_T q
end
end L2
namespace HT
open PySem PySem.Spec PyProof.Rows
section
variable{prog:Program}{w:World}{A:Around}{E:Value->Shared->Prop}{s:Shared}
theorem cut_whole{t sl:Addr}{items:Array Value}{vl vu:Value}{lo hi:Option Int}{Q:Value->Shared->Prop}(ht:IsTup s.heap t items)(hs:s.heap.IsSliceOf sl vl vu .none)(pl:IsPart vl lo)(pu:IsPart vu hi)
  (hw:sIx items.size 0 lo=0/\sIx items.size items.size hi=items.size) (h:Q (.ref t) s):wpAny (model prog w) A (getItem (.ref t) (.ref sl)) Q E s:=by
 obtain⟨os,hos,hcs,hds⟩:=id hs;have hTs:s.TypeIs (.ref sl) "slice":=⟨os,hos,hcs⟩;unfold getItem;try with_reducible refine wpAny_holding ?_
 first | refine nC (nE ?_) | skip
 refine nC (wpAny_sequenceKey ht.typeIs (by decide) ?_);refine nC (wpAny_callSpecial?_slot (name:=Str.ofString "__getitem__") ht.typeIs PyProof.Rows.slot_tuple_getitem (wpAny_call_entry PyProof.Rows.slot_tuple_getitem ht.typeIs entry_tuple_getitem ?_ (args_tuple_getitem _ _)));show wpAny _ _ (Builtin.Tuple.tupleItemsOf (.ref t) >>= _) _ _ s;refine nC (tupleItemsOf_ ht (nC (wpAny_typeOf hTs ?_)));rw[nH (by decide)];refine nC (yC hs pl pu ?_);have hy:(((sIx items.size 0 lo:Nat):Int)==0&&(1:Int)==1&&(sIx items.size items.size hi-sIx items.size 0 lo)==items.size)=true:=by
  rw[hw.1,hw.2];simp
 show wpAny _ _ (if (((sIx items.size 0 lo:Nat):Int)==0&&(1:Int)==1&&(sIx items.size items.size hi-sIx items.size 0 lo)==items.size)=true then _ else _) _ _ s;rw[nH hy];refine nC (m:=Builtin.Tuple.tupleIsExact _) (nC (wpAny_typeOf ht.typeIs (nE ?_)));rw[nH (by decide)];refine nC (wpAny_rule ?_);first
  | exact nC (nE (nE ⟨_,rfl,nE h⟩))
  | exact nE ⟨_,rfl,nE h⟩
  | exact nC (nE ⟨_,rfl,nE h⟩)
end
end HT
namespace L2
open PySem PySem.Spec PyProof.Rows
section
variable{X:Cx}
def Gets(H:Hp)(xs:List V)(Q:VK):Prop:=∀p H',Same H H'->H' p=some (.tup xs)->Q (.ref p) H'
def rSlH:V->Option Int->Option Int->Hp->VK->Prop:=λx lo hi H Q=>∃a xs,x=.ref a/\H a=some (.tup xs)/\Gets H (wC xs lo hi) Q
theorem WY:SlR X rSlH:=by
 intro ac s σ H x v vl vu lo hi sl Q I rx hs pl pu h;obtain⟨a,xs,rfl,hx,q⟩:=h;by_cases hw:HT.sIx xs.length 0 lo=0/\HT.sIx xs.length xs.length hi=xs.length
 ·cases rx;obtain⟨its,r,ht,hz⟩:=I.tuple (SqT.of hx);have hl:its.toArray.size=xs.length:=by rw[gN];exact r.length.symm
  refine⟨"tuple",_,PyProof.Rows.slot_tuple_getitem.lookup,ht.typeIs,HT.cut_whole ht hs pl pu (by rw[hl];exact hw) ⟨.ref a,H,I,rfl,q a H (λ_ _ e=>e) ?_⟩⟩;rw[hx,wC,hw.1,hw.2];simp
 ·exact SM ac s σ H _ v vl vu lo hi sl Q I rx hs pl pu ⟨a,xs,rfl,SqT.of hx,hw,λp n=>q p _ (Lw.kB _ n) jI⟩
end
end L2
namespace LwMx
open PySem PySem.Spec PyProof.Rows L2 Lw
section
variable{prog:Program}{w:World}{A:Around}{R:Result->Shared->Prop}{J:Addr}{fp wr:List Addr}{n:Nat}{Pv:Nat->Value->Prop}{St:Nat->Heap->Prop}
theorem HS:(toString "max"++toString ".loop" :String)="max.loop":=by decide
theorem UV(Wk:Walks prog w A.in1 J fp wr n Pv St)(gt:Nat->Nat->Bool)(cmp:CmpOf prog w A.in1 .Gt Pv gt)(B:Addr)(out:B∉fp)(kws:List (Str×Value)) :
  ∀(k j:Nat) (s:Shared) (x:Value) (c:Nat),n-(j+1)=k->j+1<=n->St (j+1) s.heap->Pv (argBest gt j) x->
  s.heap.get? B=some { cls:=.type "list",dict:=none,data:=.seq #[x,x] c,slots:=#[] }->
  (∀y h' tk,Pv (argBest gt (n-1)) y->(∀b o,b∉wr->b≠B->s.heap.get? b=some o->h'.get? b=some o)->R (.ok (.ret y)) { s with heap:=h',toks:=tk })->
  codeAny (model prog w) A (.builtin "max.loop" ⟨[.ref J,.none,.ref B],kws⟩) R s:=by
 have outw:B∉wr:=λz=>out (Wk.sub _ z);intro k;induction k with
 | zero=>
  intro j s x c hk hj st px hB hR;have jn:j+1=n:=by omega
  refine codeAny_builtin PySem.F.entry_max_loop ?_;rw[Around.under_plainId PySem.F.plain_max_loop _];show wpAny _ A.in1 (seqItems? (.ref B) >>= _) _ _ s;refine nC (wpAny_seqItems hB rfl ?_);show wpAny _ A.in1 (tryCatch (pyNext (.ref J)) _ >>= _) _ _ s;refine nC (wpAny_tryCatch (Wk.done s _ _ (jn▸st) λh1 t1 k1=>?_));have hB1:=k1 B _ outw hB;show wpAny _ A.in1 (updateSeq B (λ_=>#[]) >>= _) _ _ _;refine nC (wpAny_updateSeq hB1 rfl (nC (wpAny_letGo (nE ?_))));exact hR x _ t1 (by rw[<-jn];exact px) λb o n1 n2 e=>(Heap.get?_update_other _ _ (Ne.symm n2)).trans (k1 b o n1 e)
 | succ k ih=>
  intro j s x c hk hj st px hB hR;have jn:j+1<n:=by omega
  refine codeAny_builtin PySem.F.entry_max_loop ?_;rw[Around.under_plainId PySem.F.plain_max_loop _];show wpAny _ A.in1 (seqItems? (.ref B) >>= _) _ _ s;refine nC (wpAny_seqItems hB rfl ?_);show wpAny _ A.in1 (tryCatch (pyNext (.ref J)) _ >>= _) _ _ s;refine nC (wpAny_tryCatch (Wk.item (j+1) s _ _ jn st λy h1 t1 py st1 k1=>?_));have hB1:=k1 B _ outw hB;show wpAny _ A.in1 (tryCatch (holding [y,y] (richCompare .Gt y x >>= _)) _ >>= _) _ _ _;refine nC (wpAny_tryCatch (wpAny_holding (nC (cmp (j+1) (argBest gt j) y x _ _ _ py px ?_))));refine nC (wpAny_holding (wpAny_truthy_bool (nC (wpAny_letGo (nE ?_)))));cases hb:gt (j+1) (argBest gt j)with
  | true=>
   simp only[if_true];refine nC (wpAny_updateSeq hB1 rfl (nC (wpAny_letGo ?_)));rw[HS];refine nE ⟨plainId_quiet PySem.F.plain_max_loop _,ih (j+1) _ y _ (by omega) jn (Wk.frame _ _ _ st1 λb hb' o e=>?_) (by simp only[argBest,hb,if_true];exact py) (Heap.get?_update_self _ hB1 rfl) λy' h2 t2 p2 k2=>?_⟩
   ·exact(Heap.get?_update_other _ _ (λz:B=b=>out (by rw[z];exact hb'))).trans e
   ·exact hR y' h2 t2 p2 λb o n1 n2 e=>k2 b o n1 n2 ((Heap.get?_update_other _ _ (Ne.symm n2)).trans (k1 b o n1 e))
  | false=>
   simp only[Bool.false_eq_true,if_false];refine nC (wpAny_letGo ?_);rw[HS];refine nE ⟨plainId_quiet PySem.F.plain_max_loop _,ih (j+1) _ x c (by omega) jn st1 (by simp only[argBest,hb,Bool.false_eq_true,if_false];exact px) hB1 λy' h2 t2 p2 k2=>?_⟩;exact hR y' h2 t2 p2 λb o n1 n2 e=>k2 b o n1 n2 (k1 b o n1 e)
theorem UW(Wk:Walks prog w A.in1 J fp wr n Pv St)(gt:Nat->Nat->Bool)(cmp:CmpOf prog w A.in1 .Gt Pv gt)(B:Addr)(out:B∉fp)(d:Value){s:Shared}{c:Nat}(st:St 0 s.heap)
  (hB:s.heap.get? B=some { cls:=.type "list",dict:=none,data:=.seq #[] c,slots:=#[] })
  (h0:n=0->∀h' tk,(∀b o,b∉wr->b≠B->s.heap.get? b=some o->h'.get? b=some o)->R (.ok (.ret d)) { s with heap:=h',toks:=tk })
  (hR:0<n->∀y h' tk,Pv (argBest gt (n-1)) y->(∀b o,b∉wr->b≠B->s.heap.get? b=some o->h'.get? b=some o)->R (.ok (.ret y)) { s with heap:=h',toks:=tk }) :
  codeAny (model prog w) A (.builtin "max.loop" ⟨[.ref J,.none,.ref B],[("default",d)]⟩) R s:=by
 have outw:B∉wr:=λz=>out (Wk.sub _ z);refine codeAny_builtin PySem.F.entry_max_loop ?_;rw[Around.under_plainId PySem.F.plain_max_loop _];show wpAny _ A.in1 (seqItems? (.ref B) >>= _) _ _ s;refine nC (wpAny_seqItems hB rfl ?_);show wpAny _ A.in1 (tryCatch (pyNext (.ref J)) _ >>= _) _ _ s;by_cases hn:0<n
 ·refine nC (wpAny_tryCatch (Wk.item 0 s _ _ hn st λy h1 t1 py st1 k1=>?_));have hB1:=k1 B _ outw hB;show wpAny _ A.in1 (updateSeq B (λ_=>#[y,y]) >>= _) _ _ _;refine nC (wpAny_updateSeq hB1 rfl ?_);rw[HS];refine nE ⟨plainId_quiet PySem.F.plain_max_loop _,UV Wk gt cmp B out _ _ 0 _ y _ rfl hn (Wk.frame _ _ _ st1 λb hb' o e=>?_) py (Heap.get?_update_self _ hB1 rfl) λy' h2 t2 p2 k2=>?_⟩
  ·exact(Heap.get?_update_other _ _ (λz:B=b=>out (by rw[z];exact hb'))).trans e
  ·exact hR hn y' h2 t2 p2 λb o n1 n2 e=>k2 b o n1 n2 ((Heap.get?_update_other _ _ (Ne.symm n2)).trans (k1 b o n1 e))
 ·have z:n=0:=by omega
  subst z;refine nC (wpAny_tryCatch (Wk.done s _ _ st λh1 t1 k1=>?_));refine nC (wpAny_rule (nE ?_));exact h0 rfl _ t1 λb o n1 n2 e=>k1 b o n1 e
end
theorem ZC(a v:Value):argsOk "max" ⟨[a],[(Str.ofString "default",v)]⟩:=by unfold argsOk;kernel_rfl
section
variable{prog:Program}{w:World}{A:Around}{E:Value->Shared->Prop}{s:Shared}
theorem ZB{x d:Value}{Q:Value->Shared->Prop}
  (h:wpAny (model prog w) A.in1 (pyIter x) (λit s₂=>∃J fp wr n Pv St gt,it=.ref J/\Walks prog w A.in1 J fp wr n Pv St/\St 0 s₂.heap/\(∀b∈fp,b<s₂.heap.objs.size)/\CmpOf prog w A.in1 .Gt Pv gt/\
   (n=0->∀h' tk,(∀b o,b∉wr->s₂.heap.get? b=some o->h'.get? b=some o)->Q d { s₂ with heap:=h',toks:=tk })/\
   (0<n->∀v h' tk,Pv (argBest gt (n-1)) v->(∀b o,b∉wr->s₂.heap.get? b=some o->h'.get? b=some o)->Q v { s₂ with heap:=h',toks:=tk })) E s) :
  wpAny (model prog w) A (call (.builtin "max") [x] [(Str.ofString "default",d)]) Q E s:=by
 refine kmb_tree PySem.F.kind_max PySem.F.plain_max PySem.F.entry_max (ZC _ _) ?_;show wpAny _ A.in1 (Builtin.Builtins.bindParams "max" ["key","default"] 0 ⟨[],[(Str.ofString "default",d)]⟩ >>= _) _ _ s;refine nC (wpAny_of_eq (show Builtin.Builtins.bindParams "max" ["key","default"] 0 ⟨[],[(Str.ofString "default",d)]⟩=pure [none,some d]from rfl) ?_);refine nC (nE (nC (nF h (λit s₂ h₂=>?_) λ_ _ e=>e)));obtain⟨J,fp,wr,n,Pv,St,gt,rfl,Wk,st,lt,cmp,q0,q1⟩:=h₂;refine nC (wpAny_newObj_type ?_);have out:s₂.heap.objs.size∉fp:=λz=>mJ _ (lt _ z);rw[HS];have up:∀(h':Heap),(∀b o,b∉wr->b≠s₂.heap.objs.size->(s₂.heap.push { cls:=.type "list",data:=.seq ([]:List Value).toArray }).get? b=some o->h'.get? b=some o)->∀b o,b∉wr->s₂.heap.get? b=some o->h'.get? b=some o:=λh' k b o n1 e=>
  k b o n1 (mO (mM e)) (uS _ e)
 refine nE ⟨plainId_quiet PySem.F.plain_max_loop _,UW Wk gt cmp s₂.heap.objs.size out d (Wk.frame _ _ _ st λb _ o e=>uS _ e) (gC _ rfl) (λz h' tk k=>q0 z h' tk (up h' k)) λz v h' tk p k=>q1 z v h' tk p (up h' k)⟩
end
theorem OR(ns:List Int):∀k,k<ns.length->(argBest (λi j=>decide (ns.getD i 0>ns.getD j 0)) k)<=k/\∀j,j<=k->ns.getD j 0<=ns.getD (argBest (λi j=>decide (ns.getD i 0>ns.getD j 0)) k) 0
 | 0,_=>⟨mW _,λj hj=>by have:j=0:=(by omega);subst this;exact mZ _⟩
 | k+1,h=>by
  obtain⟨h1,h2⟩:=OR ns k (by omega);simp only[argBest];split
  ·rename_i hb;have hb:=gP hb;refine⟨mW _,λj hj=>?_⟩;rcases Nat.lt_or_ge j (k+1)with z | z
   ·have:=h2 j (by omega);omega
   ·have:j=k+1:=by omega
    subst this;exact mZ _
  ·rename_i hb;refine⟨by omega,λj hj=>?_⟩;rcases Nat.lt_or_ge j (k+1)with z | z
   ·exact h2 j (by omega)
   ·have e:j=k+1:=by omega
    have:¬ns.getD (k+1) 0>ns.getD (argBest (λi j=>decide (ns.getD i 0>ns.getD j 0)) k) 0:=λy=>hb (mC y);rw[e];omega
section
variable{X:Cx}
def rMaxD(d:Int):List V->Hp->VK->Prop:=λxs H Q=>∃(l:Addr) (ns:List Int),xs=[.ref l]/\H l=some (.lst (ns.map V.int))/\(ns=[]->Q (.int d) H)/\∀m,m∈ns->(∀x∈ns,x<=m)->Q (.int m) H
theorem QZ{ac:List (Addr×Obj)}{σ:L2.St}{H:Hp}{s:Shared}{l:Addr}{ns:List Int}{d:Int}{t:Tok}{Q:VK}(hc:X.calm=true)(I:Inv X ac σ H s)(hl:H l=some (.lst (ns.map V.int)))
  (q0:ns=[]->Q (.int d) H) (q1:∀m,m∈ns->(∀x∈ns,x<=m)->Q (.int m) H):wpAny (model X.prog X.w) X.A (call (.builtin "max") [.ref l] [(Str.ofString "default",.int d t)]) (EP X ac σ Q) X.xe s:=by
 obtain⟨its,rv,p,_⟩:=I.list (SqL.of hl);have i1:IntsAre its ns:=vD rv;have il:=xA i1;have ha:l<s.heap.objs.size:=by
  obtain⟨o,_,e,_⟩:=p;exact mM e
 have p':s.heap.IsList l its.toArray:=by
  obtain⟨o,n,e,e2,_,e3⟩:=p;exact⟨o,e,e2,⟨n,e3⟩⟩
 refine ZB (wpAny_pyIter_list p' ?_);refine⟨s.heap.objs.size,_,_,_,_,_,λi j=>decide (ns.getD i 0>ns.getD j 0),rfl,Walks.list (show X.A.in1.handled=none from I.ok.hd hc) s.heap.objs.size l (mO ha) its.toArray,⟨⟨_,gC _ rfl,rfl,rfl⟩,p'.push _⟩, ?_, ?_, ?_, ?_⟩
 ·intro b hb;show b<(s.heap.push _).objs.size;rw[mG];simp only[mI,gU,or_false]at hb;rcases hb with rfl | rfl
  ·exact hJ _
  ·exact Nat.lt_succ_of_lt ha
 ·refine CmpOf.ints_gt (λi=>ns.getD i 0) λi v hv=>?_;have hv':its[i]? = some v:=by simpa using hv
  obtain⟨hi,e⟩:=uQ.mp hv';obtain⟨n,t,e1,e2⟩:=yF i1 hi;exact⟨t,by rw[<-e,e2,uO,e1];rfl⟩
 ·intro z h' tk k;have z':ns=[]:=by
   have:its.length=0:=by simpa using z
   exact List.length_eq_zero_iff.mp (by omega)
  refine⟨.int d,H,I.kept (t':=tk) (λb o e=>k b o ?_ (uS _ e)),⟨t,rfl⟩,q0 z'⟩;simp;exact mO (mM e)
 ·intro z v h' tk hv k;have z':0<ns.length:=by
   have:0<its.length:=by simpa using z
   omega
  have sz:its.toArray.size=ns.length:=by rw[gN,il]
  rw[sz]at hv;obtain⟨b1,b2⟩:=OR ns (ns.length-1) (by omega);generalize argBest (λi j=>decide (ns.getD i 0>ns.getD j 0)) (ns.length-1)=i at hv b1 b2;have hv':its[i]? = some v:=by simpa using hv
  obtain⟨hi,e⟩:=uQ.mp hv';obtain⟨n,t,e1,e2⟩:=yF i1 hi;have en:ns.getD i 0=n:=by rw[uO,e1];rfl
  refine⟨.int n,H,I.kept (t':=tk) (λb o e=>k b o ?_ (uS _ e)),⟨t,by rw[<-e,e2]⟩,q1 n (uW e1) λx hx=>?_⟩
  ·simp;exact mO (mM e)
  ·obtain⟨j,hj⟩:=uV.mp hx;have hjl:=(uQ.mp hj).1;have:=b2 j (by omega);rw[en,uO,hj]at this;exact this
variable{p pos kpos:Pos}{e e2:Expr}{es:List Expr}{t tk:TA}
def tMaxD(t tk:TA):TE:=fun σ H Q=>t σ H λvs H1=>tk σ H1 λzs H2=>∃d,zs=[.int d]/\rMaxD d vs H2 Q
theorem pe_maxD(hc:X.calm=true)(hg:Gl X "max")(hm:X.mg "max" = none)(ha:PA X [e] t)(hk:PK X [⟨some "default",e2,kpos⟩] tk)
  (hall:(backToKw pos (keywordEach [⟨some "default",e2,kpos⟩] X.env)).all (·.1.isSome)=true:=by rfl) (hks:(backToKw pos (keywordEach [⟨some "default",e2,kpos⟩] X.env)).filterMap (·.1)=[Str.ofString "default"]:=by rfl)
  (he:starEach [e] X.env=[(false,eval e X.env)]:=by rfl)
  (hpl:((backTo pos (starEach [e] X.env)).any (·.1)||(backToKw pos (keywordEach [⟨some "default",e2,kpos⟩] X.env)).any (·.1.isNone))=false:=by rfl) :
  PE X (.Call (.Name "max" p) [e] [⟨some "default",e2,kpos⟩] pos) (tMaxD t tk):=by
 intro ac s σ H Q I h;refine wpAny_Call_Name_kw (xZ I hg hm (show bootBuiltins "max" = some (.builtin "max") by decide +kernel) ?_ (by decide) (by decide));refine PySem.W.callWith_of (P:=λ_=>True) hpl (λ_ _=>⟨_,.inr (.inl rfl),PySem.W.Looks.of_pure rfl⟩) (evalArgs_kw2 hall (thn (ha pos ac s σ H _ I h) λus s1 ⟨vs,H1,I1,r,q⟩=>?_) he);refine thn (hk pos ac s1 σ H1 _ I1 q) λws s2 ⟨zs,H2,I2,rz,q2⟩=>⟨trivial, ?_⟩;rw[hks];obtain⟨d,rfl,l,ns,rfl,hl,q0,q1⟩:=q2;obtain⟨u,rfl,ru⟩:=xG r;cases ru;obtain⟨u,rfl,⟨t,rfl⟩⟩:=xG rz;exact QZ hc I2 hl q0 q1
end
end LwMx
namespace L2
open PySem PySem.Spec PyProof.Rows
section
variable{X:Cx}{ac:List (Addr×Obj)}{σ:St}{H:Hp}{s:Shared}
theorem FpOk.apartL{a b:Addr}{xs:List V}(I:Inv X ac σ H s)(f:FpOk X ac H b)(h:SqL X.K H a xs):a≠b:=by
 rintro rfl;rcases h with(h | ⟨o,h⟩) | ⟨o,its,n,hk,hc,hs,hz,r⟩
 ·rw[f.1]at h;cases h
 ·rw[f.1]at h;cases h
 ·have hb:X.base.get? a=some o:=I.ok.mod.kin a o hk;rcases f.2.2.2.1 with z | z
  ·exact I.ok.noex a o hb z
  ·exact absurd (gG (mM hb) (mN I.ok.bsz z)) (mJ _)
end
section
variable{X:Cx}
end
section
open AutoSeq1 (wpAny_loadPart')
end
section
variable{prog:Program}{w:World}{A:Around}{E:Value->Shared->Prop}{s:Shared}
end
section
variable{X:Cx}
end
end L2
namespace LwD
open PySem PySem.Spec PyProof.Rows L2 Lw
section
variable{X:Cx}
end
section
variable{X:Cx}{ac:List (Addr×Obj)}{σ:L2.St}{H:Hp}{s:Shared}
end
section
variable{X:Cx}
end
section
variable{X:Cx}
end
theorem KY(l:Addr)(x:Value)(n:Nat)(od:Option Addr)(sl:Array (Option Value))(k:Nat)(hk:2<=k/\k<=4)(u:Tok) :
  Meets (Builtin.«tuple.__mul__» ⟨[.ref l,.int k u],[]⟩) (λ_ R s=>s.heap.get? l=some { cls:=.type "tuple",dict:=od,data:=.seq #[x] n,slots:=sl }/\R (.ok (.ret (Value.ref s.heap.objs.size))) { s with heap:=s.heap.push { cls:=Value.type "tuple",data:=Data.seq (List.replicate k x).toArray } }):=
 .of_wp λprog w A R s h=>by
  obtain⟨hp,g,d,tk,os⟩:=s;obtain⟨hl,h⟩:=h;have:k=2∨k=3∨k=4:=by omega
  rcases this with rfl | rfl | rfl<;>(wp_walk;exact⟨_,rfl,h⟩)
theorem RP(l:Addr)(x:Value)(n:Nat)(od:Option Addr)(sl:Array (Option Value))(u:Tok) :
  Meets (Builtin.«tuple.__mul__» ⟨[.ref l,.int 1 u],[]⟩) (λ_ R s=>s.heap.get? l=some { cls:=.type "tuple",dict:=od,data:=.seq #[x] n,slots:=sl }/\R (.ok (.ret (Value.ref l))) s):=
 .of_wp λprog w A R s h=>by
  obtain⟨hp,g,d,tk,os⟩:=s;obtain⟨hl,h⟩:=h
  wp_walk
  exact⟨_,rfl,h⟩
theorem tmul_r(a:Int)(t:Tok)(l:Addr)(x:Value)(n:Nat)(od:Option Addr)(sl:Array (Option Value)) :
  Meets (Builtin.«int.__rmul__» ⟨[.int a t,.ref l],[]⟩) (λ_ R s=>s.heap.get? l=some { cls:=.type "tuple",dict:=od,data:=.seq #[x] n,slots:=sl }/\R (.ok (.ret Value.notImplemented)) s):=
 .of_wp λprog w A R s h=>by obtain⟨hp,g,d,tk,os⟩:=s;obtain⟨hl,h⟩:=h;wp_walk;exact⟨_,rfl,h⟩
theorem JG:fillsNumberSlot (.type "tuple") "mul" = pure false:=
 PySem.fillsNumberSlot_seq (id:="tuple.__mul__") (r:=some (.builtin "tuple.__rmul__")) F.slot_tuple_mul.lookup (by decide +kernel) F.slot_tuple_rmul.lookup (by decide +kernel)
theorem XG:seqRepeat? (.type "tuple")=pure (some (.builtin "tuple.__mul__")):=by
 unfold seqRepeat?;rw[PySem.seqSlot_of (T:="tuple") (name:="__mul__") (id:="tuple.__mul__") F.slot_tuple_mul.lookup (by decide +kernel),PySem.seqSlot_of (T:="tuple") (name:="__rmul__") (id:="tuple.__rmul__") F.slot_tuple_rmul.lookup (by decide +kernel)]
 rfl
section
variable{X:Cx}
def rRepT:R2:=λx y H Q=>∃(l:Addr) (k:Nat) (v:V),x=.ref l/\y=.int k/\H l=some (.tup [v])/\1<=k/\k<=4/\∀p H',Same H H'->H' p=some (.tup (List.replicate k v))->Q (.ref p) H'
theorem NL:OpR X (binaryOp .Mult) rRepT:=by
 intro ac s σ H x y v u Q I rx ry h;obtain⟨l,k,z,rfl,rfl,hH,h1,h2,q⟩:=h;cases rx;obtain⟨t,rfl⟩:=ry;obtain⟨zl,its,rv,⟨⟨cl,od,dt,sl⟩,ho,hc,n,hd⟩,nD⟩:=(show ObjOk X.prog X.w H s.heap l (.tup [z])from I.hok l _ hH)
 replace hc:cl=.type "tuple":=hc
 replace hd:dt=.seq its.toArray n:=hd
 obtain⟨iv,rfl,riv⟩:=xG rv;subst hc hd;refine wpAny_binaryOp_repeat_ref (T:="tuple") (U:="int") (by decide) ⟨_,ho,rfl⟩ (λs'=>typeIs_int s' k t) JG F.fills_int_mul F.slot_int_rmul XG F.slot_int_index.lookup
  (call_meets F.slot_int_rmul (typeIs_int s k t) F.entry_int_rmul (F.args_int_rmul_2 _ _) (tmul_r k t l iv n od sl) ⟨ho,rfl,⟨_,ho,rfl⟩, ?_⟩)
 by_cases k1:k=1
 ·subst k1;exact call_meets F.slot_tuple_mul ⟨_,ho,rfl⟩ F.entry_tuple_mul (F.args_tuple_mul_2 _ _) (RP l iv n od sl t) ⟨ho,⟨.ref l,H,I,rfl,q l H (Same.refl _) hH⟩⟩
 ·refine call_meets F.slot_tuple_mul ⟨_,ho,rfl⟩ F.entry_tuple_mul (F.args_tuple_mul_2 _ _) (KY l iv n od sl k (by omega) t) ⟨ho, ?_⟩;have nz:H s.heap.objs.size=none:=I.hok.fresh uJ ;have rr:Vals (List.replicate k z) (List.replicate k iv):=by
   clear h1 h2 q k1;induction k with
   | zero=>exact .nil
   | succ k ih=>exact .cons riv ih
  exact⟨.ref s.heap.objs.size,_,I.laid (o:=.tup (List.replicate k z)) (t':=s.toks) (λb u e=>uS _ e) uJ ⟨by rw[uU];exact mN h2 (by decide),_,rr,⟨_,gC _ rfl,rfl,_,rfl⟩,.of (gC _ rfl) rfl⟩,rfl,q _ _ (kB _ nz) jI⟩
def CDivP(i j:Int):Prop:=0<j/\Builtin.divisionGoesByPylong i j=false
theorem zG:OpR X (binaryOp .FloorDiv) (rI CDivP λi j=>.int (i/j)):=opI λi j _ _ _ _ _ hc q=>by
 refine floordiv_int (by have:=hc.1;omega) ?_ (.inl hc.2);rw[Int.fdiv_eq_ediv_of_nonneg _ (Int.le_of_lt hc.1)];exact q
theorem xT{i j:Int}{m:Nat}(hj:0<j)(hm:m<=13400)(hi:i.natAbs<2^m):CDivP i j:=by
 refine⟨hj, ?_⟩;by_cases h9:j.natAbs.log2<9000
 ·exact PyProof.noPylong_of_log2 h9
 ·show(decide ((if j==0 then 0 else j.natAbs.log2/30+1)>300)&&decide ((if i==0 then 0 else i.natAbs.log2/30+1)>(if j==0 then 0 else j.natAbs.log2/30+1)+150))=false;rw[Bool.and_eq_false_iff]
  right
  refine hW ?_;have j0:(j==0)=false:=by
   rw[beq_eq_false_iff_ne];omega
  rw[j0];simp only[Bool.false_eq_true,if_false];have:i.natAbs.log2<13440:=by
   by_cases z:i.natAbs=0
   ·rw[z];decide +kernel
   ·exact(Nat.log2_lt z).mpr (gG hi (uY (by decide) (by omega)))
  split<;>omega
end
end LwD
namespace LwD
open PySem PySem.W PySem.Spec PyProof.Rows
structure Strict(lt:Nat->Nat->Bool)(n:Nat):Prop where
 tr:∀a b c,lt a b=true->lt b c=true->lt a c=true
 as:∀a b,lt a b=true->lt b a=false
 tot:∀a b,a<n->b<n->a≠b->lt a b=false->lt b a=true
section
variable{lt:Nat->Nat->Bool}{n:Nat}
end
end LwD
namespace LwD
open PySem PySem.Spec PyProof.Rows L2 Lw
def xU:List Int->List Int->Bool
 | x::xs,y::ys=>if x=y then xU xs ys else decide (x<y)
 | [],_::_=>true
 | _,[]=>false
theorem KTkeys{H:Hp}{ag:List (List Key×V)}{xs:List (List Key×Addr×Value)}(r:KT H ag xs):ag.map (·.1)=xs.map (·.1):=by
 induction r with
 | nil=>rfl
 | cons h _ ih=>rw[mH,mH,ih,h.1]
section
variable{prog:Program}{w:World}{A:Around}{E:Value->Shared->Prop}{s:Shared}
end
section
variable{X:Cx}
end
end LwD
namespace LwI
open PySem PySem.Spec PyProof.Rows
open Sem (wp)
section
local macro_rules | `(panic! $s:str)=>return Lean.mkIdent ((Lean.Name.str (.str (.num (.str (.str (.str (.str (.str .anonymous "_private") "PySem") "Builtin") "Int") "W0All") 0) "PySem") "Builtin")++s.getString.toName)
local macro_rules | `(tactic| trivial)=>do
 let n (s:String):=Lean.mkIdent (.str (.str (.str (.num (.str (.str (.str (.str (.str .anonymous "_private") "PySem") "Builtin") "Int") "W0All") 0) "PySem") "Builtin") s)
 `(tactic| first | unfold $(n "intFromObject") | unfold $(n "numeralText?") | unfold $(n "intFromText") | unfold $(n "readNumeral") | unfold $(n "prefixBase?") | unfold $(n "numeralDigits?") | unfold $(n "digitValue?"))
end
end LwI
namespace L2
open PySem PySem.Spec PyProof.Rows Lw
section
variable{X:Cx}
end
end L2
namespace L2
open PySem PySem.Spec PyProof.Rows
section
variable{X:Cx}
end
end L2
namespace LwD
open PySem PySem.Spec PyProof.Rows L2 Lw PySem.W
section
variable{prog:Program}{w:World}{A:Around}{E:Value->Shared->Prop}{s:Shared}{h₀:Heap}{L:Addr}{m:Str->Option Value}{news:List (Addr×Obj)}
end
section
variable{X:Cx}
end
section
variable{X:Cx}{e e2:Expr}{kpos p pos:Pos}{t:TA}
end
end LwD
namespace LwS
open PySem PySem.Builtin.Str
structure Mark(sep:Str)(k c:Nat):Prop where
 one:sep.cps.toList[k]? = some c
 only:∀j,j<k->sep.cps.toList[j]?≠some c
 kind:strKind sep=1
open LwI
structure Trm where
 ns:List Int
 t:Int
 b:Int
structure TmOk(aa:Nat)(x:Trm):Prop where
 len:x.ns.length=aa
 nn:∀n∈x.ns,0<=n
 deg:x.ns.sum<=16
 pos:0<x.b
 low:Int.gcd x.t x.b=1
 nz:x.t≠0
 st:x.t.natAbs<2^782
 sb:x.b.natAbs<2^680
theorem RW:∀{ns:List Int},(∀n∈ns,0<=n)->0<=ns.sum
 | [],_=>mZ _
 | a::r,h=>by
  have h1:=h a (by simp);have h2:=RW λn hn=>h n (uX _ hn);rw[List.sum_cons];omega
theorem NS:∀{ns:List Int} {n:Int},(∀n∈ns,0<=n)->n∈ns->n<=ns.sum
 | a::r,n,h,hn=>by
  have h1:=h a (by simp);have h2:=RW λn hn=>h n (uX _ hn);rw[List.sum_cons];rcases mI.mp hn with rfl | hn
  ·omega
  ·have:=NS (λn hn=>h n (uX _ hn)) hn;omega
theorem TmOk.le{aa:Nat}{x:Trm}(h:TmOk aa x){n:Int}(hn:n∈x.ns):0<=n/\n<=16:=⟨h.nn n hn,Int.le_trans (NS h.nn hn) h.deg⟩
end LwS
namespace LwD
open PySem PySem.Spec PyProof.Rows L2 Lw
theorem QE:typeLookup (.type "tuple") "keys" = pure none:=am_miss_of_fast (by decide +kernel)
theorem RN:typeLookup (.type "tuple") "__getattr__" = pure none:=by rw[typeLookup_type,builtinLookup_eq_fast];kernel_rfl
section
variable{prog:Program}{w:World}{A:Around}{E:Value->Shared->Prop}{h:Heap}{g:Array GenState}{d:Drawn}{t:Nat}{os:OsState}{a:Addr}{o:Obj}
theorem LQ{tk:Tok}{Q:Fin->Shared->Prop}(hx:h.get? a=some o)(hc:o.cls=.type "tuple")(hd:o.dict=none)(n:Nat)(its:Array Value)(hs:o.data=.seq its n)(hh:A.handled=none)
  (hq:∀h' tk' e,Heap.NewAttrErr h h' e (.ref a) "keys"->E (.ref e) ⟨h',g,d,tk',os⟩) :
  wpAny (model prog w) A (Builtin.«object.__getattribute__» ⟨[.ref a,.str "keys" tk],[]⟩) Q E ⟨h,g,d,t,os⟩:=by
 have hT:(⟨h,g,d,t,os⟩:Shared).TypeIs (.ref a) "tuple":=⟨_,hx,hc⟩;have f4:=QE;obtain⟨c,dd,dt,sl⟩:=o
 replace hc:c=.type "tuple":=hc
 replace hd:dd=none:=hd
 replace hs:dt=.seq its n:=hs
 subst hc hd hs;unfold Builtin.«object.__getattribute__»
 repeat (any_goals (first | assumption | wp_step))
 exact wpAny_raiseAttrError hh hq (attrMsg_fits (by decide +kernel) (by size_fits))
theorem QI{tk:Tok}{R:Result->Shared->Prop}(hx:h.get? a=some o)(hc:o.cls=.type "tuple")(hd:o.dict=none)(n:Nat)(its:Array Value)(hs:o.data=.seq its n)(hh:A.handled=none)
  (hq:∀h' tk' e,Heap.NewAttrErr h h' e (.ref a) "keys"->R (.error (.ref e)) ⟨h',g,d,tk',os⟩) :
  codeAny (model prog w) A (.call (.builtin "tuple.__getattribute__") ⟨[.ref a,.str "keys" tk],[]⟩) R ⟨h,g,d,t,os⟩:=
 codeAny_call_builtin F.slot_tuple_getattribute.plain F.entry_tuple_ga (F.slot_tuple_getattribute.check _ _ _ _ _ _ _ _ (show(⟨h,g,d,t,os⟩:Shared).TypeIs (.ref a) "tuple" from⟨_,hx,hc⟩) (F.args_tuple_getattribute_2 _ _) (LQ hx hc hd n its hs (show A.in1.handled=none from hh) hq))
theorem QH{Q:Option Value->Shared->Prop}(hx:h.get? a=some o)(hc:o.cls=.type "tuple")(hd:o.dict=none)(n:Nat)(its:Array Value)(hs:o.data=.seq its n)(hh:A.handled=none)
  (hq:∀h' tk',(∀b u,h.get? b=some u->h'.get? b=some u)->Q none ⟨h',g,d,tk',os⟩):wpAny (model prog w) A (getAttr? (.ref a) "keys") Q E ⟨h,g,d,t,os⟩:=by
 have hT:(⟨h,g,d,t,os⟩:Shared).TypeIs (.ref a) "tuple":=⟨_,hx,hc⟩;have f2:=F.slot_tuple_getattribute.lookup;have f3:=F.slot_tuple_getattribute.bind (.ref a);have f1:=sub_AttributeError;have kc:=λ(A:Around) (t:Nat) (tk:Tok) (R:Result->Shared->Prop) (hh:A.handled=none)=>QI (prog:=prog) (w:=w) (A:=A) (g:=g) (d:=d) (t:=t) (os:=os) (tk:=tk) (R:=R) hx hc hd n its hs hh;obtain⟨c,dd,dt,sl⟩:=o
 replace hc:c=.type "tuple":=hc
 replace hd:dd=none:=hd
 replace hs:dt=.seq its n:=hs
 subst hc hd hs;unfold getAttr? getAttrBy?
 repeat (any_goals (first | assumption | wp_step))
 refine kc _ _ _ _ hh λh' tk' e ne=>?_;obtain⟨t',u',he⟩:=ne.there;have f5:=RN
 repeat (any_goals (first | assumption | wp_step))
 exact hq h' tk' ne.keeps
end
theorem yN:plainId "dict.update.loop" = true:=by decide +kernel
theorem EJ:entryFor table "dict.update.loop" = some Builtin.«dict.update.loop»:=entryFor_of_tree (by kernel_rfl)
section
variable{prog:Program}{w:World}{A:Around}{E:Value->Shared->Prop}
abbrev tkd(prog:Program)(w:World):=tupleKind (kE prog w)
def PairAt(prog:Program)(w:World)(h:Heap)(v:Value)(x:List Key×Addr×Value):Prop:=∃r,v=.ref r/\IsTup h r #[.ref x.2.1,x.2.2]/\(tkd prog w).is h x.1 x.2.1
theorem PairAt.keep{h h':Heap}{v:Value}{x:List Key×Addr×Value}(p:PairAt prog w h v x)(k:∀b u,h.get? b=some u->h'.get? b=some u):PairAt prog w h' v x:=by
 obtain⟨r,e,⟨o,h1,h2⟩,q,its,n,h3,h4⟩:=p;exact⟨r,e,⟨o,k _ _ h1,h2⟩,q,its,n,k _ _ h3,h4⟩
def XJ(xs ps:List (List Key×Addr×Value)):List (List Key×Addr×Value):=ps.foldl (λacc x=>storedH acc x.1 x.2.1 x.2.2) xs
theorem WB{h h':Heap}{d it t:Addr}{i:Nat}{xs:List (List Key×Addr×Value)}(D:h.DictOfH (tkd prog w) d xs)(I:h.IsTupleIter it t i)(hdi:d≠it)(k:∀b u,b≠it->h.get? b=some u->h'.get? b=some u):h'.DictOfH (tkd prog w) d xs:=by
 obtain⟨o,es,ep,h1,h2,h3,h4,h5,h6⟩:=D;refine⟨o,es,ep,k _ _ hdi h1,h2,h3,h4,λx hx=>?_,h6⟩;obtain⟨q,its,n,g1,g2,g3⟩:=h5 x hx;refine⟨q,its,n,k _ _ (λe=>?_) g1,g2,g3⟩;obtain⟨u,u1,u2,_⟩:=I;rw[e,u1]at g1;cases g1;rw[u2]at g2;exact absurd g2 (by decide)
theorem LB(xs:List (List Key×Addr×Value))(k:List Key)(a:Addr)(v:Value):(storedH xs k a v).length<=xs.length+1:=by
 unfold storedH;split<;>simp
theorem QR{Q:Shared->Prop}{h0:Heap}{d it t:Addr}{items:Array Value}(hh:A.handled=none)(hu:A.units+1<cLine)(hd:h0.objs.size<=d)(hi:h0.objs.size<=it)(hdi:d≠it)(ht:h0.IsTuple t items) :
  ∀(ps xs:List (List Key×Addr×Value)) (i:Nat) (tk:Tok) (s:Shared),(∀j,Option.Rel (PairAt prog w h0) items[i+j]? ps[j]?)->xs.length+ps.length<=sizeLine->(∀b u,h0.get? b=some u->s.heap.get? b=some u)->s.heap.DictOfH (tkd prog w) d xs->s.heap.IsTupleIter it t i->
   (∀h' tk',(∀b u,h0.get? b=some u->h'.get? b=some u)->h'.DictOfH (tkd prog w) d (XJ xs ps)->Q { s with heap:=h',toks:=tk' })->
   codeAny (model prog w) A (.builtin "dict.update.loop" ⟨[.ref d,.ref it,.int i tk,.none],[]⟩) (wants (λr s₂=>r=.none/\Q s₂) E) s:=by
 intro ps;induction ps with
 | nil=>
  intro xs i tk s hp hz hk hD hI q;have hn:items[i]? = none:=by have:=hp 0;revert this;rw[Nat.add_zero];cases items[i]? <;>intro z<;>cases z;rfl
  refine codeAny_builtin EJ ?_;rw[Around.under_plainId yN _];have ht':s.heap.IsTuple t items:=let ⟨o,ho,r⟩:=ht;⟨o,hk _ _ ho,r⟩;unfold Builtin.«dict.update.loop»;refine nC (wpAny_pyNext_tuple_end (A:=A.in1) hh hI ht' hn λh' hx=>?_);refine nE ⟨rfl,q h' s.toks ?_ ?_⟩
  ·exact λb u e=>hx b u (mO (gG (mM e) hi)) (hk b u e)
  ·exact WB hD hI hdi λb u hb e=>hx b u hb e
 | cons p ps ih=>
  intro xs i tk s hp hz hk hD hI q;have hp0:=hp 0;rw[Nat.add_zero]at hp0;obtain⟨v,hv,pa⟩:∃v,items[i]? = some v/\PairAt prog w h0 v p:=by
   revert hp0;cases items[i]? with
   | none=>intro z;cases z
   | some v=>intro z;cases z with | some y=>exact⟨v,rfl,y⟩
  refine codeAny_builtin EJ ?_;rw[Around.under_plainId yN _];have ht':s.heap.IsTuple t items:=let ⟨o,ho,r⟩:=ht;⟨o,hk _ _ ho,r⟩;unfold Builtin.«dict.update.loop»;refine nC (wpAny_pyNext_tuple_item (A:=A.in1) hI ht' hv λh' hI' hs=>?_);have k1:∀b u,h0.get? b=some u->h'.get? b=some u:=λb u e=>(hs.2 b (mO (gG (mM e) hi))).trans (hk b u e);have D1:=WB hD hI hdi λb u hb e=>(hs.2 b hb).trans e;obtain⟨r,rfl,tp,ky⟩:=pa.keep k1;obtain⟨o,ho,hc,n,hdt⟩:=id tp;have hT:(⟨h',s.gens,s.drawn,s.toks,s.os⟩:Shared).TypeIs (.ref r) "tuple":=⟨o,ho,hc⟩;unfold Builtin.Dict.pairItems;dsimp only;refine nC (wpAny_holding (nC (wpAny_tryCatch (nC (wpAny_typeOf hT ?_)))));rw[nH (by decide)];unfold seqItems?;refine nC (nC (wpAny_load ho ?_));rw[hdt];refine nE ?_;refine nE (wpAny_holding ?_);refine wpAny_dictSet_heap (hsz:=by simp only[gX]at hz;omega) (knd:=tkd prog w) (tupleKind_room_in1 hu) ky D1 λh2 D2 hs2=>?_;have nt:t≠d:=λe=>by obtain⟨u,hu,_⟩:=ht;exact absurd (mM hu) (by rw[e];exact Nat.not_lt.mpr hd)
  refine nE ⟨plainId_quiet yN _, ?_⟩;refine ih (storedH xs p.1 p.2.1 p.2.2) (i+1) 0 _ (λj=>?_) ?_ (λb u e=>?_) D2 ?_ λh3 tk3 k3 D3=>?_
  ·have:=hp (j+1);rw[List.getElem?_cons_succ]at this;rw[show i+1+j=i+(j+1) by omega];exact this
  ·have:=LB xs p.1 p.2.1 p.2.2;simp only[gX]at hz;omega
  ·exact(hs2.2 b (mO (gG (mM e) hd))).trans (k1 b u e)
  ·obtain⟨u,u1,u2⟩:=hI';exact⟨u,(hs2.2 it (Ne.symm hdi)).trans u1,u2⟩
  ·exact q h3 tk3 k3 D3
end
section
variable{prog:Program}{w:World}{A:Around}{E:Value->Shared->Prop}{s:Shared}
theorem WA{t:Addr}{o:Obj}{items:Array Value}{n:Nat}{ps:List (List Key×Addr×Value)}{Q:Value->Shared->Prop}(hh:A.handled=none)(hu:A.units+2<cLine)(ho:s.heap.get? t=some o)(hc:o.cls=.type "tuple")(hd:o.dict=none)(hs:o.data=.seq items n)
  (hp:∀j:Nat,Option.Rel (PairAt prog w s.heap) items[j]? ps[j]?) (hz:ps.length<=sizeLine)
  (q:∀h' tk',(∀b u,s.heap.get? b=some u->h'.get? b=some u)->h'.DictOfH (tkd prog w) s.heap.objs.size (XJ [] ps)->Q (.ref s.heap.objs.size) { s with heap:=h',toks:=tk' }) :
  wpAny (model prog w) A (call (.type "dict") [.ref t]) Q E s:=by
 refine callType_codes (Q₁:=λobj s₁=>obj=.ref s.heap.objs.size/\s₁ = { s with heap:=s.heap.push { cls:=.type "dict",data:=.dict #[] } }) F.kt_called_dict (F.kt_typeCall_dict_1 _) F.entry_dict_init (kt_code_dict_new _ ⟨rfl,rfl⟩) ?_;rintro obj s₁ ⟨rfl,rfl⟩;have hT:(⟨s.heap.push { cls:=.type "dict",data:=.dict #[] },s.gens,s.drawn,s.toks,s.os⟩:Shared).TypeIs (.ref s.heap.objs.size) "dict":=⟨_,gC _ rfl,rfl⟩;have ho1:(s.heap.push { cls:=.type "dict",data:=.dict #[] }).get? t=some o:=uS _ ho;have hT1:(⟨s.heap.push { cls:=.type "dict",data:=.dict #[] },s.gens,s.drawn,s.toks,s.os⟩:Shared).TypeIs (.ref t) "tuple":=⟨_,ho1,hc⟩;refine⟨hT,F.args_dict_init_2 _ _, ?_⟩;unfold Builtin.«dict.__init__»;refine nC ?_;unfold Builtin.Dict.selfAndRest;refine nC (wpAny_notOrdered_dict hT ?_);show wpAny _ _ (pure (s.heap.objs.size,[Value.ref t])) _ _ _;refine nE ?_;show wpAny _ _ (Builtin.Dict.updateFrom "dict.__init__" s.heap.objs.size (.ref t) [] .none) _ _ _;unfold Builtin.Dict.updateFrom;refine nC (wpAny_typeOf hT1 ?_);rw[nH (by decide)];refine nC (QH ho1 hc hd n items hs hh λh2 tk2 k2=>?_);have kk:∀b u,s.heap.get? b=some u->h2.get? b=some u:=λb u e=>k2 b u (uS _ e);have hi2:h2.IsTuple t items:=⟨o,kk _ _ ho,hc,n,hs⟩;have hd2:h2.get? s.heap.objs.size=some { cls:=.type "dict",data:=.dict #[] } :=k2 _ _ (gC _ rfl);have lt2:s.heap.objs.size<h2.objs.size:=mM hd2;rw[nH (by decide)]
 refine nC (wpAny_rule (nC (wpAny_pyIter_tuple hi2 (nE ⟨plainId_quiet yN _, ?_⟩))));refine QR (A:=A.in1) (E:=E) (Q:=λs₂=>Q (.ref s.heap.objs.size) s₂) (h0:=s.heap) (items:=items) (t:=t) hh hu uJ (mT lt2) (mO lt2) ⟨o,ho,hc,n,hs⟩ ps [] 0 0 { s with heap:=h2.push { cls:=.type "tuple_iterator",data:=.fields #[.ref t,.int 0 0] },toks:=tk2 } (λj=>?_) (by simpa using hz) (λb u e=>?_) ?_ ?_ λh3 tk3 k3 D3=>q h3 tk3 k3 D3
 ·rw[Nat.zero_add];exact hp j
 ·exact uS _ (kk b u e)
 ·exact⟨_,#[],0,uS _ hd2,⟨rfl,rfl,rfl⟩,rfl,rfl,(λx hx=>nomatch hx),mF⟩
 ·exact⟨_,gC _ rfl,rfl,rfl⟩
end
section
variable{X:Cx}
def PairsIn(H:Hp)(ys:List V)(ag:List (List Key×V)):Prop:=Paired (λ(y:V) (p:List Key×V)=>∃r b,y=.ref r/\Rd H r (.tup [.ref b,p.2])/\H b=some (.tup (p.1.map kV))) ys ag
theorem IV:∀(ps xs:List (List Key×Addr×Value)),((xs++ps).map (·.1)).Nodup->XJ xs ps=xs++ps
 | [],xs,_=>(List.append_nil xs).symm
 | p::ps,xs,h=>by
  have hn:atKey xs p.1=none:=by
   refine atKey_none_of_get λj q e=>?_;rw[hV,mH]at h;exact(List.nodup_append.mp h).2.2 p.1 (mP.mpr ⟨_,uW e,rfl⟩) p.1 (gJ ..) rfl
  show XJ (storedH xs p.1 p.2.1 p.2.2) ps=_;rw[storedH_new hn,IV ps _ (by rw[List.append_assoc];exact h),List.append_assoc]
  rfl
end
section
variable{prog:Program}{w:World}{A:Around}{E:Value->Shared->Prop}{s:Shared}
end
section
variable{X:Cx}
end
structure PwS(aa:Nat)(ns:List Int):Prop where
 len:ns.length=aa
 nn:∀n∈ns,0<=n
 deg:ns.sum<=8
section
variable{X:Cx}
end
section
variable{prog:Program}{w:World}{A:Around}{E:Value->Shared->Prop}{s:Shared}
end
section
variable{X:Cx}
end
section
variable{prog:Program}{w:World}{A:Around}{E:Value->Shared->Prop}{s:Shared}{d it:Addr}{es:Array DictEntry}{ep i:Nat}
end
section
variable{X:Cx}
end
end LwD
namespace Lw
open PySem PySem.Spec PyProof.Rows L2
section
variable{X:Cx}
end
section
variable{X:Cx}
theorem DJ{i:Nat}{y:Str}{py spos:Pos}(hN:X.N.Nodup)(hi:X.N[i]? = some y)(hx:Loc X.env.scope y){own:Nat}{idx:List Nat}{N:List Str}{elt target iter:Expr}{scope:Scope}{cl:List (Str×Addr)}{pos:Pos}{wi:TI}{g:TG}{te:TE}(hc:X.calm=true)
  (hk:scope.kind=.function) (hclos:closureFor scope X.env=pure cl) (hcell:∀x∈scope.names,x.2≠.cell) (hnames:∀x∈scope.names,x.2=.local->scope.names.lookup x.1=some .local)
  (hsub:∀x c,cl.lookup x=some c->X.env.cells.lookup x=some c) (hhas:∀x,((relabel scope X.env).names.lookup x=some .cell∨(relabel scope X.env).names.lookup x=some .free)->∃c,cl.lookup x=some c)
  (hlen:N.length=own+idx.length)
  (hidx:∀(k j:Nat) (x:Str),idx[k]? = some j->N[own+k]? = some x->X.N[j]? = some x/\X.env.kindOf x=some .cell/\(relabel scope X.env).names.lookup x=some .cell/\X.env.scope.names.lookup x=some .cell)
  (hit:PI X target iter wi) (hg:∀C fp s2 H2,PG (jN X N scope cl C fp s2 H2) target g) (he:∀C fp s2 H2,PE (jN X N scope cl C fp s2 H2) elt te)
  (hsw:swapsWith (.ListComp elt [⟨target,iter,[],0⟩] scope pos) (some (.Name y py)) spos.line X.env=pure true:=by rfl)
  (hs:∀x,foldedSetIterable iter X.env x=pure x:=by intro _;rfl) (hfn:X.fn y=true∨X.env.scope.names.lookup y=some .local:=by first | exact .inl rfl | exact .inr rfl | assumption):PS X (.Assign [.Name y py] (.ListComp elt [⟨target,iter,[],0⟩] scope pos) spos) (LA (RV own idx wi g te) (jS i)):=by
 intro ac s σ H D I h;rw[exec_Assign_Name_used _ _ _ _ hsw];refine nC (wpAny_standAt (nC ?_));show wpAny _ X.A (do let _<-comprehension (.ListComp elt [⟨target,iter,[],0⟩] scope pos) scope X.env _ (newList []) false (eval iter X.env) (some (assign (.Name y py) X.env))) _ _ s;exact nC (nF (yG ⟨hk,hclos,hcell,hnames,hsub,hhas,hlen,hidx⟩ hc I hit h rfl hs (data:=.seq ([]:List Value).toArray) (mX _) rfl HR (B:=BF X target elt) (λV=>yR V) codeAny_compStart_list (cgoF hg he) (LP hN hi hx hfn)) (λ_ s' hq=>nE (nE hq)) λ_ _ e=>e)
end
section
variable{prog:Program}{w:World}{A:Around}{R:Result->Shared->Prop}{s:Shared}
theorem KE{elt target iter c:Expr}{scope:Scope}{pos:Pos}{it acc:Value}{env:Env}(I:Nat->Shared->Prop)
  (turn:∀n s,I n s->wpAny (model prog w) A (pyNext it) (λr s₁=>match r with
   | none=>R (.ok .next) s₁
   | some v=>wpAny (model prog w) A (letOwnedTupleGo target it v) (λ_ s₁'=>wpAny (model prog w) A (assign target env v) (λ_ s₂=>wpAny (model prog w) A (isTrue c env (eval c env)) (λb s₂'=>if b=true then wpAny (model prog w) A (eval elt env) (λx s₃=>
     wpAny (model prog w) A (call (.builtin "list.append") [acc,x]) (λ_ s₄=>∃m,m<n/\I m s₄) (notedBy (model prog w) A env λe s'=>R (.error e) s') s₃)
     (notedBy (model prog w) A env λe s'=>R (.error e) s') s₂' else ∃m,m<n/\I m s₂') (notedBy (model prog w) A env λe s'=>R (.error e) s') s₂) (notedBy (model prog w) A env λe s'=>R (.error e) s') s₁') (notedBy (model prog w) A env λe s'=>R (.error e) s') s₁) (notedBy (model prog w) A env λe s'=>R (.error e) s') s)
  (n:Nat) (h:I n s) :
  codeAny (model prog w) A (.compLoop (.ListComp elt [⟨target,iter,[c],0⟩] scope pos) 0 it acc env) R s:=by
 refine codeAny_loop rfl I (λn s hI=>?_) n h;show wpAny _ _ ((compTurn (.ListComp elt [⟨target,iter,[c],0⟩] scope pos) 0 it acc env).onRaise (λx=>do noteFrame x env;theTreesLotGoes x)) _ _ s;refine wpAny_noted ?_;rw[compTurn_list];refine nC (wpAny_standAt (nC (nF (turn n s hI) (λr s₁ h₁=>?_) λ_ _ h'=>h')));cases r with
 | none=>exact nE h₁
 | some v=>
  refine nC (nF h₁ (λ_ s₁' h₁'=>?_) λ_ _ h'=>h');refine nC (nF h₁' (λ_ s₂ h₂=>?_) λ_ _ h'=>h');refine nC ?_;rw[List.forIn_cons];dsimp only;rw[nH rfl];refine nC (nC (nF h₂ (λb s₂' hb=>nE ?_) λ_ _ h'=>h'));dsimp only;rw[List.forIn_nil];refine nE ?_;cases b with
  | true=>
   rw[nH rfl]at hb ⊢;refine nC ?_;exact(nC (nF hb (λx s₃ h₃=>nC (nF h₃
    (λ_ s₄ h₄=>nE (nE ⟨rfl,h₄⟩)) λ_ _ h'=>h')) λ_ _ h'=>h'))
  | false=>
   rw[nG gF]at hb ⊢;exact nE ⟨rfl,hb⟩
end
section
variable{X:Cx}
end
end Lw
namespace LwD
open PySem PySem.Spec PyProof.Rows L2 Lw
section
variable{prog:Program}{w:World}{A:Around}{E:Value->Shared->Prop}{s:Shared}
end
section
variable{X:Cx}
end
section
variable{X:Cx}{k v:Expr}{tk tv:TE}{pos:Pos}
end
end LwD
namespace L2
open PySem PySem.Spec PyProof.Rows
def Itel(K:nI)(a:Addr):It:=
 ⟨λi H=>∃xs x,SqL K H a xs/\xs[i]? = some x,
  λi H v H'=>∃p x,H p=none/\v=.ref p/\H'=upd H p (.tup [.int i,x])/\(∀xs,SqL K H a xs->xs[i]? = some x),
  λi H=>∃xs,SqL K H a xs/\xs.length<=i⟩
theorem KS{P:Program}{w:World}{K:nI}{es:List Expr}{x1}{pos:Pos}(l:Addr){e it:Addr}(hne:e≠it):Turn P w K (.Tuple es x1 pos) (Itel K l) [e,it] e (λi h=>(∃old,IsEnum h e it i old)/\h.IsListIter it l i) where
 mem:=by simp
 obj:=λi h Z b hb=>by
  simp only[mI,gU,or_false]at hb;obtain⟨⟨old,he⟩,⟨o1,g1,c1,d1⟩⟩:=Z;rcases hb with rfl | rfl
  ·exact⟨_,he,λv q=>by cases (show Data.fields _=Data.cell v from q)⟩
  ·exact⟨_,g1,λv q=>by rw[d1]at q;cases q⟩
 keep:=λi h h' Z k=>by
  obtain⟨⟨old,he⟩,s1⟩:=Z;exact⟨⟨old,k e (by simp) _ he⟩,Heap.IsListIter.at s1 λo y=>k it (by simp) o y⟩
 item:=by
  intro X hP hw hK hc i ac s σ H E I hf Z hg;subst hP hw hK;obtain⟨xs,x,q1,hx⟩:=hg;obtain⟨its1,r1,p1,_⟩:=I.list q1;obtain⟨u1,hu1,ru1⟩:=r1.get hx;obtain⟨⟨old,he⟩,hit⟩:=id Z;have ae:l≠e:=FpOk.apartL I (hf e (by simp)) q1;have ai:l≠it:=FpOk.apartL I (hf it (by simp)) q1;refine wpAny_pyNext_enum_item he hit p1.isList (x:=u1) (by simpa using hu1) hne λg out n1 nu _ kk=>⟨_,rfl, ?_⟩;refine wpAny_letOwnedTupleGo_enum out λg2 z2 sb=>?_;have fr:H s.heap.objs.size=none:=I.hok.fresh uJ ;have el:e<s.heap.objs.size:=mM he;have il:it<s.heap.objs.size:=by obtain⟨_,y,_⟩:=hit;exact mM y
  have fp:∀b∈[e,it],FpOk X ac (upd H s.heap.objs.size (.tup [.int i,x])) b:=λb hb=>by
   have lt:b≠s.heap.objs.size:=by
    simp only[mI,gU,or_false]at hb;rcases hb with rfl | rfl
    ·exact mO el
    ·exact mO il
   exact⟨by rw[jL lt];exact(hf b hb).1,(hf b hb).2⟩
  have I1:Inv X ac σ (upd H s.heap.objs.size (.tup [.int i,x])) { s with heap:=s.heap.push { cls:=.type "tuple",data:=.seq #[.int i s.toks,u1] } } :=I.laid (t':=s.toks) (λb u e=>uS _ e) uJ ⟨by simp [sizeLine],[.int i s.toks,u1],.cons ⟨_,rfl⟩ (.cons ru1 .nil),⟨_,gC _ rfl,rfl,_,rfl⟩,.of (gC _ rfl) rfl⟩;have up:∀c o,c≠e->g.get? c=some o->g2.get? c=some o:=λc o cz y=>sb.extBut _ _ cz y;have I2:Inv X ac σ (upd H s.heap.objs.size (.tup [.int i,x])) { s with heap:=g2,toks:=s.toks+1 } :=by
   refine Inv.turnedL (s:={ s with heap:=s.heap.push { cls:=.type "tuple",data:=.seq #[.int i s.toks,u1] } }) (h':=g2) (t':=s.toks+1) I1 fp λb o hb y=>?_;simp only[mI,gU,or_false,not_or]at hb;rcases Heap.get?_push_cases y with⟨e1,e2⟩ | e1
   ·rw[e1,e2];exact up _ _ (Nat.ne_of_gt el) nu
   ·exact up _ _ hb.1 (kk b o hb.1 hb.2 e1)
  exact⟨.ref s.heap.objs.size,_,I2,rfl,⟨_,x,fr,rfl,rfl,λxs' h=>by rw[I.list_inj h q1];exact hx⟩,⟨⟨_,by simpa using z2⟩,Heap.IsListIter.at n1 λo y=>up _ o (Ne.symm hne) y⟩,λb hb=>(fp b hb).1⟩
 done:=by
  intro X hP hw hK hc i ac s σ H E I hf Z hg;subst hP hw hK;obtain⟨xs,q1,hl⟩:=hg;obtain⟨its1,r1,p1,_⟩:=I.list q1;obtain⟨⟨old,he⟩,hit⟩:=id Z;have e1:=r1.length;refine wpAny_pyNext_enum_end (I.ok.hd hc) he hit p1.isList (by simp;omega) λg eb=>⟨rfl,Inv.turnedL (t':=s.toks) I hf λb o hb y=>eb b o (λz=>hb (by simp [z])) y⟩
 self:=λ_ _ _ _ _ Z h=>by
  obtain⟨⟨old,he⟩,_⟩:=Z;exact wpAny_pyIter_enum he h
section
variable{X:Cx}
def iEnumL(K:nI)(ta:TA):TI:=fun σ H R=>ta σ H λvs H1=>∃a,vs=[.ref a]/\(∃xs,SqL K H1 a xs)/\R (Itel K a) H1
theorem DZ{es:List Expr}{x1}{tp:Pos}{a:Expr}{ta:TA}{p pos:Pos}(hg:Gl X "enumerate")(hm:X.mg "enumerate" = none)(ha:PA X [a] ta)(hs:starEach [a] X.env=[(false,eval a X.env)]:=by rfl) :
  PI X (.Tuple es x1 tp) (.Call (.Name "enumerate" p) [a] [] pos) (iEnumL X.K ta):=by
 intro ac s σ H R I h;refine Call_ (xZ I hg hm (show bootBuiltins "enumerate" = some (.type "enumerate") by decide +kernel) (PyProof.Rows.callWith_type1 (thn (ha pos ac s σ H _ I h) λus s1 ⟨vs,H1,I1,r1,q1⟩=>?_) hs rfl));obtain⟨l1,e,⟨xs,q1⟩,q⟩:=q1;subst e;obtain⟨u,rfl,ru⟩:=xG r1;cases ru;obtain⟨its1,_,p1,_⟩:=I1.list q1;refine call_enumerate_list p1.isList λg he hit _ k=>wpAny_pyIter_enum he ?_;refine⟨_,[s1.heap.objs.size+1,s1.heap.objs.size],_,_,H1,rfl,I1.kept (t':=s1.toks) k,KS l1 (Nat.ne_of_gt (hJ _)),⟨⟨_,he⟩,hit⟩,λb hb=>?_,q⟩;have hb':s1.heap.objs.size<=b:=by
  simp only[mI,gU,or_false]at hb;rcases hb with rfl | rfl<;>first | exact Nat.le_add_right _ _ | exact mW _
 exact I1.fpOk hb' (I1.hok.fresh hb')
end
theorem FR{K:nI}{a:Addr}{xs:List V}{g:TG}{tb:TS}{D:Ends}{σ:St}{H:Hp}(Pv:Nat->St->Hp->Prop)(h0:Pv 0 σ H)(hl:∀i σ H,i<=xs.length->Pv i σ H->SqL K H a xs)
  (hs:∀i x p σ H,xs[i]? = some x->H p=none->Pv i σ H->g (.ref p) σ (upd H p (.tup [.int i,x])) fun σ2 H2=>tb { D with nx:=Pv (i+1),ct:=Pv (i+1),bk:=D.nx } σ2 H2) (hd:∀σ H,Pv xs.length σ H->D.nx σ H) :
  ∃W:Nat->Nat->St->Hp->Prop,(∃m,W 0 m σ H)/\∀i m σ H,W i m σ H->
   ((Itel K a).stop i H/\D.nx σ H)∨((Itel K a).go i H/\∃N:St->Hp->Prop,(∀σ' H',N σ' H'->∃m',m'<m/\W (i+1) m' σ' H')/\∀x H',(Itel K a).yld i H x H'->g x σ H' fun σ2 H2=>tb { D with nx:=N,ct:=N,bk:=D.nx } σ2 H2):=by
 refine⟨λi m σ H=>m=xs.length-i/\i<=xs.length/\Pv i σ H,⟨xs.length,by simp,mX _,h0⟩, ?_⟩;rintro i m σ H ⟨rfl,hi,p⟩;have q:=hl i σ H hi p;by_cases hlt:i<xs.length
 ·refine .inr ⟨⟨xs,xs[i],q,by simp [hlt]⟩,Pv (i+1),fun σ' H' p'=>⟨xs.length-(i+1),by omega,rfl,hlt,p'⟩,λv H' y=>?_⟩;obtain⟨r,x,hr,rfl,rfl,hx⟩:=y;exact hs i x r σ H (hx xs q) hr p
 ·have ei:i=xs.length:=by omega
  subst ei;exact .inl ⟨⟨xs,q,mW _⟩,hd σ H p⟩
end L2
namespace Lw
open PySem PySem.Spec PyProof.Rows L2
theorem VL{κ:Type}{ag:List (κ×V)}{vs:List (κ×Value)}(r:KV ag vs){i:Nat}{k:κ}{x:V}(h:ag[i]? = some (k,x)):∃u,vs[i]? = some (k,u)/\RelV x u:=by
 unfold KV at r;induction r generalizing i with
 | nil=>simp at h
 | cons p t ih=>
  cases i with
  | zero=>
   cases (Option.some.inj h);rename_i b bs _;exact⟨b.2,by have e:k=b.1:=p.1;show some b=some (k,b.2);rw[e],p.2⟩
  | succ i=>exact ih (i:=i) h
theorem NC{P:Program}{w:World}{k:Key}{u:Value}(h:(kE P w).is k u=true):RelV (kV k) u:=by
 rcases kX (show EO k u=true from h)with⟨i,t,rfl,rfl⟩ | ⟨x,t,rfl,rfl⟩
 ·exact⟨t,rfl⟩
 ·exact⟨t,rfl⟩
def Iti(d:Addr)(o:Obj)(ag:List (Key×V)):It:=
 ⟨λi H=>H d=some (.frz o (.dK ag))/\i<ag.length,
  λi H v H'=>∃p k x,H p=none/\v=.ref p/\ag[i]? = some (k,x)/\H'=upd H p (.tup [kV k,x]),
  λi H=>H d=some (.frz o (.dK ag))/\i=ag.length⟩
theorem KP{P:Program}{w:World}{K:nI}{es:List Expr}{x1}{pos:Pos}(d it:Addr){o:Obj}{ens:Array DictEntry}{ep:Nat}{ag:List (Key×V)}(ho:o.data=.dict ens ep):Turn P w K (.Tuple es x1 pos) (Iti d o ag) [it] it (λi h=>∃ok ov,IsItemIter h it d i ag.length ep ok ov) where
 mem:=by simp
 obj:=λi h st b hb=>by
  have e:b=it:=by simpa using hb
  subst e;obtain⟨ok,ov,st⟩:=st;exact⟨_,st,λv q=>by cases (show Data.fields _=Data.cell v from q)⟩
 keep:=λi h h' st k=>by
  obtain⟨ok,ov,st⟩:=st;exact⟨ok,ov,k it (by simp) _ st⟩
 item:=by
  intro X hP hw hK hc i ac s σ H E I hf st hg;subst hP hw hK;obtain⟨hd,hi⟩:=hg;obtain⟨go,ob⟩:=I.hok d _ hd;obtain⟨z,lo,vs,rel,o',es',ep',g',xo,hdat,hk,hp,hn⟩:=(show ObjOk X.prog X.w H s.heap d (.dK ag)from ob);rw[go]at g';cases g';rw[ho]at hdat;cases hdat;have hlen:vs.length=ag.length:=rel.length.symm;have at':s.heap.DictAt (kE X.prog X.w) d vs ep:=⟨o,ens,go,xo,ho,hk,hp,hn⟩;obtain⟨⟨k,x⟩,hkx⟩:∃kx,ag[i]? = some kx:=⟨ag[i],by simp [hi]⟩;obtain⟨u,hu,ru⟩:=VL rel hkx;obtain⟨ok,ov,st⟩:=st;rw[<-hlen]at st;refine wpAny_pyNext_items_item st at' hu λkey g hkey out new _ kk=>⟨_,rfl, ?_⟩;refine wpAny_letOwnedTupleGo_items out λg2 z2 sb=>?_;have il:it<s.heap.objs.size:=mM st;have fr:H s.heap.objs.size=none:=I.hok.fresh uJ ;have fp:∀b∈[it],FpOk X ac (upd H s.heap.objs.size (.tup [kV k,x])) b:=λb hb=>by
   have e:b=it:=by simpa using hb
   subst e;exact⟨by rw[jL (mO il)];exact(hf b hb).1,(hf b hb).2⟩
  have I1:Inv X ac σ (upd H s.heap.objs.size (.tup [kV k,x])) { s with heap:=s.heap.push { cls:=.type "tuple",data:=.seq #[key,u] } } :=I.laid (t':=s.toks) (λb u e=>uS _ e) uJ ⟨by simp [sizeLine],[key,u],.cons (NC hkey) (.cons ru .nil),⟨_,gC _ rfl,rfl,_,rfl⟩,.of (gC _ rfl) rfl⟩;have I2:Inv X ac σ (upd H s.heap.objs.size (.tup [kV k,x])) { s with heap:=g2 } :=by
   refine Inv.turnedL (s:={ s with heap:=s.heap.push { cls:=.type "tuple",data:=.seq #[key,u] } }) (h':=g2) (t':=s.toks) I1 fp λb o hb y=>?_;have hb:b≠it:=λz=>hb (by simp [z]);rcases Heap.get?_push_cases y with⟨e1,e2⟩ | e1
   ·rw[e1,e2];exact sb.extBut _ _ (Nat.ne_of_gt il) new
   ·exact sb.extBut _ _ hb (kk b o hb e1)
  rw[hlen]at z2;exact⟨.ref s.heap.objs.size,_,I2,rfl,⟨_,k,x,fr,rfl,hkx,rfl⟩,⟨_,_,z2⟩,λb hb=>(fp b hb).1⟩
 done:=by
  intro X hP hw hK hc i ac s σ H E I hf st hg;subst hP hw hK;obtain⟨hd,hi⟩:=hg;obtain⟨go,ob⟩:=I.hok d _ hd;obtain⟨z,lo,vs,rel,o',es',ep',g',xo,hdat,hk,hp,hn⟩:=(show ObjOk X.prog X.w H s.heap d (.dK ag)from ob);rw[go]at g';cases g';rw[ho]at hdat;cases hdat;have hlen:vs.length=ag.length:=rel.length.symm;have at':s.heap.DictAt (kE X.prog X.w) d vs ep:=⟨o,ens,go,xo,ho,hk,hp,hn⟩;obtain⟨ok,ov,st⟩:=st;rw[<-hlen]at st;exact wpAny_pyNext_items_end (I.ok.hd hc) st at' (by rw[List.getElem?_eq_none];omega) λg eb=>⟨rfl,Inv.turnedL (t':=s.toks) I hf λb o hb y=>eb b o (λz=>hb (by simp [z])) y⟩
 self:=λ_ _ _ _ _ st h=>by
  obtain⟨ok,ov,st⟩:=st;exact PySem.W.kcp_self st h
section
variable{X:Cx}
theorem PJ{prog:Program}{w:World}{A:Around}{E:Value->Shared->Prop}{s:Shared}{d:Addr}{vs:List (Key×Value)}{Q:Value->Shared->Prop}(lo:(d==sysModules)=false)(hm:s.heap.DictOf (kE prog w) d vs)(q:Q (.ref s.heap.objs.size) { s with heap:=s.heap.push { cls:=.type "dict_items",data:=.fields #[.ref d] } }) :
  wpAny (model prog w) A (call (.builtin "dict.items") [.ref d]) Q E s:=
 call_meetsIn PySem.F.slot_dict_items hm.typeIs PySem.F.entry_dict_items (PySem.F.args_dict_items_1 _) (meets_dict_items (kE prog w) d lo) ⟨⟨vs,hm⟩,q⟩
def iItems(te:TE):TI:=fun σ H R=>te σ H λv H1=>∃d o ag,v=.ref d/\H1 d=some (.frz o (.dK ag))/\R (Iti d o ag) H1
theorem vY{es:List Expr}{x1}{tp:Pos}{o:Expr}{to:TE}{apos cpos:Pos}(ho:PE X o to)(hbase:attributeBase o "items" X.env (eval o X.env)=eval o X.env:=by rfl)(hline:(apos.endLine==cpos.line)=true:=by rfl) :
  PI X (.Tuple es x1 tp) (.Call (.Attribute o "items" apos) [] [] cpos) (iItems to):=by
 intro ac s σ H R I h;refine wpAny_Call_method0_late hbase hline (thn (ho ac s σ H _ I h) λv s1 ⟨x,H1,I1,r1,q1⟩=>?_);obtain⟨d,ob,ag,rfl,hd,q⟩:=q1;cases r1;obtain⟨go,ok⟩:=I1.hok d _ hd;obtain⟨z,lo,vs,rel,dd⟩:=(show ObjOk X.prog X.w H1 s1.heap d (.dK ag)from ok);obtain⟨o',es',ep,g',xo,hdat,hk,hp,hn⟩:=id dd;rw[go]at g';cases g';have hlen:vs.length=ag.length:=rel.length.symm;refine⟨"dict","dict.items",PySem.F.plainAttrs_dict,PySem.F.slot_dict_items,PySem.F.type_dict_items,⟨_,go,xo.1⟩,(λa e=>by cases e;exact⟨_,go,xo.2.1⟩),Calls.callWith_builtin rfl (PySem.evalArgs_none ?_)⟩;refine PJ lo dd ?_;have at1:(s1.heap.push { cls:=.type "dict_items",data:=.fields #[.ref d] }).DictAt (kE X.prog X.w) d vs ep:=⟨ob,es',uS _ go,xo,hdat,hk,hp,hn⟩;refine wpAny_pyIter_items (s:={ s1 with heap:=s1.heap.push { cls:=.type "dict_items",data:=.fields #[.ref d] } }) ⟨_,gC _ rfl,rfl,rfl⟩ at1 ?_;have psz:(s1.heap.push { cls:=.type "dict_items",data:=.fields #[.ref d] }).objs.size=s1.heap.objs.size+1:=mG ..;refine⟨_,[(s1.heap.push { cls:=.type "dict_items",data:=.fields #[.ref d] }).objs.size],_,_,H1,rfl,I1.kept (t':=s1.toks) λb o e=>uS _ (uS _ e),KP d _ hdat,⟨_,_,by rw[<-hlen];exact gC _ rfl⟩,λb hb=>?_,q⟩;have e:b=(s1.heap.push { cls:=.type "dict_items",data:=.fields #[.ref d] }).objs.size:=by simpa using hb
 have hb':s1.heap.objs.size<=b:=by rw[e,psz];exact Nat.le_succ _
 exact I1.fpOk hb' (I1.hok.fresh hb')
end
theorem zV{d:Addr}{o:Obj}{ag:List (Key×V)}{g:TG}{tb:TS}{D:Ends}{σ:L2.St}{H:Hp}(Pv:Nat->L2.St->Hp->Prop)(h0:Pv 0 σ H)(hl:∀i σ H,i<=ag.length->Pv i σ H->H d=some (.frz o (.dK ag)))
  (hs:∀i k x p σ H,ag[i]? = some (k,x)->H p=none->Pv i σ H->g (.ref p) σ (upd H p (.tup [kV k,x])) fun σ2 H2=>tb { D with nx:=Pv (i+1),ct:=Pv (i+1),bk:=D.nx } σ2 H2) (hd:∀σ H,Pv ag.length σ H->D.nx σ H) :
  ∃W:Nat->Nat->L2.St->Hp->Prop,(∃m,W 0 m σ H)/\∀i m σ H,W i m σ H->
   ((Iti d o ag).stop i H/\D.nx σ H)∨((Iti d o ag).go i H/\∃N:L2.St->Hp->Prop,(∀σ' H',N σ' H'->∃m',m'<m/\W (i+1) m' σ' H')/\∀x H',(Iti d o ag).yld i H x H'->g x σ H' fun σ2 H2=>tb { D with nx:=N,ct:=N,bk:=D.nx } σ2 H2):=by
 refine⟨λi m σ H=>m=ag.length-i/\i<=ag.length/\Pv i σ H,⟨ag.length,by simp,mX _,h0⟩, ?_⟩;rintro i m σ H ⟨rfl,hi,p⟩;have q:=hl i σ H hi p;by_cases hlt:i<ag.length
 ·refine .inr ⟨⟨q,hlt⟩,Pv (i+1),fun σ' H' p'=>⟨ag.length-(i+1),by omega,rfl,hlt,p'⟩,λv H' y=>?_⟩;obtain⟨r,k,x,hr,rfl,hx,rfl⟩:=y;exact hs i k x r σ H hx hr p
 ·have ei:i=ag.length:=by omega
  subst ei;exact .inl ⟨⟨q,rfl⟩,hd σ H p⟩
section
variable{X:Cx}{ac:List (Addr×Obj)}{σ:L2.St}{H:Hp}{s:Shared}
theorem Inv.freezeK{d:Addr}{ag:List (Key×V)}(I:Inv X ac σ H s)(e:H d=some (.dK ag)):∃o,Inv X ac σ (upd H d (.frz o (.dK ag))) s:=by
 have ob:ObjOk X.prog X.w H s.heap d (.dK ag):=I.hok d _ e;obtain⟨z,lo,xs,rel,o,es,ep,ho,r⟩:=id ob;refine⟨o, ?_⟩;have ne:∀{b:Addr} {u:HO},H b=some u->(∀k,u≠.dK k)->upd H d (.frz o (.dK ag)) b=some u:=fun {b u} q n=>by
  rw[jL (λy=>by rw[y,e]at q;cases q;exact n _ rfl)];exact q
 refine I.step (h':=s.heap) (g':=s.gens) (t':=s.toks) (d':=s.drawn) (ch:=[]) (λ_ y=>nomatch y) (λb u _ _ _ q _=>q) (λb u _ _ _ q _=>⟨u.slots,q⟩) (λb u _ _ q=>?_) (λb u _ q=>⟨u,q⟩) (λb xs q=>ne q λ_ y=>by cases y) (λb u v q=>ne q λ_ y=>by cases y)
  (λb ps q=>⟨#[],by rw[ne q λ_ y=>by cases y];simp⟩) (λm hm=>hm) ?_ I.bare
 ·rw[jL (λy=>by rw[y,e]at q;cases q)];exact q
 ·intro b u q;by_cases hb:b=d
  ·subst hb;rw[jI]at q;cases q;exact⟨ho,ob.stay (λc v _ q=>q) (λc q=>ne q λ_ y=>by cases y) λc xs q=>ne q λ_ y=>by cases y⟩
  ·rw[jL hb]at q;exact(I.hok b u q).stay (λc v _ q=>q) (λc q=>ne q λ_ y=>by cases y) λc xs q=>ne q λ_ y=>by cases y
end
section
variable{X:Cx}
def tFrzK(te:TE):TE:=fun σ H Q=>te σ H λv H1=>∃d ag,v=.ref d/\H1 d=some (.dK ag)/\∀o,Q v (upd H1 d (.frz o (.dK ag)))
theorem BU{e:Expr}{te:TE}(h:PE X e te):PE X e (tFrzK te):=by
 intro ac s σ H Q I hq;refine thn (h ac s σ H _ I hq) λu s1 ⟨x,H1,I1,r1,q1⟩=>?_;obtain⟨d,ag,rfl,hd,k⟩:=q1;obtain⟨o,I2⟩:=Inv.freezeK I1 hd;exact⟨.ref d,_,I2,r1,k o⟩
end
open LwD
section
variable{X:Cx}
def xK(ag:List (Key×V)):List Int:=ag.map λp=>match p.1 with | .inl i=>i | .inr _=>0
def rSortK:List V->Hp->VK->Prop:=λxs H Q=>∃(a:Addr) (ag:List (Key×V)),xs=[.ref a]/\Rd H a (.dK ag)/\ag.length<64/\(∀p∈ag,∃i:Int,p.1=.inl i)/\
 ∀ns:List Int,ns.Perm (xK ag)->ns.Pairwise (λx y=>x<=y)->New H (.lst (ns.map V.int)) Q
theorem PR{prog:Program}{w:World} :∀{es:List DictEntry} {vs:List (Key×Value)},Pairs (kE prog w) es vs->∀(j:Nat) (h:j<es.length),∃k u,vs[j]? = some (k,u)/\(kE prog w).is k es[j].key=true:=by
 intro es vs h;induction h with
 | nil=>intro j h;exact absurd h (Nat.not_lt_zero _)
 | cons h1 h2 t ih=>
  intro j hj;cases j with
  | zero=>exact⟨_,_,rfl,h1⟩
  | succ j=>exact ih j (by simpa using hj)
theorem CH:∀{xs:List V} {us:List Value},xs.length=us.length->(∀(j:Nat) (x:V) (u:Value),xs[j]? = some x->us[j]? = some u->RelV x u)->Vals xs us
 | [],[],_,_=>.nil
 | [],_::_,h,_=>by simp at h
 | _::_,[],h,_=>by simp at h
 | x::xs,u::us,h,f=>.cons (f 0 x u rfl rfl) (CH (by simpa using h) λj y v hy hv=>f (j+1) y v (by simpa using hy) (by simpa using hv))
theorem LX(hc:X.calm=true):CallR X (.builtin "sorted") rSortK:=by
 intro ac s σ H xs us Q I r h;obtain⟨a,ag,rfl,ha,h64,hk,q⟩:=h;obtain⟨u,rfl,ru⟩:=xG r;cases ru;obtain⟨z,lo,ks,rel,dd⟩:=EV I.hok ha;obtain⟨o,es,ep,hd1,hd2,hd3,he,hp,hn⟩:=id dd;have raw:Raw s.heap a es ep:=⟨o,hd1,hd2,hd3⟩;have esz:es.size=ag.length:=by rw[rel.length,<-hp.length];simp
 obtain⟨m,F⟩:=I.fr;refine PySem.W.kdu_sorted (XH lo) (I.ok.hd hc) F UT raw (by rw[esz];exact z) λD h' tk vs F' N' lt hlen hP=>?_;have vl:vs.length=ag.length:=by rw[hlen,esz]
 have kl:(xK ag).length=ag.length:=by unfold xK;rw[hU]
 have vv:Vals ((xK ag).map V.int) vs:=by
  refine CH (by rw[hU,kl,vl]) λj x u hx hu=>?_;obtain⟨hj,e⟩:=hP j u hu;have hj':j<es.toList.length:=by simpa using hj
  obtain⟨k,u',h1,h2⟩:=PR hp j hj';have jk:j<ag.length:=by rw[<-esz];exact hj
  obtain⟨u2,g1,_⟩:=VL rel (i:=j) (k:=ag[j].1) (x:=ag[j].2) (by rw[uR jk]);rw[h1]at g1;cases g1;obtain⟨i,hi⟩:=hk ag[j] (List.getElem_mem jk);have ex:x=.int i:=by
   unfold xK at hx;rw[List.map_map,gM,uR jk]at hx;have hx:=Option.some.inj hx;rw[<-hx];show V.int (match ag[j].1 with | .inl i=>i | .inr _=>0)=_;rw[hi]
  rw[hi]at h2;have r2:=NC h2;rw[ex,e];have r2:RelV (V.int i) (es.toList[j]).key:=r2;simpa using r2
 have ia:IntsAre vs (xK ag):=vD vv;have hd:∀q∈wB X.base s.heap X.env.locals,q.1≠D:=λq hq=>mO (lt q hq);refine PySem.W.ksk_lsort (its:=vs.toArray) (vs:=vs) (ns:=xK ag) F' N' (λo=>.head hd) (by simp) ia (by rw[kl];exact h64) λvs' ns' c h3 F3 N3 ia' hl hpm hpw _=>?_;have rv:Vals (ns'.map V.int) vs':=by
  have e1:=xA ia';refine CH (by rw[hU,e1]) λj x u hx hu=>?_;obtain⟨hj,e⟩:=uQ.mp hu;obtain⟨n,t,g1,g2⟩:=yF ia' hj;rw[gM,g1]at hx;cases hx;exact⟨t,by rw[<-e,g2]⟩
 have nb:=JJ (ho:=.lst (ns'.map V.int)) (tk:=tk) I F F3 N3 lt λe=>⟨by rw[hU,hl,kl];exact z,_,c,rv,e⟩;exact⟨.ref D,_,nb.2,rfl,(q ns' hpm hpw).at nb.1⟩
end
end Lw
namespace Lw
open PySem PySem.Spec PyProof.Rows L2
section
variable{X:Cx}
def tFrzB(te:TE):TE:=fun σ H Q=>te σ H λv H1=>∃d ag,v=.ref d/\Rd H1 d (.dK ag)/\∀(o:Obj) (H2:Hp),H2 d=some (.frz o (.dK ag))->But d H1 H2->(∀c,H2 c=none->H1 c=none)->Q v H2
theorem BV{e:Expr}{te:TE}(h:PE X e te):PE X e (tFrzB te):=by
 intro ac s σ H Q I hq;refine thn (h ac s σ H _ I hq) λu s1 ⟨v,H1,I1,r,d,ag,ev,rd,q⟩=>?_;rcases rd with e | ⟨o,e⟩
 ·obtain⟨o,I2⟩:=Inv.freezeK I1 e;refine⟨v,_,I2,r,q o _ jI (λc u h n=>by rw[jL n];exact h) λc n=>?_⟩;by_cases z:c=d
  ·rw[z,jI]at n;cases n
  ·rw[jL z]at n;exact n
 ·exact⟨v,H1,I1,r,q o H1 e (λ_ _ h _=>h) λ_ n=>n⟩
end
def Itw(d:Addr)(o:Obj)(ag:List (Key×V)):It:=
 ⟨λi H=>H d=some (.frz o (.dK ag))/\i<ag.length,
  λi H v H'=>H'=H/\∃k,ag[i]? = some (k,v),
  λi H=>H d=some (.frz o (.dK ag))/\i=ag.length⟩
theorem OW{P:Program}{w:World}{K:nI}{tg:Expr}(d it:Addr){o:Obj}{ens:Array DictEntry}{ep:Nat}{ag:List (Key×V)}(ho:o.data=.dict ens ep):Turn P w K tg (Itw d o ag) [it] it (λi h=>h.IsValIter it d i ag.length ep) where
 mem:=by simp
 obj:=λi h st b hb=>by
  have e:b=it:=by simpa using hb
  subst e;obtain⟨o,e,_,dd⟩:=st;exact⟨_,e,λv q=>by rw[dd]at q;cases q⟩
 keep:=λi h h' st k=>st.at λo e=>k it (by simp) o e
 item:=by
  intro X hP hw hK hc i ac s σ H E I hf st hg;subst hP hw hK;obtain⟨hd,hi⟩:=hg;obtain⟨go,ob⟩:=I.hok d _ hd;obtain⟨z,lo,vs,rel,o',es',ep',g',xo,hdat,hk,hp,hn⟩:=(show ObjOk X.prog X.w H s.heap d (.dK ag)from ob);rw[go]at g';cases g';rw[ho]at hdat;cases hdat;have hlen:vs.length=ag.length:=rel.length.symm;have at':s.heap.DictAt (kE X.prog X.w) d vs ep:=⟨o,ens,go,xo,ho,hk,hp,hn⟩;obtain⟨⟨k,x⟩,hkx⟩:∃kx,ag[i]? = some kx:=⟨ag[i],by simp [hi]⟩;obtain⟨u,hu,ru⟩:=VL rel hkx;rw[<-hlen]at st;refine wpAny_pyNext_values_item st at' hu λh' st' sb=>⟨_,rfl, ?_⟩;obtain⟨o9,e9,c9,d9⟩:=id st';refine JS (s:={ s with heap:=h' }) e9 c9 d9 (by decide) ?_;rw[hlen]at st';exact⟨x,H,Inv.turnedL (t':=s.toks) I hf λb o hb y=>sb.extBut b o (λz=>hb (by simp [z])) y,ru,⟨rfl,k,hkx⟩,st',λb hb=>(hf b hb).1⟩
 done:=by
  intro X hP hw hK hc i ac s σ H E I hf st hg;subst hP hw hK;obtain⟨hd,hi⟩:=hg;obtain⟨go,ob⟩:=I.hok d _ hd;obtain⟨z,lo,vs,rel,o',es',ep',g',xo,hdat,hk,hp,hn⟩:=(show ObjOk X.prog X.w H s.heap d (.dK ag)from ob);rw[go]at g';cases g';rw[ho]at hdat;cases hdat;have hlen:vs.length=ag.length:=rel.length.symm;have at':s.heap.DictAt (kE X.prog X.w) d vs ep:=⟨o,ens,go,xo,ho,hk,hp,hn⟩;rw[<-hlen]at st;exact wpAny_pyNext_values_end (I.ok.hd hc) st at' (by rw[List.getElem?_eq_none];omega) λg eb=>⟨rfl,Inv.turnedL (t':=s.toks) I hf λb o hb y=>eb b o (λz=>hb (by simp [z])) y⟩
 self:=λ_ _ _ _ _ st h=>wpAny_pyIter_valiter st h
section
variable{X:Cx}
theorem PH{prog:Program}{w:World}{A:Around}{E:Value->Shared->Prop}{s:Shared}{d:Addr}{vs:List (Key×Value)}{Q:Value->Shared->Prop}(lo:(d==sysModules)=false)(hm:s.heap.DictOf (kE prog w) d vs)(q:Q (.ref s.heap.objs.size) { s with heap:=s.heap.push { cls:=.type "dict_values",data:=.fields #[.ref d] } }) :
  wpAny (model prog w) A (call (.builtin "dict.values") [.ref d]) Q E s:=
 call_meetsIn PySem.F.slot_dict_values hm.typeIs PySem.F.entry_dict_values (PySem.F.args_dict_values_1 _) (meets_dict_values (kE prog w) d lo) ⟨⟨vs,hm⟩,q⟩
def iVals(te:TE):TI:=fun σ H R=>te σ H λv H1=>∃d o ag,v=.ref d/\H1 d=some (.frz o (.dK ag))/\R (Itw d o ag) H1
theorem XU{tg:Expr}{o:Expr}{to:TE}{apos cpos:Pos}(ho:PE X o to)(hbase:attributeBase o "values" X.env (eval o X.env)=eval o X.env:=by rfl)(hline:(apos.endLine==cpos.line)=true:=by rfl) :
  PI X tg (.Call (.Attribute o "values" apos) [] [] cpos) (iVals to):=by
 intro ac s σ H R I h;refine wpAny_Call_method0_late hbase hline (thn (ho ac s σ H _ I h) λv s1 ⟨x,H1,I1,r1,q1⟩=>?_);obtain⟨d,ob,ag,rfl,hd,q⟩:=q1;cases r1;obtain⟨go,ok⟩:=I1.hok d _ hd;obtain⟨z,lo,vs,rel,dd⟩:=(show ObjOk X.prog X.w H1 s1.heap d (.dK ag)from ok);obtain⟨o',es',ep,g',xo,hdat,hk,hp,hn⟩:=id dd;rw[go]at g';cases g';have hlen:vs.length=ag.length:=rel.length.symm;refine⟨"dict","dict.values",PySem.F.plainAttrs_dict,PySem.F.slot_dict_values,PySem.F.type_dict_values,⟨_,go,xo.1⟩,(λa e=>by cases e;exact⟨_,go,xo.2.1⟩),Calls.callWith_builtin rfl (PySem.evalArgs_none ?_)⟩;refine PH lo dd ?_;have at1:(s1.heap.push { cls:=.type "dict_values",data:=.fields #[.ref d] }).DictAt (kE X.prog X.w) d vs ep:=⟨ob,es',uS _ go,xo,hdat,hk,hp,hn⟩;refine wpAny_pyIter_values (s:={ s1 with heap:=s1.heap.push { cls:=.type "dict_values",data:=.fields #[.ref d] } }) ⟨_,gC _ rfl,rfl,rfl⟩ at1 ?_;have psz:(s1.heap.push { cls:=.type "dict_values",data:=.fields #[.ref d] }).objs.size=s1.heap.objs.size+1:=mG ..;refine⟨_,[(s1.heap.push { cls:=.type "dict_values",data:=.fields #[.ref d] }).objs.size],_,_,H1,rfl,I1.kept (t':=s1.toks) λb o e=>uS _ (uS _ e),OW d _ hdat,by rw[<-hlen];exact⟨_,gC _ rfl,rfl,rfl⟩,λb hb=>?_,q⟩;have e:b=(s1.heap.push { cls:=.type "dict_values",data:=.fields #[.ref d] }).objs.size:=by simpa using hb
 have hb':s1.heap.objs.size<=b:=by rw[e,psz];exact Nat.le_succ _
 exact I1.fpOk hb' (I1.hok.fresh hb')
end
theorem VU{d:Addr}{o:Obj}{ag:List (Key×V)}{g:TG}{tb:TS}{D:Ends}{σ:L2.St}{H:Hp}(Pv:Nat->L2.St->Hp->Prop)(h0:Pv 0 σ H)(hl:∀i σ H,i<=ag.length->Pv i σ H->H d=some (.frz o (.dK ag)))
  (hs:∀i k x σ H,ag[i]? = some (k,x)->Pv i σ H->g x σ H fun σ2 H2=>tb { D with nx:=Pv (i+1),ct:=Pv (i+1),bk:=D.nx } σ2 H2) (hd:∀σ H,Pv ag.length σ H->D.nx σ H) :
  ∃W:Nat->Nat->L2.St->Hp->Prop,(∃m,W 0 m σ H)/\∀i m σ H,W i m σ H->
   ((Itw d o ag).stop i H/\D.nx σ H)∨((Itw d o ag).go i H/\∃N:L2.St->Hp->Prop,(∀σ' H',N σ' H'->∃m',m'<m/\W (i+1) m' σ' H')/\∀x H',(Itw d o ag).yld i H x H'->g x σ H' fun σ2 H2=>tb { D with nx:=N,ct:=N,bk:=D.nx } σ2 H2):=by
 refine⟨λi m σ H=>m=ag.length-i/\i<=ag.length/\Pv i σ H,⟨ag.length,by simp,mX _,h0⟩, ?_⟩;rintro i m σ H ⟨rfl,hi,p⟩;have q:=hl i σ H hi p;by_cases hlt:i<ag.length
 ·refine .inr ⟨⟨q,hlt⟩,Pv (i+1),fun σ' H' p'=>⟨ag.length-(i+1),by omega,rfl,hlt,p'⟩,λv H' y=>?_⟩;obtain⟨rfl,k,hx⟩:=y;exact hs i k v σ H' hx p
 ·have ei:i=ag.length:=by omega
  subst ei;exact .inl ⟨⟨q,rfl⟩,hd σ H p⟩
def tDSetD(td ty tx:TE):TE:=fun σ H Q=>td σ H λx H1=>∃a,x=.ref a/\IsD H1 a/\ty σ H1 λy H2=>tx σ H2 λz H3=>∃ag k,H3 a=some (.dK ag)/\y=kV k/\ag.length<sizeLine/\(∀v,qK ag k=some v->Q v H3)/\(qK ag k=none->Q z (upd H3 a (.dK (vI ag k z))))
section
variable{X:Cx}{o e f:Expr}{td ty tx:TE}{apos cpos:Pos}
theorem WE{ac:List (Addr×Obj)}{σ:L2.St}{H:Hp}{s:Shared}{a:Addr}{ag:List (Key×V)}{k:Key}{z:V}{u r:Value}{A:Around}{E:Value->Shared->Prop}{Q:Value->Shared->Prop}(I:Inv X ac σ H s)(ea:H a=some (.dK ag))(l:ag.length<sizeLine)(ry:RelV (kV k) u)(rz:RelV z r)
  (h1:∀v w' s',qK ag k=some v->Inv X ac σ H s'->RelV v w'->Q w' s') (h2:qK ag k=none->∀s',Inv X ac σ (upd H a (.dK (vI ag k z))) s'->Q r s'):wpAny (model X.prog X.w) A (call (.builtin "dict.setdefault") [.ref a,u,r]) Q E s:=by
 obtain⟨zl,hd,vs,rel,dd⟩:=VY I.hok ea;have hz:vs.length<=sizeLine:=by rw[<-rel.length];exact zl
 have hl:(vI ag k z).length<=sizeLine:=by have:=xW ag k z;omega
 have rv:=rel.val k;refine call_meetsIn PySem.F.slot_dict_setdefault dd.typeIs PySem.F.entry_dict_setdefault (PySem.F.args_dict_setdefault_3 _ _ _) (kt_meets_setdefault (kE X.prog X.w) a (BJ ry) hd r) ⟨vs,dd,hz,λv hv=>?_,λhn h' dd' hs=>?_⟩
 ·cases q:qK ag k with
  | none=>rw[q,hv]at rv;exact absurd rv (λz=>by cases z)
  | some v'=>
   rw[q,hv]at rv;exact h1 v' v _ q (I.tok _) rv
 ·cases q:qK ag k with
  | some v'=>rw[q,hn]at rv;exact absurd rv (λz=>by cases z)
  | none=>
   have he:∃q,h'.get? a=some q:=let ⟨q,_,_,hq,_⟩:=dd';⟨q,hq⟩;exact h2 q _ (CD I (by rw[ea];exact True.intro) hs he (ID hl hd (rel.put k rz) dd'))
theorem TQ(ho:PE X o td)(he:PE X e ty)(hf:PE X f tx)(m:M2 X o "setdefault" apos e f cpos):PE X (.Call (.Attribute o "setdefault" apos) [e,f] [] cpos) (tDSetD td ty tx):=by
 intro ac s σ H Q I h;refine wpAny_Call_method m.base m.few m.line PySem.F.plainAttrs_dict PySem.F.slot_dict_setdefault PySem.F.type_dict_setdefault (thn (ho ac s σ H _ I h) λu s1 ⟨x,H1,I1,rx,a,ex,d,q1⟩=>?_);subst ex;obtain rfl:u=Value.ref a:=rx;obtain⟨t1,t2,_⟩:=VN I1 d;refine⟨t1,t2, ?_⟩;rw[m.trees];refine Calls.callWith_builtin rfl (Calls.evalArgs_plain (Calls.spliced_cons (thn (he ac s1 σ H1 _ I1 q1) λiv s2 ⟨y,H2,I2,ry,q2⟩=>
  Calls.spliced_cons (thn (hf ac s2 σ H2 _ I2 q2) λfv s3 ⟨z,H3,I3,rz,ag,k,ea,ey,lz,q3,q4⟩=>Calls.spliced_nil ?_))))
 subst ey;exact WE I3 ea lz ry rz (λv w' s4 l I4 rw'=>⟨v,_,I4,rw',q3 v l⟩) λn s4 I4=>⟨z,_,I4,rz,q4 n⟩
end
open LwD
section
variable{X:Cx}
variable{p pos kpos:Pos}{e e2:Expr}{es:List Expr}{t tk:TA}
end
end Lw
namespace L2
open PySem PySem.Spec PyProof.Rows
section
variable{prog:Program}{w:World}{A:Around}{E:Value->Shared->Prop}{s:Shared}
theorem BM:isSubtype (.type "range_iterator") (.type "reversed")=pure false:=by rw[isSubtype_type];kernel_rfl
end
section
variable{X:Cx}{tg:Expr}
end
open Lw
section
variable{X:Cx}{pos:Pos}
theorem wE:∀{xs:List V} {us:List Value},Vals xs us->Vals xs.reverse us.reverse
 | _,_,.nil=>.nil
 | _,_,.cons h t=>by rw[List.reverse_cons,List.reverse_cons];exact(wE t).append (.cons h .nil)
def tBackL(K:nI)(te:TE)(ts:TO):TE:=fun σ H Q=>te σ H λx H1=>ts σ H1 λo H2=>o=some (-1)/\∃a xs,x=.ref a/\SqL K H2 a xs/\New H2 (.lst xs.reverse) Q
theorem JC{e st:Expr}{te:TE}{ts:TO}{p2:Pos}(he:PE X e te)(hs:PO X (some st) ts):PE X (.Subscript e (.Slice none none (some st) p2) pos) (tBackL X.K te ts):=by
 intro ac s σ H Q I h;refine Subscript_ (thn (he ac s σ H _ I h) λv s1 ⟨x,H1,I1,r1,q1⟩=>?_);refine wpAny_Slice ?_;rw[evalPart_none];refine nE (nE (thn (hs ac s1 σ H1 _ I1 q1) λvs s2 ⟨o,H2,I2,po,eo,a,xs,ex,hx,q⟩=>?_));subst eo ex;cases r1;cases po with
 | int i u=>
 have I3:Inv X ac σ H2 { s2 with heap:=s2.heap.push { cls:=.type "slice",data:=.fields #[.none,.none,.int (-1) u] } } :=I2.kept (t':=s2.toks) λb ob q=>uS _ q;obtain⟨its,r,ht,hz⟩:=I3.list hx;have hl:its.toArray.size=xs.length:=by rw[gN];exact r.length.symm
 show wpAny (model X.prog X.w) X.A (subscriptTail e (.Slice none none (some st) p2) (.ref a) (.ref s2.heap.objs.size)) (EP X ac σ Q) X.xe { s2 with heap:=s2.heap.push { cls:=.type "slice",data:=.fields #[.none,.none,.int (-1) u] } };refine tail_any (ops:=[.ref a,.ref s2.heap.objs.size]) ht.isList.typeIs slot_list_getitem.lookup ?_ (by with_unfolding_all rfl);refine wpAny_getItem_list_slice ht.isList (Heap.IsSliceOf.new ..) .none .none (.int (-1) u) (by decide) ?_ (by rw[hl];exact hz);rw[PySem.W.krv_pick];have n:=I3.hok.fresh (mW (s2.heap.push { cls:=.type "slice",data:=.fields #[.none,.none,.int (-1) u] }).objs.size);refine⟨.ref _,_,I3.laid (t':=s2.toks) (o:=.lst xs.reverse) (λb ob q=>uS _ q) uJ ?_,rfl,q _ _ n (Lw.kB _ n) jI⟩;exact⟨by rw[List.length_reverse];exact hz,_,0,wE r,gC _ rfl⟩
end
section
variable{prog:Program}{w:World}{A:Around}{E:Value->Shared->Prop}{s:Shared}
theorem drawL{it l:Addr}{items:Array Value}(ne:l≠it):∀(n i:Nat) (s:Shared) (Q:List Value->Shared->Prop),s.heap.IsListIter it l i->s.heap.IsList l items->i+n<=items.size->
  (∀g,g.IsListIter it l (i+n)->Heap.SameBut it s.heap g->Q ((items.toList.drop i).take n) { s with heap:=g })->wpAny (model prog w) A (draw (.ref it) n) Q E s
 | 0,i,s,Q,h1,_,_,q=>by
  show wpAny _ _ (pure []) Q E s;exact nE (by simpa using q s.heap h1 (Heap.SameBut.refl ..))
 | n+1,i,s,Q,h1,h2,le,q=>by
  have lt:i<items.size:=by omega
  show wpAny _ _ (pyNext (.ref it) >>= _) Q E s;refine nC (wpAny_pyNext_list_item h1 h2 (x:=items[i]) (by simp [lt]) λg1 k1 b1=>?_);refine nC (wpAny_holding (drawL ne n (i+1) _ _ k1 (h2.extBut b1.extBut ne) (by omega) λg2 k2 b2=>nE ?_));have e:items.toList.drop i=items[i]::items.toList.drop (i+1):=by simp [List.drop_eq_getElem_cons,lt]
  have:=q g2 (by rw[show i+(n+1)=i+1+n by omega];exact k2) (b1.trans b2);rw[e,List.take_succ_cons]at this;exact this
theorem WT{l:Addr}{items:Array Value}{Q:List Value->Shared->Prop}(hh:A.handled=none)(hl:s.heap.IsList l items)
  (q:∀g,Heap.ExtBut s.heap.objs.size s.heap g->Q items.toList { s with heap:=g }):wpAny (model prog w) A (unpackItems (.ref l) items.size none) Q E s:=by
 have lt:l≠s.heap.objs.size:=by obtain⟨o,ho,_⟩:=hl;exact mO (mM ho)
 unfold unpackItems;refine nC ?_;unfold notIterableAtAll;refine nC (wpAny_specialOf hl.typeIs slot_list_iter.lookup (nE ?_));simp only[Bool.false_eq_true,if_false];refine nC (wpAny_holding (wpAny_pyIter_list hl ?_));refine nC (wpAny_holding (drawL lt items.size 0 _ _ ⟨_,gC _ rfl,rfl,rfl⟩ (Heap.IsList.push hl _) (by omega) λg1 k1 b1=>?_));rw[show List.take items.size (List.drop 0 items.toList)=items.toList by rw[List.drop_zero];exact List.take_of_length_le (by simp),nG (by simp)];have h1:g1.IsList l items:=Heap.IsList.extBut (Heap.IsList.push hl _) b1.extBut lt;refine nC (wpAny_holding (wpAny_pyNext_list_end hh k1 h1 (by simp) λg2 b2=>?_));simp only[Option.isSome_none,Bool.false_eq_true,if_false];exact nE (q g2 λb o hb e=>b2 b o hb (b1.extBut b o hb (uS _ e)))
end
section
variable{X:Cx}{pos:Pos}
def gTupL(K:nI)(n:Nat)(t:TGs):TG:=λv σ H Q=>∃a xs,v=.ref a/\SqL K H a xs/\xs.length=n/\t xs σ H Q
theorem XW{es:List Expr}{k:Nat}{t:TGs}{n:Nat}(hc:X.calm=true)(h:PGs X es t)
  (hn:(assignEach es X.env).length=n:=by rfl) (hst:(assignEach es X.env).findIdx? (·.1)=none:=by rfl):PG X (.Tuple es k pos) (gTupL X.K n t):=by
 intro ac s σ H v u Q I r hw;obtain⟨a,xs,e1,hq,hl,hw⟩:=hw;subst e1;cases r;obtain⟨its,rv,ht,hz⟩:=I.list hq;rw[PyProof.Rows.assign_Tuple];refine nC (wpAny_standAt ?_);unfold unpack;rw[show(assignEach es X.env).length=its.toArray.size by simp [hn,<-hl,rv.length],hst];refine nC (wpAny_holding (WT (I.ok.hd hc) ht.isList λh' hx=>?_));have I1:Inv X ac σ H { s with heap:=h' } :=I.kept (t':=s.toks) λb o e=>hx b o (mO (mM e)) e;exact h ac _ σ H xs _ Q I1 (by simpa using rv) hw
end
structure ZL(z TI TO i1 i2 l1 l2:Addr)(k:Nat)(h:Heap):Prop where
 zz:IsZip h z TI TO .none
 ti:IsPair h TI (.ref i1) (.ref i2)
 to:∃a b,IsPair h TO a b
 one:h.IsListIter i1 l1 k
 two:h.IsListIter i2 l2 k
def ItzL(K:nI)(a b:Addr):It:=
 ⟨λi H=>∃xs ys x y,SqL K H a xs/\SqL K H b ys/\xs[i]? = some x/\ys[i]? = some y,
  λi H v H'=>∃p x y,H p=none/\v=.ref p/\H'=upd H p (.tup [x,y])/\(∀xs,SqL K H a xs->xs[i]? = some x)/\(∀ys,SqL K H b ys->ys[i]? = some y),
  λi H=>∃xs ys,SqL K H a xs/\SqL K H b ys/\(xs.length<=i∨ys.length<=i)⟩
theorem Five.of{z TI TO i1 i2 l1 l2:Addr}(F:Five z TI TO i1 i2)(h1:∀b∈[z,TI,TO,i1,i2],l1≠b)(h2:∀b∈[z,TI,TO,i1,i2],l2≠b):ZipApart z TI TO i1 i2 l1 l2:=by
 have nd:=F.nd;simp only[List.nodup_cons,mI,not_or,gU]at nd;obtain⟨⟨a1,a2,a3,a4,_⟩,⟨b1,b2,b3,_⟩,⟨c1,c2,_⟩,⟨d1,_⟩,_⟩:=nd;exact⟨Ne.symm a1,Ne.symm a2,Ne.symm a3,Ne.symm a4,b1,b2,b3,c1,c2,d1,h1 _ (by simp),h1 _ (by simp),h1 _ (by simp),h1 _ (by simp),h2 _ (by simp),h2 _ (by simp),h2 _ (by simp),h2 _ (by simp)⟩
theorem OU{P:Program}{w:World}{K:nI}{es:List Expr}{x1}{pos:Pos}(l1 l2:Addr){z TI TO i1 i2:Addr}(F:Five z TI TO i1 i2):Turn P w K (.Tuple es x1 pos) (ItzL K l1 l2) [z,TI,TO,i1,i2] z (λi h=>ZL z TI TO i1 i2 l1 l2 i h) where
 mem:=by simp
 obj:=λi h Z b hb=>by
  simp only[mI,gU,or_false]at hb;obtain⟨hz,hti,⟨a,c,hto⟩,⟨o1,g1,c1,d1⟩,⟨o2,g2,c2,d2⟩⟩:=Z;rcases hb with rfl | rfl | rfl | rfl | rfl
  ·exact⟨_,hz,λv q=>by cases (show Data.fields _=Data.cell v from q)⟩
  ·exact⟨_,hti,λv q=>by cases (show Data.seq _ _=Data.cell v from q)⟩
  ·exact⟨_,hto,λv q=>by cases (show Data.seq _ _=Data.cell v from q)⟩
  ·exact⟨_,g1,λv q=>by rw[d1]at q;cases q⟩
  ·exact⟨_,g2,λv q=>by rw[d2]at q;cases q⟩
 keep:=λi h h' Z k=>by
  obtain⟨hz,hti,⟨a,c,hto⟩,s1,s2⟩:=Z;exact⟨k z (by simp) _ hz,k TI (by simp) _ hti,⟨a,c,k TO (by simp) _ hto⟩,s1.at λo e=>k i1 (by simp) o e,s2.at λo e=>k i2 (by simp) o e⟩
 item:=by
  intro X hP hw hK hc i ac s σ H E I hf Z hg;subst hP hw hK;obtain⟨xs,ys,x,y,q1,q2,hx,hy⟩:=hg;obtain⟨its1,r1,p1,_⟩:=I.list q1;obtain⟨its2,r2,p2,_⟩:=I.list q2;obtain⟨u1,hu1,ru1⟩:=r1.get hx;obtain⟨u2,hu2,ru2⟩:=r2.get hy;have D:=F.of (λb hb=>FpOk.apartL I (hf b hb) q1) (λb hb=>FpOk.apartL I (hf b hb) q2);obtain⟨a0,b0,hto⟩:=Z.to;refine wpAny_pyNext_zip_item D Z.zz Z.ti hto Z.one Z.two p1.isList p2.isList (x:=u1) (y:=u2) (by simpa using hu1) (by simpa using hu2) λg z1 to1 n1 n2 nu _ kk=>⟨_,rfl, ?_⟩;refine wpAny_letOwnedTupleGo_zip z1 λg2 z2 sb=>?_;have fr:H s.heap.objs.size=none:=I.hok.fresh uJ ;have fp:∀b∈[z,TI,TO,i1,i2],FpOk X ac (upd H s.heap.objs.size (.tup [x,y])) b:=λb hb=>by
   have lt:b≠s.heap.objs.size:=by
    simp only[mI,gU,or_false]at hb;obtain⟨hz,hti,⟨a,c,hto⟩,⟨o1,g1,_⟩,⟨o2,g2,_⟩⟩:=Z;rcases hb with rfl | rfl | rfl | rfl | rfl
    ·exact mO (mM hz)
    ·exact mO (mM hti)
    ·exact mO (mM hto)
    ·exact mO (mM g1)
    ·exact mO (mM g2)
   exact⟨by rw[jL lt];exact(hf b hb).1,(hf b hb).2⟩
  have I1:Inv X ac σ (upd H s.heap.objs.size (.tup [x,y])) { s with heap:=s.heap.push { cls:=.type "tuple",data:=.seq #[u1,u2] } } :=I.laid (t':=s.toks) (λb u e=>uS _ e) uJ ⟨by simp [sizeLine],[u1,u2],.cons ru1 (.cons ru2 .nil),⟨_,gC _ rfl,rfl,_,rfl⟩,.of (gC _ rfl) rfl⟩;have up:∀c o,c≠z->g.get? c=some o->g2.get? c=some o:=λc o cz e=>sb.extBut _ _ cz e;have zs:z≠s.heap.objs.size:=mO (mM Z.zz);have I2:Inv X ac σ (upd H s.heap.objs.size (.tup [x,y])) { s with heap:=g2 } :=by
   refine Inv.turnedL (s:={ s with heap:=s.heap.push { cls:=.type "tuple",data:=.seq #[u1,u2] } }) (h':=g2) (t':=s.toks) I1 fp λb o hb e=>?_;simp only[mI,gU,or_false,not_or]at hb;rcases Heap.get?_push_cases e with⟨e1,e2⟩ | e1
   ·rw[e1,e2];exact up _ _ (Ne.symm zs) nu
   ·exact up _ _ hb.1 (kk b o hb.1 hb.2.2.1 hb.2.2.2.1 hb.2.2.2.2 e1)
  exact⟨.ref s.heap.objs.size,_,I2,rfl,⟨_,x,y,fr,rfl,rfl,λxs' h=>by rw[I.list_inj h q1];exact hx,λys' h=>by rw[I.list_inj h q2];exact hy⟩,⟨z2,up _ _ D.TIz (kk _ _ D.TIz D.TITO D.TIi1 D.TIi2 Z.ti),⟨_,_,up _ _ D.TOz to1⟩,n1.at λo e=>up _ o D.i1z e,n2.at λo e=>up _ o D.i2z e⟩,λb hb=>(fp b hb).1⟩
 done:=by
  intro X hP hw hK hc i ac s σ H E I hf Z hg;subst hP hw hK;obtain⟨xs,ys,q1,q2,he⟩:=hg;obtain⟨its1,r1,p1,_⟩:=I.list q1;obtain⟨its2,r2,p2,_⟩:=I.list q2;have D:=F.of (λb hb=>FpOk.apartL I (hf b hb) q1) (λb hb=>FpOk.apartL I (hf b hb) q2);have e1:=r1.length;have e2:=r2.length;obtain⟨a0,b0,hto⟩:=Z.to;refine wpAny_pyNext_zip_end (I.ok.hd hc) D Z.zz Z.ti hto Z.one Z.two p1.isList p2.isList ?_ λg kk=>⟨rfl,Inv.turnedL (t':=s.toks) I hf λb o hb e=>by
   simp only[mI,gU,or_false,not_or]at hb;exact kk b o hb.1 hb.2.2.1 hb.2.2.2.1 hb.2.2.2.2 e⟩
  rcases he with h | h
  ·exact .inl (by simp;omega)
  ·exact .inr (by simp;omega)
 self:=λ_ _ _ _ _ Z h=>wpAny_pyIter_zip Z.zz h
section
variable{X:Cx}
def iZipL(K:nI)(ta:TA):TI:=fun σ H R=>ta σ H λvs H1=>∃a b,vs=[.ref a,.ref b]/\(∃xs,SqL K H1 a xs)/\(∃ys,SqL K H1 b ys)/\R (ItzL K a b) H1
theorem NI{es:List Expr}{x1}{tp:Pos}{a b:Expr}{ta:TA}{p pos:Pos}(hg:Gl X "zip")(hm:X.mg "zip" = none)(ha:PA X [a,b] ta)(hs:starEach [a,b] X.env=[(false,eval a X.env),(false,eval b X.env)]:=by rfl)(hs2:starEach [b] X.env=[(false,eval b X.env)]:=by rfl) :
  PI X (.Tuple es x1 tp) (.Call (.Name "zip" p) [a,b] [] pos) (iZipL X.K ta):=by
 intro ac s σ H R I h;refine Call_ (xZ I hg hm boot_zip (PyProof.Rows.callWith_type1 (thn (ha pos ac s σ H _ I h) λus s1 ⟨vs,H1,I1,r1,q1⟩=>?_) (by rw[hs,hs2]) (by rw[hs2];rfl)));obtain⟨l1,l2,e,⟨xs,q1⟩,⟨ys,q2⟩,q⟩:=q1;subst e;cases r1 with
 | cons r rr=>
  cases rr with
  | cons r' rr=>
   cases rr;cases r;cases r';obtain⟨its1,_,p1,_⟩:=I1.list q1;obtain⟨its2,_,p2,_⟩:=I1.list q2;refine call_zip_2 p1.isList p2.isList λg z1 z2 z3 z4 z5 _ k=>wpAny_pyIter_zip z1 ?_;refine⟨_,_,_,_,H1,rfl,I1.kept (t':=s1.toks) k,OU l1 l2 ⟨by simp⟩,⟨z1,z2,⟨_,_,z3⟩,z4,z5⟩,λb hb=>?_,q⟩;have hb':s1.heap.objs.size<=b:=by
    simp only[mI,gU,or_false]at hb;rcases hb with rfl | rfl | rfl | rfl | rfl<;>first | exact Nat.le_add_right _ _ | exact mW _
   exact I1.fpOk hb' (I1.hok.fresh hb')
end
end L2
namespace L2
open PySem PySem.Spec PyProof.Rows
section
variable{prog:Program}{w:World}{A:Around}{E:Value->Shared->Prop}{s:Shared}
theorem LH{r:Addr}{a n:Int}{t u v:Tok}{Q:Value->Shared->Prop}(hr:IsRange s.heap r a (a+n) 1 t u v)(ha:0<=a)(ha1:a<2^61)(h0:0<=n)(h1:n<2^61)
  (h:Q (.ref s.heap.objs.size) { s with heap:=s.heap.push { cls:=.type "range_iterator",data:=.fields #[rawInt (a+(n-1)),rawInt n,rawInt (-1)] } }) :
  wpAny (model prog w) A (call (.builtin "range.__reversed__") [.ref r]) Q E s:=by
 have hT:s.TypeIs (.ref r) "range":=⟨_,hr,rfl⟩;refine wpAny_call_entry F.slot_range_reversed hT F.entry_range_reversed ?_ (F.args_range_reversed_1 _);unfold Builtin.«range.__reversed__»;refine nC (wpAny_of_eq (a:=Value.ref r) rfl ?_);have rf:∀{Q':Int×Int×Int->Shared->Prop} {E':Value->Shared->Prop},Q' (a,a+n,1) s->wpAny (model prog w) A.in1 (Builtin.Range.rangeFields (.ref r)) Q' E' s:=fun {Q' E'} hq=>by
  unfold Builtin.Range.rangeFields;refine nC (wpAny_field hr rfl (x:=.int a t) rfl (nC (nE ?_)));refine nC (wpAny_field hr rfl (x:=.int (a+n) u) rfl (nC (nE ?_)));refine nC (wpAny_field hr rfl (x:=.int 1 v) rfl (nC (nE ?_)));exact nE hq
 refine nC (rf ?_);have sz:Builtin.Range.rangeSize a (a+n) 1=n:=by rw[rangeSize_one];split<;>omega
 have sm:(Builtin.Range.rangeFitsLong a&&Builtin.Range.rangeFitsLong (a+n)&&Builtin.Range.rangeFitsLong 1&&Builtin.Range.rangeFitsLong (-1)&&Builtin.Range.rangeFitsLong (a-1)&&Builtin.Range.rangeFitsLong n)=true:=by
  simp only[Builtin.Range.rangeFitsLong,gY,decide_eq_true_eq];omega
 dsimp only;rw[sz,sm];rw[nG (by decide)];have e:a+(n-1)*1=a+(n-1):=by omega
 rw[e];exact nC (wpAny_newObj_type (nE ⟨_,rfl,h⟩))
theorem QW{r:Addr}{a n:Int}{t u v:Tok}{Q₁:Value->Shared->Prop}(hr:IsRange s.heap r a (a+n) 1 t u v)(ha:0<=a)(ha1:a<2^61)(h0:0<=n)(h1:n<2^61)
  (h:Q₁ (.ref s.heap.objs.size) { s with heap:=s.heap.push { cls:=.type "range_iterator",data:=.fields #[rawInt (a+(n-1)),rawInt n,rawInt (-1)] } }) :
  codeAny (model prog w) A (.call (.builtin "reversed.__new__") ⟨[.type "reversed",.ref r],[]⟩) (wants Q₁ E) s:=by
 have hT:s.TypeIs (.ref r) "range":=⟨_,hr,rfl⟩;refine codeAny_of_tree ?_;show wpAny _ A.in1 (do checkBuiltinCall "reversed.__new__" ⟨[.type "reversed",.ref r],[]⟩;again (.builtin "reversed.__new__" ⟨[.type "reversed",.ref r],[]⟩)) _ _ s;refine nC (wpAny_of_eq (F.newCall_reversed_1 _) (nE ⟨plainId_quiet F.plain_reversed_new _,codeAny_builtin F.entry_reversed_new ?_⟩));rw[Around.under_plainId F.plain_reversed_new _];unfold Builtin.«reversed.__new__»;refine nC (wpAny_of_eq (newClass_reversed _) ?_);try dsimp only
 refine nC (wpAny_of_eq (a:=()) (by first | rfl | kernel_rfl) ?_);refine nC (wpAny_of_eq (a:=()) (by first | rfl | kernel_rfl) ?_);try dsimp only
 refine nC (wpAny_specialOf hT F.slot_range_reversed.lookup ?_);try dsimp only
 refine nC (wpAny_of_eq (F.slot_range_reversed.bind _) ?_);try dsimp only
 first
 | rw[nG (show ¬((Value.builtin "range.__reversed__"==Value.none)=true)from gF)]
 | (show wpAny _ _ (if (Value.builtin "range.__reversed__"==Value.none)=true then _ else _) _ _ _;rw[nG (show ¬((Value.builtin "range.__reversed__"==Value.none)=true)from gF)])
 refine nC (wpAny_rule ?_);refine nC (m:=runValue (.call (.builtin "range.__reversed__") ⟨[.ref r],[]⟩)) (show wpAny _ _ (call (.builtin "range.__reversed__") [.ref r]) _ _ _ from LH hr ha ha1 h0 h1 ?_);first
 | exact nE h
 | exact nC (nE (nE h))
theorem QY{r:Addr}{a n:Int}{t u v:Tok}{Q:Value->Shared->Prop}(hr:IsRange s.heap r a (a+n) 1 t u v)(ha:0<=a)(ha1:a<2^61)(h0:0<=n)(h1:n<2^61)
  (h:Q (.ref s.heap.objs.size) { s with heap:=s.heap.push { cls:=.type "range_iterator",data:=.fields #[rawInt (a+(n-1)),rawInt n,rawInt (-1)] } }) :
  wpAny (model prog w) A (call (.type "reversed") [.ref r]) Q E s:=by
 refine callType_other (U:="range_iterator") (Q₁:=λobj s₁=>obj=.ref s.heap.objs.size/\s₁ = { s with heap:=s.heap.push { cls:=.type "range_iterator",data:=.fields #[rawInt (a+(n-1)),rawInt n,rawInt (-1)] } }) (by decide +kernel) F.create_reversed ⟨_,_,F.mro_reversed⟩ F.made_reversed BM (F.typeCall_reversed_1 _) (QW hr ha ha1 h0 h1 ⟨rfl,rfl⟩) ?_;rintro obj s₁ ⟨rfl,rfl⟩;exact⟨⟨_,gC _ rfl,rfl⟩,h⟩
end
def Itd2(a n:Nat):It:=⟨λi _=>i<n,λi H x H'=>H'=H/\x=.int ((a:Int)+((n:Int)-1-i)),λi _=>n<=i⟩
theorem KU{P:Program}{w:World}{K:nI}{tg:Expr}(it:Addr)(a n:Nat):Turn P w K tg (Itd2 a n) [it] it (λi h=>IsRangeIter h it (((a:Int)+((n:Int)-1))+(i:Nat)*(-1)) ((n:Int)-(i:Nat)) (-1)) where
 mem:=by simp
 obj:=λi h st b hb=>by
  have e:b=it:=by simpa using hb
  subst e;exact⟨_,st,λv z=>by
   have z':Data.fields _=Data.cell v:=z;cases z'⟩
 keep:=λi h h' st k=>k it (by simp) _ st
 item:=by
  intro X hP hw hK hc i ac s σ H E I hf st hg;subst hP hw hK;obtain⟨f0,f1,f2,f3,f4,f5⟩:=hf it (by simp);have W:=Walks.range (prog:=X.prog) (w:=X.w) (I.ok.hd hc) it ((a:Int)+((n:Int)-1)) (-1) n;refine W.item i s _ _ hg st λv h' tk hv st' kk=>?_;obtain⟨t,rfl⟩:=hv;have I1:Inv X ac σ H { s with heap:=h',toks:=tk } :=I.turned (λb o hb e=>kk b o (by simpa using hb) e) f0 f1 f3 f4 f5;refine⟨_,rfl,JS (s:={ s with heap:=h',toks:=tk }) (n:="range_iterator") st' rfl rfl (by decide) ⟨.int ((a:Int)+((n:Int)-1-i)),H,I1,⟨t, ?_⟩,⟨rfl,rfl⟩,st',λb hb=>(hf b hb).1⟩⟩;rw[show(a:Int)+((n:Int)-1)+(i:Int)*(-1)=a+((n:Int)-1-i) by omega]
 done:=by
  intro X hP hw hK hc i ac s σ H E I hf st hg;subst hP hw hK;obtain⟨f0,f1,f2,f3,f4,f5⟩:=hf it (by simp);exact wpAny_pyNext_range_end (I.ok.hd hc) st (by have:n<=i:=hg;omega) λh' eb=>⟨rfl,I.turned (t':=s.toks) (λb o hb e=>eb b o hb e) f0 f1 f3 f4 f5⟩
 self:=λ_ _ _ _ _ st h=>wpAny_pyIter_rangeiter st h
section
variable{X:Cx}{tg:Expr}
def rRange2:List V->Hp->VK->Prop:=λxs H Q=>∃a b:Int,xs=[.int a,.int b]/\∀p,H p=none->Q (.ref p) (upd H p (.rng a b))
theorem KH:CallR X (.type "range") rRange2:=by
 intro ac s σ H xs us Q I r h;obtain⟨a,b,rfl,q⟩:=h;cases r with
 | cons r rr=>
  cases rr with
  | cons r' rr=>
   cases rr;obtain⟨t,rfl⟩:=r;obtain⟨t',rfl⟩:=r';exact call_range_2 ⟨.ref s.heap.objs.size,_,I.laid (a:=s.heap.objs.size) (o:=.rng a b) (λb u e=>uS _ e) uJ ⟨_,_,_,gC _ rfl⟩,rfl,q _ (I.hok.fresh uJ)⟩
def iRev2(ta:TA):TI:=fun σ H R=>ta σ H λvs H1=>∃(r:Addr) (a n:Nat),vs=[.ref r]/\H1 r=some (.rng a (a+n))/\a<2^61/\n<2^61/\R (Itd2 a n) H1
theorem XV{a:Expr}{ta:TA}{p pos:Pos}(hg:Gl X "reversed")(hm:X.mg "reversed" = none)(ha:PA X [a] ta)(hs:starEach [a] X.env=[(false,eval a X.env)]:=by rfl):PI X tg (.Call (.Name "reversed" p) [a] [] pos) (iRev2 ta):=by
 intro ac s σ H R I h;refine Call_ (xZ I hg hm (show bootBuiltins "reversed" = some (.type "reversed") by decide +kernel) (PyProof.Rows.callWith_type1 (thn (ha pos ac s σ H _ I h) λus s1 ⟨vs,H1,I1,r1,q1⟩=>?_) hs rfl));obtain⟨r,lo,n,e,hr,hlo,hn,q⟩:=q1;subst e;obtain⟨u,rfl,ru⟩:=xG r1;cases ru;obtain⟨t,u,v,ho⟩:=(show ObjOk X.prog X.w H1 s1.heap r (.rng lo (lo+n))from I1.hok r _ hr);refine QY ho (by omega) (by omega) (by omega) (by omega) (wpAny_pyIter_rangeiter (gC _ rfl) ?_);refine⟨s1.heap.objs.size,[s1.heap.objs.size],_,_,H1,rfl,I1.kept (t':=s1.toks) λb o e=>uS _ e,KU _ lo n, ?_,λb hb=>?_,q⟩
 ·show IsRangeIter _ _ _ _ _;rw[show(lo:Int)+((n:Int)-1)+((0:Nat):Int)*(-1)=lo+(n-1) by omega,show(n:Int)-((0:Nat):Int)=n by omega];exact gC _ rfl
 ·have e:b=s1.heap.objs.size:=by simpa using hb
  subst e;exact I1.fpOk uJ (I1.hok.fresh uJ)
end
theorem QQ{a n:Nat}{g:TG}{tb:TS}{D:Ends}{σ:L2.St}{H:Hp}(Pv:Nat->L2.St->Hp->Prop)(h0:Pv 0 σ H)
  (hs:∀i σ H,i<n->Pv i σ H->g (.int ((a:Int)+((n:Int)-1-i))) σ H fun σ2 H2=>tb { D with nx:=Pv (i+1),ct:=Pv (i+1),bk:=D.nx } σ2 H2) (hd:∀σ H,Pv n σ H->D.nx σ H) :
  ∃W:Nat->Nat->L2.St->Hp->Prop,(∃m,W 0 m σ H)/\∀i m σ H,W i m σ H->
   ((Itd2 a n).stop i H/\D.nx σ H)∨((Itd2 a n).go i H/\∃N:L2.St->Hp->Prop,(∀σ' H',N σ' H'->∃m',m'<m/\W (i+1) m' σ' H')/\∀x H',(Itd2 a n).yld i H x H'->g x σ H' fun σ2 H2=>tb { D with nx:=N,ct:=N,bk:=D.nx } σ2 H2):=by
 refine⟨λi m σ H=>m=n-i/\i<=n/\Pv i σ H,⟨n,by simp,mX _,h0⟩, ?_⟩;rintro i m σ H ⟨rfl,hi,p⟩;by_cases hlt:i<n
 ·refine .inr ⟨hlt,Pv (i+1),fun σ' H' p'=>⟨n-(i+1),by omega,rfl,hlt,p'⟩,λx H' y=>?_⟩;obtain⟨e,y⟩:=y;subst e y;exact hs i σ _ hlt p
 ·have e:i=n:=by omega
  subst e;exact .inl ⟨mW _,hd σ H p⟩
end L2
namespace Lw
open PySem PySem.Spec PyProof.Rows L2
section
variable{X:Cx}
def rAny(K:nI):List V->Hp->VK->Prop:=λxs H Q=>∃(a:Addr) (bs:List Bool),xs=[.ref a]/\SqL K H a (bs.map V.bl)/\Q (.bl (bs.any id)) H
theorem RC(bs:List Bool):(List.range bs.length).any (λi=>bs.getD i true)=bs.any id:=by
 induction bs with
 | nil=>rfl
 | cons b r ih=>
  rw[gX,List.range_succ_eq_map,List.any_cons,List.any_map,List.any_cons,<-ih]
  rfl
theorem WO:bootBuiltins "any" = some (.builtin "any"):=by decide +kernel
theorem WL(hc:X.calm=true):CallR X (.builtin "any") (rAny X.K):=by
 intro ac s σ H xs us Q I r h;obtain⟨a,bs,rfl,hq,q⟩:=h;obtain⟨u,rfl,ru⟩:=xG r;cases ru;obtain⟨its,rv,p,hz⟩:=I.list hq;have hl:=rv.length;rw[hU]at hl;refine PySem.call_any_walk (wpAny_pyIter_list p.isList ?_);have ha:a<s.heap.objs.size:=by
  obtain⟨o,n,e,_⟩:=p;exact mM e
 refine⟨s.heap.objs.size,_,_,_,_,_,λi=>bs.getD i true,rfl,Walks.list (show X.A.in1.handled=none from I.ok.hd hc) s.heap.objs.size a (mO ha) its.toArray,⟨⟨_,gC _ rfl,rfl,rfl⟩,p.isList.at λo e=>uS _ e⟩, ?_, ?_⟩
 ·intro i v s' Q' E' hv hq';obtain rfl:=IG rv (by simpa using hv);exact wpAny_truthy_bool hq'
 ·intro h' tk k;rw[gN,<-hl,RC];refine⟨.bl _,H,I.kept (t':=tk) (λb o e=>?_),rfl,q⟩;exact k b o (by simp;exact mO (mM e)) (uS _ e)
end
theorem VT{K:nI}{a b:Addr}{xs ys:List V}{g:TG}{tb:TS}{D:Ends}{σ:L2.St}{H:Hp}(Pv:Nat->L2.St->Hp->Prop)(le:ys.length<=xs.length)(h0:Pv 0 σ H)(hl:∀i σ H,i<=ys.length->Pv i σ H->SqL K H a xs/\SqL K H b ys)
  (hs:∀i x y p σ H,xs[i]? = some x->ys[i]? = some y->H p=none->Pv i σ H->g (.ref p) σ (upd H p (.tup [x,y])) fun σ2 H2=>tb { D with nx:=Pv (i+1),ct:=Pv (i+1),bk:=D.nx } σ2 H2) (hd:∀σ H,Pv ys.length σ H->D.nx σ H) :
  ∃W:Nat->Nat->L2.St->Hp->Prop,(∃m,W 0 m σ H)/\∀i m σ H,W i m σ H->
   ((ItzL K a b).stop i H/\D.nx σ H)∨((ItzL K a b).go i H/\∃N:L2.St->Hp->Prop,(∀σ' H',N σ' H'->∃m',m'<m/\W (i+1) m' σ' H')/\∀x H',(ItzL K a b).yld i H x H'->g x σ H' fun σ2 H2=>tb { D with nx:=N,ct:=N,bk:=D.nx } σ2 H2):=by
 refine⟨λi m σ H=>m=ys.length-i/\i<=ys.length/\Pv i σ H,⟨ys.length,by simp,mX _,h0⟩, ?_⟩;rintro i m σ H ⟨rfl,hi,p⟩;obtain⟨q1,q2⟩:=hl i σ H hi p;by_cases hlt:i<ys.length
 ·have hx:i<xs.length:=by omega
  refine .inr ⟨⟨xs,ys,xs[i],ys[i],q1,q2,by simp [hx],by simp [hlt]⟩,Pv (i+1),fun σ' H' p'=>⟨ys.length-(i+1),by omega,rfl,hlt,p'⟩,λv H' y=>?_⟩;obtain⟨r,x,y',hr,rfl,rfl,e1,e2⟩:=y;exact hs i x y' r σ H (e1 xs q1) (e2 ys q2) hr p
 ·have ei:i=ys.length:=by omega
  subst ei;exact .inl ⟨⟨xs,ys,q1,q2,.inr uJ⟩,hd σ H p⟩
section
variable{prog:Program}{w:World}{A:Around}{E:Value->Shared->Prop}{s:Shared}
end
section
variable{X:Cx}
end
section
variable{prog:Program}{w:World}{A:Around}{R:Result->Shared->Prop}{s:Shared}
theorem wF{kx vx target iter:Expr}{scope:Scope}{pos:Pos}{it:Value}{D:Addr}{env:Env}(I:Nat->Shared->Prop)
  (turn:∀n s,I n s->wpAny (model prog w) A (pyNext it) (λr s₁=>match r with
   | none=>R (.ok .next) s₁
   | some v=>wpAny (model prog w) A (letOwnedTupleGo target it v) (λ_ s₁'=>wpAny (model prog w) A (assign target env v) (λ_ s₂=>wpAny (model prog w) A (eval kx env) (λx s₃=>wpAny (model prog w) A (eval vx env) (λy s₃'=>
     wpAny (model prog w) A (dictSet D x y) (λ_ s₄=>∃m,m<n/\I m s₄) (notedBy (model prog w) A env λe s'=>R (.error e) s') s₃') (notedBy (model prog w) A env λe s'=>R (.error e) s') s₃)
     (notedBy (model prog w) A env λe s'=>R (.error e) s') s₂) (notedBy (model prog w) A env λe s'=>R (.error e) s') s₁') (notedBy (model prog w) A env λe s'=>R (.error e) s') s₁) (notedBy (model prog w) A env λe s'=>R (.error e) s') s)
  (n:Nat) (h:I n s) :
  codeAny (model prog w) A (.compLoop (.DictComp kx vx [⟨target,iter,[],0⟩] scope pos) 0 it (.ref D) env) R s:=by
 refine codeAny_loop rfl I (λn s hI=>?_) n h;show wpAny _ _ ((compTurn (.DictComp kx vx [⟨target,iter,[],0⟩] scope pos) 0 it (.ref D) env).onRaise (λx=>do noteFrame x env;theTreesLotGoes x)) _ _ s;refine wpAny_noted ?_;rw[compTurn_dict];refine nC (wpAny_standAt (nC (nF (turn n s hI) (λr s₁ h₁=>?_) λ_ _ h'=>h')));cases r with
 | none=>exact nE h₁
 | some v=>
  refine nC (nF h₁ (λ_ s₁' h₁'=>?_) λ_ _ h'=>h');refine nC (nF h₁' (λ_ s₂ h₂=>?_) λ_ _ h'=>h');refine nC ?_;rw[List.forIn_nil];refine nE ?_;dsimp only;rw[nH rfl];refine nC (nC (nF h₂ (λx s₃ h₃=>nC (wpAny_holding (nF h₃ (λy s₃' h₃'=>nC (wpAny_standAt (wpAny_holding (nF h₃' (λ_ s₄ h₄=>nE ⟨rfl,h₄⟩) λ_ _ h'=>h')))) λ_ _ h'=>h'))) λ_ _ h'=>h'))
end
section
variable{X:Cx}
abbrev BD(X:Cx)(target kx vx:Expr)(env:Env)(a:Addr)(R:Result->Shared->Prop)(v:Value)(K:Shared->Prop)(s:Shared):Prop:=
 wpAny (model X.prog X.w) X.A (assign target env v) (λ_ s₂=>wpAny (model X.prog X.w) X.A (eval kx env) (λx s₃=>wpAny (model X.prog X.w) X.A (eval vx env) (λy s₃'=>
  wpAny (model X.prog X.w) X.A (dictSet a x y) (λ_ s₄=>K s₄) (notedBy (model X.prog X.w) X.A env λe s'=>R (.error e) s') s₃') (notedBy (model X.prog X.w) X.A env λe s'=>R (.error e) s') s₃) (notedBy (model X.prog X.w) X.A env λe s'=>R (.error e) s') s₂) (notedBy (model X.prog X.w) X.A env λe s'=>R (.error e) s') s
end
def DCompGoK(σ0:L2.St)(J:It)(g:TG)(tk tv:TE)(Q:VK)(p:Addr)(H':Hp):Prop:=
 ∃W:Nat->Nat->List (Key×V)->Hp->Prop,(∃m,W 0 m [] H')/\∀i m ys H2,W i m ys H2->H2 p=some (.dK ys)/\ys.length<sizeLine/\
  ((J.stop i H2/\Q (.ref p) H2)∨(J.go i H2/\∀x H3,J.yld i H2 x H3->g x σ0 H3 fun σ4 H4=>Keep σ0 σ4/\tk σ4 H4 λy H5=>tv σ4 H5 λv H6=>∃(k:Key),y=kV k/\H6 p=some (.dK ys)/\∃m',m'<m/\W (i+1) m' (vI ys k v) (upd H6 p (.dK (vI ys k v)))))
def ME(own:Nat)(idx:List Nat)(wi:TI)(g:TG)(tk tv:TE):TE:=fun σ H Q=>wi σ H λJ H1=>∀p H',H1 p=none->Same H1 H'->H' p=some (.dK [])->
 DCompGoK (List.replicate own none++idx.map λj=>(σ[j]?).getD none) J g tk tv Q p H'
section
variable{X:Cx}
theorem d_setK{ac:List (Addr×Obj)}{σ:L2.St}{H:Hp}{s:Shared}{a:Addr}{v:V}{u r:Value}{A:Around}{E:Value->Shared->Prop}{ag:List (Key×V)}{k:Key}{Q:Unit->Shared->Prop}(I:Inv X ac σ H s)(e:H a=some (.dK ag))(l:ag.length<sizeLine)(ry:RelV (kV k) u)(rv:RelV v r)
  (h:∀s',Inv X ac σ (upd H a (.dK (vI ag k v))) s'->Q () s'):wpAny (model X.prog X.w) A (dictSet a u r) Q E s:=by
 obtain⟨z,hd,vs,rel,dd⟩:=VY I.hok e;have hz:vs.length<=sizeLine:=by rw[<-rel.length];exact z
 have hl:(vI ag k v).length<=sizeLine:=by have:=xW ag k v;omega
 refine wpAny_dictSet_pairs (hsz:=hz) (BJ ry) dd λh' dd' hs=>h _ ?_;have he:∃q,h'.get? a=some q:=let ⟨q,_,_,hq,_⟩:=dd';⟨q,hq⟩;exact CD I (by rw[e];exact True.intro) hs he (ID hl hd (rel.put k rv) dd')
theorem UU{ac:List (Addr×Obj)}{σ:L2.St}(s2:Shared)(H1:Hp)(h:Heap)(I2:Inv X ac σ H1 s2)(hD:h.get? s2.heap.objs.size=some { cls:=.type "dict",dict:=none,data:=.dict #[] 0 }):ObjOk X.prog X.w (upd H1 s2.heap.objs.size (.dK [])) h s2.heap.objs.size (.dK []):=
 ⟨mX _,beq_eq_false_iff_ne.mpr (Ne.symm (mO I2.big)),[],.nil,_,#[],0,hD,⟨rfl,rfl,rfl⟩,rfl,(λ_ he=>by simp at he),Pairs.nil,mF⟩
theorem cgoK{target kx vx:Expr}{g:TG}{tk tv:TE}{N:List Str}{scope:Scope}{cl:List (Str×Addr)}(hg:∀C fp s2 H2,PG (jN X N scope cl C fp s2 H2) target g)(hkx:∀C fp s2 H2,PE (jN X N scope cl C fp s2 H2) kx tk)(hvx:∀C fp s2 H2,PE (jN X N scope cl C fp s2 H2) vx tv){σ0:L2.St}{Q:VK}(C:Addr)(fp:List Addr)(s2:Shared)(H2:Hp)(J:It)(p:Addr)(H':Hp)(R:Result->Shared->Prop)
  (h:DCompGoK σ0 J g tk tv Q p H'):CGo (jN X N scope cl C fp s2 H2) σ0 J (BD X target kx vx (compEnvC scope cl C X.env) p R) (λH=>Q (.ref p) H) H':=by
 obtain⟨W,⟨m0,w0⟩,turn⟩:=h;refine⟨λi m H=>∃ys,W i m ys H,⟨m0,[],w0⟩, ?_⟩;rintro i m H3 ⟨ys,w⟩;obtain⟨hp3,hz3,hw⟩:=turn i m ys H3 w;refine hw.imp id λ⟨go,step⟩=>⟨go,λx H5 y5 pns u s5 K I5 r5 hK=>?_⟩;refine nF (hg _ _ _ _ _ s5 _ H5 x u _ I5 r5 (step x H5 y5)) (λ_ s6 ⟨σ6,H6,I6,kp6,q6⟩=>?_) λ_ _ z=>z.elim;refine nF (hkx _ _ _ _ _ s6 σ6 H6 _ I6 q6) (λy s7 ⟨yv,H7,I7,r7,q7⟩=>?_) λ_ _ z=>z.elim;refine nF (hvx _ _ _ _ _ s7 σ6 H7 _ I7 q7) (λv' s7' ⟨vv,H7',I7',r7',q7'⟩=>?_) λ_ _ z=>z.elim;obtain⟨k',ey,e7,m',hm',w7⟩:=q7';subst ey;exact d_setK (X:=jN X N scope cl C fp s2 H2) (A:=X.A) I7' e7 hz3 r7 r7' λs8 I8=>hK _ _ _ m' I8 kp6 hm' ⟨_,w7⟩
theorem zR{own:Nat}{idx:List Nat}{N:List Str}{kx vx target iter:Expr}{scope:Scope}{cl:List (Str×Addr)}{pos:Pos}{wi:TI}{g:TG}{tk tv:TE}(hc:X.calm=true)
  (hk:scope.kind=.function) (hclos:closureFor scope X.env=pure cl) (hcell:∀x∈scope.names,x.2≠.cell) (hnames:∀x∈scope.names,x.2=.local->scope.names.lookup x.1=some .local)
  (hsub:∀x c,cl.lookup x=some c->X.env.cells.lookup x=some c) (hhas:∀x,((relabel scope X.env).names.lookup x=some .cell∨(relabel scope X.env).names.lookup x=some .free)->∃c,cl.lookup x=some c)
  (hlen:N.length=own+idx.length)
  (hidx:∀(k j:Nat) (x:Str),idx[k]? = some j->N[own+k]? = some x->X.N[j]? = some x/\X.env.kindOf x=some .cell/\(relabel scope X.env).names.lookup x=some .cell/\X.env.scope.names.lookup x=some .cell)
  (hi:PI X target iter wi) (hg:∀C fp s2 H2,PG (jN X N scope cl C fp s2 H2) target g) (hkx:∀C fp s2 H2,PE (jN X N scope cl C fp s2 H2) kx tk) (hvx:∀C fp s2 H2,PE (jN X N scope cl C fp s2 H2) vx tv)
  (hs:∀x,foldedSetIterable iter X.env x=pure x:=by intro _;rfl):PE X (.DictComp kx vx [⟨target,iter,[],0⟩] scope pos) (ME own idx wi g tk tv):=by
 intro ac s σ H Q I h;rw[arm_eval_DictComp];exact yG ⟨hk,hclos,hcell,hnames,hsub,hhas,hlen,hidx⟩ hc I hi h rfl hs (data:=.dict #[] 0) (mX _) rfl UU (B:=BD X target kx vx) (λV=>wF V) codeAny_compStart_dict (cgoK hg hkx hvx) VI
end
section
variable{X:Cx}
end
section
variable{X:Cx}
end
section
variable{prog:Program}{w:World}{A:Around}{R:Result->Shared->Prop}{s:Shared}
end
def CompGoFI(σ0:L2.St)(J:It)(g:TG)(tt:TT)(te:TE)(Q:VK)(p:Addr)(H':Hp):Prop:=
 ∃W:Nat->Nat->List V->Hp->Prop,(∃m,W 0 m [] H')/\∀i m ys H2,W i m ys H2->H2 p=some (.lst ys)/\ys.length<sizeLine/\
  ((J.stop i H2/\Q (.ref p) H2)∨(J.go i H2/\∀x H3,J.yld i H2 x H3->g x σ0 H3 fun σ4 H4=>Keep σ0 σ4/\tt σ4 H4 λb H5=>if b=true then te σ4 H5 λy H6=>H6 p=some (.lst ys)/\∃m',m'<m/\W (i+1) m' (ys++[y]) (upd H6 p (.lst (ys++[y])))else ∃m',m'<m/\W (i+1) m' ys H5))
def WV(own:Nat)(idx:List Nat)(wi:TI)(g:TG)(tt:TT)(te:TE):TE:=fun σ H Q=>wi σ H λJ H1=>∀p H',H1 p=none->Same H1 H'->H' p=some (.lst [])->
 CompGoFI (List.replicate own none++idx.map λj=>(σ[j]?).getD none) J g tt te Q p H'
section
variable{X:Cx}
abbrev BI(X:Cx)(target c elt:Expr)(env:Env)(a:Addr)(R:Result->Shared->Prop)(v:Value)(K:Shared->Prop)(s:Shared):Prop:=
 wpAny (model X.prog X.w) X.A (assign target env v) (λ_ s₂=>wpAny (model X.prog X.w) X.A (isTrue c env (eval c env)) (λb s₂'=>if b=true then wpAny (model X.prog X.w) X.A (eval elt env) (λx s₃=>
  wpAny (model X.prog X.w) X.A (call (.builtin "list.append") [.ref a,x]) (λ_ s₄=>K s₄) (notedBy (model X.prog X.w) X.A env λe s'=>R (.error e) s') s₃) (notedBy (model X.prog X.w) X.A env λe s'=>R (.error e) s') s₂' else K s₂') (notedBy (model X.prog X.w) X.A env λe s'=>R (.error e) s') s₂) (notedBy (model X.prog X.w) X.A env λe s'=>R (.error e) s') s
theorem cgoFI{target c elt:Expr}{g:TG}{tt:TT}{te:TE}{N:List Str}{scope:Scope}{cl:List (Str×Addr)}(hg:∀C fp s2 H2,PG (jN X N scope cl C fp s2 H2) target g)(ht:∀C fp s2 H2,PT (jN X N scope cl C fp s2 H2) c tt)(he:∀C fp s2 H2,PE (jN X N scope cl C fp s2 H2) elt te){σ0:L2.St}{Q:VK}(C:Addr)(fp:List Addr)(s2:Shared)(H2:Hp)(J:It)(p:Addr)(H':Hp)(R:Result->Shared->Prop)
  (h:CompGoFI σ0 J g tt te Q p H'):CGo (jN X N scope cl C fp s2 H2) σ0 J (BI X target c elt (compEnvC scope cl C X.env) p R) (λH=>Q (.ref p) H) H':=by
 obtain⟨W,⟨m0,w0⟩,turn⟩:=h;refine⟨λi m H=>∃ys,W i m ys H,⟨m0,[],w0⟩, ?_⟩;rintro i m H3 ⟨ys,w⟩;obtain⟨hp3,hz3,hw⟩:=turn i m ys H3 w;refine hw.imp id λ⟨go,step⟩=>⟨go,λx H5 y5 pns u s5 K I5 r5 hK=>?_⟩;refine nF (hg _ _ _ _ _ s5 _ H5 x u _ I5 r5 (step x H5 y5)) (λ_ s6 ⟨σ6,H6,I6,kp6,q6⟩=>?_) λ_ _ z=>z.elim;refine nF (ht _ _ _ _ _ s6 σ6 H6 _ I6 q6) (λb s6' ⟨H6',I6',q6'⟩=>?_) λ_ _ z=>z.elim;cases b with
 | false=>
  rw[nG gF]at q6' ⊢;obtain⟨m',hm',w7⟩:=q6';exact hK _ _ _ m' I6' kp6 hm' ⟨_,w7⟩
 | true=>
  rw[nH rfl]at q6' ⊢;refine nF (he _ _ _ _ _ s6' σ6 H6' _ I6' q6') (λy s7 ⟨yv,H7,I7,r7,e7,m',hm',w7⟩=>?_) λ_ _ z=>z.elim;refine nF (qE (X:=jN X N scope cl C fp s2 H2) _ s7 σ6 H7 (.ref p) [yv] (.ref p) [y] (λ_ H8=>H8=upd H7 p (.lst (ys++[yv]))) I7 rfl (.cons r7 .nil) ⟨_,ys,yv,rfl,rfl,e7,hz3,rfl⟩) (λ_ s8 ⟨_,H8,I8,_,q8⟩=>?_) λ_ _ z=>z.elim;subst q8;exact hK _ _ _ m' I8 kp6 hm' ⟨_,w7⟩
end
end Lw
namespace LwD
open PySem PySem.Spec PyProof.Rows L2
section
variable{prog:Program}{w:World}{A:Around}{E:Value->Shared->Prop}{s:Shared}{d it vw:Addr}{es:Array DictEntry}{ep i:Nat}
end
section
variable{X:Cx}
end
end LwD
namespace Lw
open PySem PySem.Spec PyProof.Rows L2
section
variable{X:Cx}
theorem IZ{i:Nat}{y:Str}{py spos:Pos}(hN:X.N.Nodup)(hi:X.N[i]? = some y)(hx:Loc X.env.scope y){own:Nat}{idx:List Nat}{N:List Str}{elt target iter c:Expr}{scope:Scope}{cl:List (Str×Addr)}{pos:Pos}{wi:TI}{g:TG}{tt:TT}{te:TE}(hc:X.calm=true)
  (hk:scope.kind=.function) (hclos:closureFor scope X.env=pure cl) (hcell:∀x∈scope.names,x.2≠.cell) (hnames:∀x∈scope.names,x.2=.local->scope.names.lookup x.1=some .local)
  (hsub:∀x c,cl.lookup x=some c->X.env.cells.lookup x=some c) (hhas:∀x,((relabel scope X.env).names.lookup x=some .cell∨(relabel scope X.env).names.lookup x=some .free)->∃c,cl.lookup x=some c)
  (hlen:N.length=own+idx.length)
  (hidx:∀(k j:Nat) (x:Str),idx[k]? = some j->N[own+k]? = some x->X.N[j]? = some x/\X.env.kindOf x=some .cell/\(relabel scope X.env).names.lookup x=some .cell/\X.env.scope.names.lookup x=some .cell)
  (hit:PI X target iter wi) (hg:∀C fp s2 H2,PG (jN X N scope cl C fp s2 H2) target g) (ht:∀C fp s2 H2,PT (jN X N scope cl C fp s2 H2) c tt) (he:∀C fp s2 H2,PE (jN X N scope cl C fp s2 H2) elt te)
  (hsw:swapsWith (.ListComp elt [⟨target,iter,[c],0⟩] scope pos) (some (.Name y py)) spos.line X.env=pure true:=by rfl)
  (hs:∀x,foldedSetIterable iter X.env x=pure x:=by intro _;rfl) (hfn:X.fn y=true∨X.env.scope.names.lookup y=some .local:=by first | exact .inl rfl | exact .inr rfl | assumption):PS X (.Assign [.Name y py] (.ListComp elt [⟨target,iter,[c],0⟩] scope pos) spos) (LA (WV own idx wi g tt te) (jS i)):=by
 intro ac s σ H D I h;rw[exec_Assign_Name_used _ _ _ _ hsw];refine nC (wpAny_standAt (nC ?_));show wpAny _ X.A (do let _<-comprehension (.ListComp elt [⟨target,iter,[c],0⟩] scope pos) scope X.env _ (newList []) false (eval iter X.env) (some (assign (.Name y py) X.env))) _ _ s;exact nC (nF (yG ⟨hk,hclos,hcell,hnames,hsub,hhas,hlen,hidx⟩ hc I hit h rfl hs (data:=.seq ([]:List Value).toArray) (mX _) rfl HR (B:=BI X target c elt) (λV=>KE V) codeAny_compStart_list (cgoFI hg ht he) (LP hN hi hx hfn)) (λ_ s' hq=>nE (nE hq)) λ_ _ e=>e)
end
section
variable{X:Cx}{CX:CXT}{k:Nat}{f:Addr}{fd:FuncData}{ps ks:List Str}{sp:Sp}{E:XK}{x:Str}{p pos:Pos}{kws:List Keyword}{tk:TA}{g:List Value->List Value->List Value}{gV:List V->List V->List V}
theorem zS(F:FnOk X.prog X.w X.K X.mg X.base CX k f fd ps sp)(hr:Room k X.A)(hg:Gl X x)(hm:X.mg x=some (.ref f))(hk:PySem.W.keepIn X.K (.ref f)=true)(hb:KBinds X.K fd ps ks g gV)(hx:Passes CX X E)
  (hkw:PK X kws tk) (hall:(backToKw pos (keywordEach kws X.env)).all (·.1.isSome)=true:=by rfl) (hks:(backToKw pos (keywordEach kws X.env)).filterMap (·.1)=ks:=by rfl)
  (hdb:(x==("__debug__" :Str))=false:=by decide) (hpl:((backTo pos (starEach [] X.env)).any (·.1)||(backToKw pos (keywordEach kws X.env)).any (·.1.isNone))=false:=by rfl) :
  PE X (.Call (.Name x p) [] kws pos) (tCallK sp gV E tNil tk):=by
 intro ac s σ H Q I h;refine wpAny_Call_Name_kw (HW I hg hm ?_ hdb);refine PySem.W.callWith_KW0 (h₀:=X.base) I.ok.mod.kin hk hall (thn (hkw pos ac s σ H _ I h) λws s2 ⟨zs,H2,I2,rz,q2⟩=>⟨I2.kIn, ?_⟩) hpl;rw[hks];exact XF (us:=[]) F hr hb hx I2 .nil rz q2
end
def gK:List Value->List Value->List Value
 | [],ws=>ws
 | _::_,_=>[]
def gKV:List V->List V->List V
 | [],zs=>zs
 | _::_,_=>[]
abbrev KBs(K:nI)(fd:FuncData)(ps:List Str):Prop:=KBinds K fd ps ps gK gKV
theorem Fun.kbs{K:nI}{x:Str}{st:Stmt}{f:Addr}{fd:FuncData}{ps:List Str}(F:Fun K x x st f fd)(hp:0<ps.length)
  (h:∀(kV doc pm:Value) (an:Option Addr) (cdv ct:Value) (ws:List Value),ws.length=ps.length->bindArgs (PySem.W.fnOf x x (xX st) (vU st) (jJ st) .none kV doc pm an cdv ct) ⟨[],ps.zip ws⟩=pure (ps.zip ws)):KBs K fd ps:=by
 obtain⟨oc,od,kV,doc,pm,an,cdv,ct,osl,rfl,lk,hcd⟩:=F.ex;refine⟨λs us ws _ hl=>?_,fun {vs us zs ws} r rz=>?_⟩
 ·cases us with
  | nil=>exact .of_eq (h kV doc pm an cdv ct ws hl)
  | cons a l=>exact absurd hl (by show([]:List Value).length≠ps.length;simp;omega)
 ·cases r with
  | nil=>exact rz
  | cons _ _=>exact .nil
mutual
inductive DecK(K:nI)(H:Hp):V->PyData->Prop where
 | bl (b:Bool):DecK K H (.bl b) (.bool b)
 | int (i:Int):DecK K H (.int i) (.int i)
 | tup {a:Addr} {xs:List V} {ds:List PyData} (e:SqT K H a xs) (h:DecKs K H xs ds):DecK K H (.ref a) (.tuple ds)
inductive DecKs(K:nI)(H:Hp):List V->List PyData->Prop where
 | nil:DecKs K H [] []
 | cons {x:V} {d:PyData} {xs:List V} {ds:List PyData} (h:DecK K H x d) (t:DecKs K H xs ds):DecKs K H (x::xs) (d::ds)
end
section
variable{X:Cx}
mutual
theorem DecK.reads{ac:List (Addr×Obj)}{σ:L2.St}{H:Hp}{s:Shared}(I:Inv X ac σ H s):∀{x:V} {d:PyData} {u:Value},DecK X.K H x d->RelV x u->∃as,Reads s.heap u d as
 | _,_,_,.bl b,r=>by cases r;exact⟨_,.bool b⟩
 | _,_,_,.int i,r=>by obtain⟨t,rfl⟩:=r;exact⟨_,.int i t⟩
 | _,_,_,.tup e h,r=>by
  cases r;obtain⟨its,rv,⟨o,ho,hc,n,hd⟩,_⟩:=I.tuple e;obtain⟨as,ra⟩:=DecKs.reads I h rv;exact⟨_,.tuple ho hc hd (by simpa using ra)⟩
theorem DecKs.reads{ac:List (Addr×Obj)}{σ:L2.St}{H:Hp}{s:Shared}(I:Inv X ac σ H s):∀{xs:List V} {ds:List PyData} {us:List Value},DecKs X.K H xs ds->Vals xs us->∃as,ReadsAll s.heap us ds as
 | _,_,_,.nil,r=>by cases r;exact⟨_,.nil⟩
 | _,_,_,.cons h t,r=>by
  cases r with
  | cons q r=>
   obtain⟨as,ra⟩:=DecK.reads I h q;obtain⟨bs,rb⟩:=DecKs.reads I t r;exact⟨_,.cons ra rb⟩
end
end
section
variable{X:Cx}
theorem wZ{i:Nat}{y:Str}{py spos:Pos}(hN:X.N.Nodup)(hi:X.N[i]? = some y)(hx:Loc X.env.scope y){own:Nat}{idx:List Nat}{N:List Str}{kx vx target iter:Expr}{scope:Scope}{cl:List (Str×Addr)}{pos:Pos}{wi:TI}{g:TG}{tk tv:TE}(hc:X.calm=true)
  (hk:scope.kind=.function) (hclos:closureFor scope X.env=pure cl) (hcell:∀x∈scope.names,x.2≠.cell) (hnames:∀x∈scope.names,x.2=.local->scope.names.lookup x.1=some .local)
  (hsub:∀x c,cl.lookup x=some c->X.env.cells.lookup x=some c) (hhas:∀x,((relabel scope X.env).names.lookup x=some .cell∨(relabel scope X.env).names.lookup x=some .free)->∃c,cl.lookup x=some c)
  (hlen:N.length=own+idx.length)
  (hidx:∀(k j:Nat) (x:Str),idx[k]? = some j->N[own+k]? = some x->X.N[j]? = some x/\X.env.kindOf x=some .cell/\(relabel scope X.env).names.lookup x=some .cell/\X.env.scope.names.lookup x=some .cell)
  (hit:PI X target iter wi) (hg:∀C fp s2 H2,PG (jN X N scope cl C fp s2 H2) target g) (hkx:∀C fp s2 H2,PE (jN X N scope cl C fp s2 H2) kx tk) (hvx:∀C fp s2 H2,PE (jN X N scope cl C fp s2 H2) vx tv)
  (hsw:swapsWith (.DictComp kx vx [⟨target,iter,[],0⟩] scope pos) (some (.Name y py)) spos.line X.env=pure true:=by rfl)
  (hs:∀x,foldedSetIterable iter X.env x=pure x:=by intro _;rfl) (hfn:X.fn y=true∨X.env.scope.names.lookup y=some .local:=by first | exact .inl rfl | exact .inr rfl | assumption):PS X (.Assign [.Name y py] (.DictComp kx vx [⟨target,iter,[],0⟩] scope pos) spos) (LA (ME own idx wi g tk tv) (jS i)):=by
 intro ac s σ H D I h;rw[exec_Assign_Name_used _ _ _ _ hsw];refine nC (wpAny_standAt (nC ?_));show wpAny _ X.A (do let _<-comprehension (.DictComp kx vx [⟨target,iter,[],0⟩] scope pos) scope X.env _ newDict false (eval iter X.env) (some (assign (.Name y py) X.env))) _ _ s;exact nC (nF (yG ⟨hk,hclos,hcell,hnames,hsub,hhas,hlen,hidx⟩ hc I hit h rfl hs (data:=.dict #[] 0) (mX _) rfl UU (B:=BD X target kx vx) (λV=>wF V) codeAny_compStart_dict (cgoK hg hkx hvx) (LP hN hi hx hfn)) (λ_ s' hq=>nE (nE hq)) λ_ _ e=>e)
end
def KDict(P:Program)(w:World)(K:nI)(a:Addr)(ag:List (Key×V)):Prop:=(a==sysModules)=false/\∀h:Heap,K.In h->∃vs,KV ag vs/\h.DictOf (kE P w) a vs
def tKGet(a:Addr)(ag:List (Key×V))(td ty:TE):TE:=fun σ H Q=>td σ H λx H1=>ty σ H1 λy H2=>∃k v,x=.ref a/\y=kV k/\qK ag k=some v/\Q v H2
def WU(a:Addr)(ag:List (Key×V))(ty td:TE):TE:=fun σ H Q=>ty σ H λy H1=>td σ H1 λx H2=>∃k,x=.ref a/\y=kV k/\Q (.bl (!(qK ag k).isSome)) H2
section
variable{X:Cx}{a:Addr}{ag:List (Key×V)}{o i:Expr}{pos:Pos}{td ty:TE}
theorem XX(g:KDict X.prog X.w X.K a ag)(ho:PE X o td)(hi:PE X i ty)(hs:NoSl i):PE X (.Subscript o i pos) (tKGet a ag td ty):=by
 intro ac s σ H Q I h;refine MI PySem.F.slot_dict_getitem.lookup hs (thn (ho ac s σ H _ I h) λu s1 ⟨x,H1,I1,rx,q1⟩=>thn (hi ac s1 σ H1 _ I1 q1) λiv s2 ⟨y,H2,I2,ry,k,v,ex,ey,l,q2⟩=>?_);subst ex ey;obtain rfl:u=Value.ref a:=rx;obtain⟨vs,rel,dd⟩:=g.2 _ I2.kIn;obtain⟨w',hw,rw'⟩:=RelO.some_of (v:=v) (o:=valueAt vs k) (by rw[<-l];exact rel.val k);exact⟨dd.typeIs,wpAny_getItem_of (BJ ry) dd.mapOf hw ⟨v,H2,I2.tok _,rw',q2⟩⟩
theorem PQ(g:KDict X.prog X.w X.K a ag)(hi:PE X i ty)(ho:PE X o td):PC X .NotIn i o (WU a ag ty td):=by
 intro ac s σ H Q I h;refine thn (hi ac s σ H _ I h) λiv s1 ⟨y,H1,I1,ry,q1⟩=>thn (ho ac s1 σ H1 _ I1 q1) λu s2 ⟨x,H2,I2,rx,k,ex,ey,q2⟩=>?_;subst ex ey;obtain rfl:u=Value.ref a:=rx;obtain⟨vs,rel,dd⟩:=g.2 _ I2.kIn;refine wpAny_notIn_of (BJ ry) g.1 dd.mapOf ?_;rw[<-(rel.val k).isSome_eq];exact⟨.bl (!(qK ag k).isSome),H2,I2.tok _,rfl,q2⟩
end
def CalOk(X:Cx)(f:Addr)(sp:Sp):Prop:=∃(k:Nat) (fd:FuncData) (ps:List Str),FnOk X.prog X.w X.K X.mg X.base CX0 k f fd ps sp/\Room k X.A/\PySem.W.keepIn X.K (.ref f)=true/\Binds X.K fd ps []
def tCallV(X:Cx)(tf:TE)(t:TA):TE:=fun σ H Q=>tf σ H λv H1=>∃(f:Addr) (sp:Sp),v=.ref f/\CalOk X f sp/\t σ H1 λvs H2=>sp vs H2 Q E0
section
variable{X:Cx}{q pos:Pos}{y:Str}{e:Expr}{es:List Expr}{tf:TE}{t:TA}
theorem TU(hf:PE X (.Name y q) tf)(ha:PA X (e::es) t)(he:starEach (e::es) X.env=(false,eval e X.env)::starEach es X.env:=by rfl)(hpl:(backTo pos (starEach es X.env)).any (·.1)=false:=by rfl) :
  PE X (.Call (.Name y q) (e::es) [] pos) (tCallV X tf t):=by
 intro ac s σ H Q I h;refine wpAny_Call_Name_kw (thn (hf ac s σ H _ I h) λu s1 ⟨v,H1,I1,r,f,sp,ev,⟨k,fd,ps,F,hr,hk,hb⟩,q1⟩=>?_);subst ev;obtain rfl:u=Value.ref f:=r;refine PySem.W.callWith_K (h₀:=X.base) I1.ok.mod.kin hk (thn (ha pos ac s1 σ H1 _ I1 q1) λus s2 ⟨vs,H2,I2,r2,q2⟩=>⟨I2.kIn, ?_⟩) he hpl;exact SY F hr hb .nil jK I2 r2 (by rw[List.append_nil];exact q2)
end
theorem XO{X:Cx}{body:List Stmt}{h0:ExceptHandler}{hs:List ExceptHandler}{tpos:Pos}{tb:TS}(hxe:X.xe=λ_ _=>False)(hb:PSs X body tb):PS X (.Try body (h0::hs) [] [] tpos) tb:=by
 intro ac s σ H D I h;refine wpAny_Try_except (nF (hb ac s σ H D I h) (λfl s1 h1=>?_) λv s1 h1=>?_)
 ·cases fl with
  | next=>exact wpAny_execs_nil h1
  | brk=>exact h1
  | cont=>exact h1
  | ret u=>exact h1
 ·rw[hxe]at h1;exact h1.elim
end Lw
namespace LwD
open PySem PySem.Spec PyProof.Rows L2 Lw
section
variable{X:Cx}
def rDictTT:List V->Hp->VK->Prop:=λxs H Q=>∃(t:Addr) (ys:List V) (ag:List (List Key×V)),xs=[.ref t]/\H t=some (.tup ys)/\PairsIn H ys ag/\(ag.map (·.1)).Nodup/\New H (.dT ag) Q
theorem KI(hc:X.calm=true)(hu:X.A.units+2<cLine):CallR X (.type "dict") rDictTT:=by
 intro ac s σ H xs us Q I r h;obtain⟨t,ys,ag,rfl,ht,hp,hn,q⟩:=h;obtain⟨u,rfl,ru⟩:=xG r;cases ru;obtain⟨hz,its,rv,⟨o,ho,hcl,n,hdt⟩,nd⟩:=(show ObjOk X.prog X.w H s.heap t (.tup ys)from I.hok t _ ht);have hd:o.dict=none:=nd o ho;have key:∀(ys:List V) (its:List Value) (ag:List (List Key×V)),Vals ys its->PairsIn H ys ag->∃ps:List (List Key×Addr×Value),KT H ag ps/\Paired (PairAt X.prog X.w s.heap) its ps:=by
  intro ys its ag rv hp;induction hp generalizing its with
  | nil=>cases rv;exact⟨[],.nil,.nil⟩
  | @cons y p ys ag h t ih=>
   cases rv with
   | cons r1 rt=>
    obtain⟨ps,k1,k2⟩:=ih _ rt;obtain⟨r,b,rfl,e1,e2⟩:=h;cases r1;obtain⟨_,il,rl,tp,_⟩:=(show ObjOk X.prog X.w H s.heap r (.tup [.ref b,p.2])from e1.ok I.hok);cases rl with
    | cons a1 a2=>cases a2 with
     | cons b1 b2=>
      cases b2;cases a1;rename_i vb;exact⟨(p.1,b,vb)::ps,.cons ⟨rfl,e2,b1⟩ k1,.cons ⟨r,rfl,tp,EN I.hok e2⟩ k2⟩
 obtain⟨ps,k1,k2⟩:=key ys its ag rv hp;have lz:ps.length=its.length:=(Paired.length k2).symm;have lz2:ag.length=ps.length:=Paired.length k1;have lz3:=rv.length;have hn2:(ps.map (·.1)).Nodup:=by
  have:ag.map (·.1)=ps.map (·.1):=KTkeys k1;rw[<-this];exact hn
 refine WA (ps:=ps) (I.ok.hd hc) hu ho hcl hd hdt (λj=>?_) (by omega) λh' tk' kk D=>?_
 ·have pr:∀(l:List Value) (m:List (List Key×Addr×Value)),Paired (PairAt X.prog X.w s.heap) l m->∀j:Nat,Option.Rel (PairAt X.prog X.w s.heap) l[j]? m[j]? :=by
   intro l m h;induction h with
   | nil=>intro j;exact .none
   | cons a b ih=>intro j;cases j with
    | zero=>exact .some a
    | succ j=>exact ih j
  simpa using pr its ps k2 j
 ·rw[IV ps [] (by simpa using hn2),List.nil_append]at D;obtain⟨ob,es,ep,g1,g2,g3,g4,_,g5⟩:=D;refine⟨.ref s.heap.objs.size,_,I.laid (a:=s.heap.objs.size) (o:=.dT ag) kk uJ ⟨by omega,beq_eq_false_iff_ne.mpr (Ne.symm (mO I.big)),ps,(KT.keeps k1 λc ys e=>?_),ob,es,ep,g1,g2,g3,g4,g5⟩,rfl,q.at (I.hok.fresh uJ)⟩;rw[jL (λz=>by rw[z,I.hok.fresh uJ]at e;cases e)];exact e
end
end LwD
namespace Lw
open PySem PySem.Spec PyProof.Rows L2
theorem rvL{K:nI}{H:Hp}{p:Addr}{xs:List V}{i:Int}{v:V}{Q:VK}{σ:L2.St}{a:Nat}(e1:σ[a]? = some (some (.ref p)))(h:SqL K H p xs)(e:atI xs i=some v)(q:Q v H):tOp (rIxL K) (KZ a) (tC (.int i)) σ H Q:=⟨_,e1,p,xs,i,v,rfl,rfl,h,e,q⟩
theorem gT2{K:nI}{H:Hp}{a:Addr}{x y:V}{i j n:Nat}{σ:L2.St}{Q:L2.St->Hp->Prop}(h:SqT K H a [x,y])(hn:2=n)(q:Q ((σ.set i (some x)).set j (some y)) H):zK K n (kR (jS i) (kR (jS j) gNil)) (.ref a) σ H Q:=⟨a,_,rfl,h,hn,_,_,rfl,_,_,rfl,rfl,q⟩
theorem oVV{C:Int->Int->Prop}{g:Int->Int->V}{σ:L2.St}{a b:Nat}{x y:Int}{H:Hp}{Q:VK}(e1:σ[a]? = some (some (.int x)))(e2:σ[b]? = some (some (.int y)))(c:C x y)(q:Q (g x y) H):tOp (rI C g) (KZ a) (KZ b) σ H Q:=⟨_,e1,_,e2,_,_,rfl,rfl,c,q⟩
theorem gSet{p:Addr}{xs:List V}{i:Int}{j a:Nat}{v:V}{σ:L2.St}{H:Hp}{Q:L2.St->Hp->Prop}(e:σ[a]? = some (some (.ref p)))(h:H p=some (.lst xs))(hj:ixN xs.length i=some j)(q:Q σ (upd H p (.lst (xs.set j v)))):gSub (KZ a) (tC (.int i)) rSetL v σ H Q:=⟨_,e,p,xs,i,j,rfl,rfl,h,hj,q⟩
def Sm:V->Prop
 | .int i=>i.natAbs<2^1000
 | _=>True
inductive Thing(H:Hp):V->Prop where
 | sc {v:V} {k:Kd} (h:KdOf H v k) (n:k≠.tup):Thing H v
 | tup {a:Addr} {xs:List V} (e:H a=some (.tup xs)) (h:∀x∈xs,Sm x/\∃k,KdOf H x k):Thing H (.ref a)
def zE:List V->Bool
 | [.int t,.int b]=>decide (1<=b)&&decide (Int.gcd t b=1)
 | _=>false
def ET(H:Hp):V->Bool
 | .ref a=>match H a with
  | some (.tup xs)=>zE xs
  | _=>false
 | _=>false
theorem ZS{H:Hp}{v:V}{k:Kd}(h:KdOf H v k)(n:k≠.tup):ET H v=false:=by
 cases h with
 | tup e=>exact absurd rfl n
 | lst e=>simp only[ET,e]
 | _=>rfl
theorem JV{H:Hp}{a:Addr}{xs:List V}(e:H a=some (.tup xs)):ET H (.ref a)=zE xs:=by simp only[ET,e]
theorem EE{xs:List V}(h:xs.length≠2):zE xs=false:=by
 match xs,h with
 | [],_=>rfl
 | [_],_=>unfold zE;split<;>simp_all
 | [_,_],h=>exact absurd rfl h
 | _::_::_::_,_=>unfold zE;split<;>simp_all
theorem TY{x y:V}(h:∀n,x≠.int n):zE [x,y]=false:=by
 unfold zE;split
 ·rename_i t b e;injection e with e1 _
  exact absurd e1 (h t)
 ·rfl
theorem TX{x y:V}(h:∀n,y≠.int n):zE [x,y]=false:=by
 unfold zE;split
 ·rename_i t b e;injection e with _ e2
  injection e2 with e2 _
  exact absurd e2 (h b)
 ·rfl
def spWhole:Sp:=λvs H Q _=>∃v k,vs=[v]/\KdOf H v k/\Q (.bl (decide (k=.int))) H
def spIsf:Sp:=λvs H Q _=>∃v,vs=[v]/\Thing H v/\Q (.bl (ET H v)) H
def spGcd:Sp:=λvs H Q _=>∃a b:Int,vs=[.int a,.int b]/\0<b/\b.natAbs<2^8000/\Q (.int (Int.gcd a b)) H
def yM(t b:Int):Int:=(if b<0 then 0-t else t)/(Int.gcd t b:Int)
def zI(t b:Int):Int:=(if b<0 then 0-b else b)/(Int.gcd t b:Int)
structure Txt(mg:Str->Option Value):Prop where
 isi:mg "isinstance" = none
 len:mg "len" = none
 int:mg "int" = none
 bool:mg "bool" = none
 tup:mg "tuple" = none
 lst:mg "list" = none
 str:mg "str" = none
 abs:mg "abs" = none
 rng:mg "range" = none
 lbits:∃t,mg "LONG_BITS" = some (.int 8000 t)
 all:mg "all" = none
 sum:mg "sum" = none
 zip:mg "zip" = none
 sorted:mg "sorted" = none
 letters:∃t,mg "MOST_LETTERS" = some (.int 4 t)
 degree:∃t,mg "MOST_DEGREE" = some (.int 16 t)
 terms:∃t,mg "MOST_TERMS" = some (.int 500 t)
 pack:∃t,mg "PACK" = some (.int 256 t)
 short:∃t,mg "SHORT_BITS" = some (.int 1500 t)
 enum:mg "enumerate" = none
 dct:mg "dict" = none
 max:mg "max" = none
 rev:mg "reversed" = none
 any:mg "any" = none
structure Df(K:nI)(mg:Str->Option Value)(x:Str)(st:Stmt)(ps:List Str)(f:Addr)(fd:FuncData):Prop where
 F:Fun K x x st f fd
 b:Binds K fd ps []
 m:mg x=some (.ref f)
variable{P:Program}{w:World}{K:nI}{mg:Str->Option Value}{base:Heap}{f fd:_}
theorem XB:FnScope ["thing"] ["thing"] (jJ wI):=⟨rfl,rfl,rfl,by decide +kernel,rfl,by decide +kernel,by decide +kernel⟩
theorem EG(F:Fun K "is_whole" "is_whole" wI f fd)(T:Txt mg):FnOk P w K mg base CX0 1 f fd ["thing"] spWhole:=by
 refine F.ok XB (λvs H Q E h=>?_) (λcdv A outer s H vs Q E hr h=>?_)
 ·obtain⟨v,k,rfl,_⟩:=h
  rfl
 ·obtain⟨v,k,rfl,hk,q⟩:=h;refine⟨_,jE (jM (yL (vP HX T.isi T.int boot_int (pv 0)) (wM (LL (vP ER T.isi T.bool boot_bool (pv 0)))))), ?_⟩;refine⟨_,rfl,rfl,k,hk,_,rfl, ?_⟩;refine QL (λe=>?_) (λe=>?_)
  ·refine⟨_,rfl,rfl,k,hk,_,rfl, ?_⟩;cases k<;>first | exact q | exact absurd e (by decide)
  ·cases k<;>first | exact q | exact absurd rfl e
theorem scGcd:FnScope ["one","other"] ["one","other"] (jJ DB):=⟨rfl,rfl,rfl,by decide +kernel,rfl,by decide +kernel,by decide +kernel⟩
theorem NR{X:Cx} :MtR X "int.bit_length" (λx xs H Q=>∃i:Int,x=.int i/\xs=[]/\Q (.int (Builtin.Int.intBits i:Nat)) H):=by
 intro ac s σ H x xs v us Q I rx rs q;obtain⟨i,rfl,rfl,q⟩:=q;obtain⟨t,rfl⟩:=rx;cases rs;exact call_int_bit_length ⟨.int (Builtin.Int.intBits i:Nat),H,I.tok _,⟨_,rfl⟩,q⟩
theorem EH(F:Fun K "greatest_divisor" "greatest_divisor" DB f fd)(T:Txt mg):FnOk P w K mg base CX0 1 f fd ["one","other"] spGcd:=by
 obtain⟨tl,hl⟩:=T.lbits;refine F.ok scGcd (λvs H Q E h=>?_) (λcdv A outer s H vs Q E hr h=>?_)
 ·obtain⟨a,b,rfl,_⟩:=h
  rfl
 ·obtain⟨a,b,rfl,hb,hs,k⟩:=h;refine⟨_,jC (IY PassesOwn.never (kI zF (pv 1) jF (kD _))
    (jE (kT (kI uE (TV PySem.F.plainAttrs_int slot_int_bit_length type_int_bit_length NR (pv 1)) (kL (v:=.int 8000) (by rfl) hl ⟨_,rfl⟩) (kD _)) PL
     (jE (TJ (i:=0) (j:=1) rfl scGcd.nd rfl rfl (by decide) rfl rfl (jA (pv 1) (jA (jT AS (pv 0) (pv 1)) jB)) rfl)))))
   (jE (jM (pv 0))), ?_⟩
  refine IJ (fun σ H1=>H1=H/\∃p q:Int,σ=[some (.int p),some (.int q)]/\0<=q/\(0<q∨0<=p)/\q.natAbs<2^8000/\Int.gcd p q=Int.gcd a b)
   (fun σ _=>match σ with | [_,some (.int q)]=>q.toNat | _=>0) ⟨rfl,a,b,rfl,by omega,.inl hb,hs,rfl⟩ ?_ ?_
  ·rintro σ H1 ⟨rfl,p,q,rfl,h0,h1,hq8,h2⟩;refine⟨_,rfl,rfl,_,rfl, ?_⟩;refine QL (λe=>?_) (λe=>?_)
   ·have hq:0<q:=by
     have:q≠0:=λz=>by simp [z]at e
     omega
    have hbits:(Builtin.Int.intBits q)<=8000:=PySem.intBits_le_iff.mpr hq8;refine⟨_,rfl,rfl,_,rfl,rfl,_,_,rfl,rfl,_,rfl,xE (hW (by omega)) ?_⟩;refine⟨_,rfl,_,rfl,_,rfl,_,_,rfl,rfl,hq,_,_,rfl, ?_⟩;have m1:=Int.emod_nonneg p (b:=q) (by omega);have m2:=Int.emod_lt_of_pos p hq;have m3:(p%q).natAbs<=q.natAbs:=by omega
    refine⟨⟨rfl,q,p%q,rfl,m1,.inr h0,gD m3 hq8,(LwM.JU p q).trans h2⟩, ?_⟩;show(p%q).toNat<q.toNat;omega
   ·have hq:q=0:=by
     by_cases z:q=0
     ·exact z
     ·exact absurd (by simp [z]) e
    subst hq;refine⟨_,rfl, ?_⟩;have:p=((Int.gcd a b:Nat):Int):=by
     rw[<-h2,Int.gcd_zero_right];omega
    rw[this];exact k
  ·rintro σ H1 Q1 Q2 hQ ⟨v,e,hs,k',ek,q⟩;exact⟨v,e,hs,k',ek,hQ _ _ q⟩
theorem scIsf:FnScope ["thing","top","bottom"] ["thing"] (jJ LF):=⟨rfl,rfl,rfl,by decide +kernel,rfl,by decide +kernel,by decide +kernel⟩
theorem UM{fW fG:Addr}{fdW fdG:FuncData}(F:Fun K "is_fraction" "is_fraction" LF f fd)(T:Txt mg)(DW:Df K mg "is_whole" wI ["thing"] fW fdW)(DG:Df K mg "greatest_divisor" DB ["one","other"] fG fdG) :
  FnOk P w K mg base CX0 2 f fd ["thing"] spIsf:=by
 have GW:FnOk P w K mg base CX0 1 fW fdW ["thing"] spWhole:=EG DW.F T;have GG:FnOk P w K mg base CX0 1 fG fdG ["one","other"] spGcd:=EH DG.F T;refine F.ok scIsf (λvs H Q E h=>?_) (λcdv A outer s H vs Q E hr h=>?_)
 ·obtain⟨v,rfl,_⟩:=h
  rfl
 ·obtain⟨v,rfl,hv,q⟩:=h;refine⟨_,jC (kT (PW.pt (qU (kZ (kU (vP yQ T.isi T.tup boot_tuple (pv 0)))) (vB (kI zF (jX jW (by rfl) T.len PySem.boot_len (jA (pv 0) jB)) jF (kD _))))) (jE (jM xQ)) kC)
   (jC (vC (pv 0) (jY rfl (jG (jH (i:=1) scIsf.nd rfl (Or.inl rfl)) (jG (jH (i:=2) scIsf.nd rfl (Or.inl rfl)) jV))))
   (jC (kT (PW.pt (qU (kZ (kU (jD GW hr rfl DW.m DW.F.kp DW.b .nil jK (jA (pv 1) jB)))) (qU (kZ (kU (jD GW hr rfl DW.m DW.F.kp DW.b .nil jK (jA (pv 2) jB)))) (vB (kI JD (pv 2) jF (kD _)))))) (jE (jM xQ)) kC)
   (jE (jM (qZ JE (jD GG hr rfl DG.m DG.F.kp DG.b .nil jK (jA (pv 1) (jA (pv 2) jB))) jF (kD _)))))), ?_⟩
  cases hv with
  | @sc _ k hk n=>
   refine⟨_,rfl,rfl,k,hk,_,rfl, ?_⟩;refine uI (by cases k<;>first | rfl | exact absurd rfl n) (kK ?_);show Q (.bl false) H;rw[ZS hk n]at q;exact q
  | @tup a xs e hx=>
   rw[JV e]at q;refine⟨_,rfl,rfl,.tup,.tup e,_,rfl,qJ ?_⟩;refine⟨_,rfl,a,xs,rfl,.inr (SqT.of e),rfl,_,rfl, ?_⟩;by_cases hl:xs.length=2
   ·match xs,hl,hx,e,q with
    | [x,y],_,hx,e,q=>
     refine qJ ?_;obtain⟨_,k1,h1⟩:=hx x (by simp);obtain⟨_,k2,h2⟩:=hx y (by simp);refine⟨_,rfl,a,[x,y],rfl,SqT.of e,rfl,x,[y],rfl,y,[],rfl,rfl, ?_⟩;refine⟨_,rfl,x,k1,rfl,h1,_,rfl, ?_⟩;by_cases e1:k1=.int
     ·subst e1;cases h1 with
      | int t=>
      refine qJ ?_;refine⟨_,rfl,y,k2,rfl,h2,_,rfl, ?_⟩;by_cases e2:k2=.int
      ·subst e2;cases h2 with
       | int b=>
       refine qJ ?_;refine⟨_,rfl,_,_,rfl,rfl,_,rfl, ?_⟩;by_cases hb:b<1
       ·refine uI (mC hb) ?_;have z:zE [.int t,.int b]=false:=by
         show(decide (1<=b)&&_)=false;rw[hW (by omega)]
         rfl
        rw[z]at q;exact q
       ·refine xE (hW hb) ?_;refine⟨_,rfl,_,rfl,t,b,rfl,by omega,gG (hx (.int b) (by simp)).1 (uY (by decide) (by decide)),rfl, ?_⟩;have z:zE [.int t,.int b]=decide (V.int (Int.gcd t b:Int)=V.int 1):=by
         show(decide (1<=b)&&decide (Int.gcd t b=1))=_;rw[mC (by omega:1<=b),CC];by_cases g:Int.gcd t b=1
         ·simp [g]
         ·have:¬((Int.gcd t b:Int)=1):=by omega
          simp [g,this]
        rw[z]at q;exact q
      ·refine uI (by simp [e2]) ?_;refine kK ?_;rw[TX (by cases h2<;>first | exact absurd rfl e2 | (intro n z;cases z))]at q;exact q
     ·refine uI (by simp [e1]) ?_;refine kK ?_;rw[TY (by cases h1<;>first | exact absurd rfl e1 | (intro n z;cases z))]at q;exact q
   ·refine uI ?_ ?_
    ·rw[hW]
     ·rfl
     ·intro z;injection z with z
      omega
    ·rw[EE hl]at q;exact q
theorem NV{t b:Int}(h:0<b):yM t b=t/(Int.gcd t b:Int)/\zI t b=b/(Int.gcd t b:Int):=by
 unfold yM zI;rw[nG (by omega),nG (by omega)];exact⟨rfl,rfl⟩
end Lw
namespace LwV
abbrev Pl:=List (List Int×Rat)
def cf:Pl->List Int->Rat
 | [],_=>0
 | x::P,m=>(if x.1=m then x.2 else 0)+cf P m
theorem CG(x:List Int×Rat)(P:Pl)(m:List Int):cf (x::P) m=(if x.1=m then x.2 else 0)+cf P m:=rfl
theorem wQ{P:Pl}{m:List Int}(h:∀x∈P,x.1≠m):cf P m=0:=by
 induction P with
 | nil=>rfl
 | cons x P ih=>
  rw[CG,nG (h x (by simp)),ih λy hy=>h y (by simp [hy])]
  grind
theorem WI{P:Pl}{m:List Int}(h:cf P m≠0):m∈P.map (·.1):=by
 refine uP λn=>h (wQ λx hx e=>n ?_);exact mP.mpr ⟨x,hx,e⟩
theorem yA{P:Pl}(nd:(P.map (·.1)).Nodup){x:List Int×Rat}(hx:x∈P):cf P x.1=x.2:=by
 induction P with
 | nil=>cases hx
 | cons y P ih=>
  rw[mH,List.nodup_cons]at nd;rw[CG];rcases mI.mp hx with rfl | h
  ·rw[nH rfl,wQ λz hz e=>nd.1 (mP.mpr ⟨z,hz,e⟩)]
   grind
  ·rw[nG λe=>nd.1 (mP.mpr ⟨x,h,e.symm⟩),ih nd.2 h]
   grind
end LwV
namespace LwQ
end LwQ
namespace Lw
open PySem PySem.Spec PyProof.Rows L2
structure FrOk(n:Nat)(t b:Int):Prop where
 pos:0<b
 low:Int.gcd t b=1
 st:t.natAbs<2^n
 sb:b.natAbs<2^n
def At2(H:Hp)(p:Addr)(t b:Int):Prop:=H p=some (.tup [.int t,.int b])
theorem AI{a b:Int}{m n:Nat}(ha:a.natAbs<2^m)(hb:b.natAbs<2^n):(a*b).natAbs<2^(m+n):=by
 rw[mD,Nat.pow_add];exact Nat.mul_lt_mul'' ha hb
theorem abs_add{a b:Int}{n:Nat}(ha:a.natAbs<2^n)(hb:b.natAbs<2^n):(a+b).natAbs<2^(n+1):=by
 rw[Nat.pow_succ];omega
theorem jR{a:Int}{m n:Nat}(ha:a.natAbs<2^m)(h:m<=n):a.natAbs<2^n:=gG ha (uY (by decide) h)
theorem vN{a g:Int}{n:Nat}(ha:a.natAbs<2^n)(hg:1<=g):(a/g).natAbs<2^n:=gD (LwM.zM a g hg) ha
theorem BZ{a b:Int}{n:Nat}(hb:0<b)(hs:b.natAbs<2^n):((Int.gcd a b:Nat):Int).natAbs<2^n:=by
 have:=LwM.gcd_le a b hb;have:=LwM.vA a b hb;omega
theorem qW{t b:Int}(h:0<b):yM t b=t/(Int.gcd t b:Int):=(NV h).1
theorem xR{t b:Int}(h:0<b):zI t b=b/(Int.gcd t b:Int):=(NV h).2
def spTwo(K:nI)(nt nb:Int->Int->Int->Int->Int):Sp:=λvs H Q _=>∃(p q:Addr) (t b o u:Int),vs=[.ref p,.ref q]/\SqT K H p [.int t,.int b]/\SqT K H q [.int o,.int u]/\FrOk 7900 t b/\FrOk 7900 o u/\
 ∀(r:Addr) (H':Hp),H r=none->Same H H'->At2 H' r (yM (nt t b o u) (nb t b o u)) (zI (nt t b o u) (nb t b o u))->Q (.ref r) H'
abbrev ML(K:nI):Sp:=spTwo K (λt _ o _=>t*o) (λ_ b _ u=>b*u)
theorem vX{K:nI}{H H':Hp}{a:Addr}{xs:List V}(s:Same H H')(h:SqT K H a xs):SqT K H' a xs:=by
 rcases h with(h | ⟨o,h⟩) | h
 ·exact .inl (.inl (s _ _ h))
 ·exact .inl (.inr ⟨o,s _ _ h⟩)
 ·exact .inr h
variable{P:Program}{w:World}{K:nI}{mg:Str->Option Value}{base:Heap}{f fd:_}
theorem scMul:FnScope ["one","other","top","bottom","over","under","first","second"] ["one","other"] (jJ LE):=⟨rfl,rfl,rfl,by decide +kernel,rfl,by decide +kernel,by decide +kernel⟩
theorem UI{fG:Addr}{fdG:FuncData}(F:Fun K "multiplied" "multiplied" LE f fd)(T:Txt mg)(DG:Df K mg "greatest_divisor" DB ["one","other"] fG fdG):FnOk P w K mg base CX0 2 f fd ["one","other"] (ML K):=by
 have GG:FnOk P w K mg base CX0 1 fG fdG ["one","other"] spGcd:=EH DG.F T;refine F.ok scMul (λvs H Q E h=>?_) (λcdv A outer s H vs Q E hr h=>?_)
 ·obtain⟨p,q,t,b,o,u,rfl,_⟩:=h
  rfl
 ·obtain⟨p,q,t,b,o,u,rfl,hp,hq,f1,f2,k⟩:=h;refine⟨_,jC (vC (pv 0) (jY rfl (jG (jH (i:=2) scMul.nd rfl (Or.inl rfl)) (jG (jH (i:=3) scMul.nd rfl (Or.inl rfl)) jV))))
   (jC (vC (pv 1) (jY rfl (jG (jH (i:=4) scMul.nd rfl (Or.inl rfl)) (jG (jH (i:=5) scMul.nd rfl (Or.inl rfl)) jV))))
   (jC (jO (i:=6) scMul.nd rfl (Or.inl rfl) (jD GG hr rfl DG.m DG.F.kp DG.b .nil jK (jA (pv 2) (jA (pv 5) jB))))
   (jC (jO (i:=7) scMul.nd rfl (Or.inl rfl) (jD GG hr rfl DG.m DG.F.kp DG.b .nil jK (jA (pv 4) (jA (pv 3) jB))))
   (jE (jM (jQ (jA (jT kO (jT qV (pv 2) (pv 6)) (jT qV (pv 4) (pv 7))) (jA (jT kO (jT qV (pv 3) (pv 7)) (jT qV (pv 5) (pv 6))) jB)))))))), ?_⟩
  try dsimp only[cxK]
  refine⟨_,rfl,p,_,rfl,hp,rfl,_,_,rfl,_,_,rfl,rfl, ?_⟩;refine⟨_,rfl,q,_,rfl,hq,rfl,_,_,rfl,_,_,rfl,rfl, ?_⟩;refine⟨_,rfl,_,rfl,t,u,rfl,f2.pos,jR f2.sb (by decide), ?_⟩;refine⟨_,rfl,_,rfl,o,b,rfl,f1.pos,jR f1.sb (by decide), ?_⟩;have a1:=LwM.vA t u f2.pos;have a2:=LwM.vA o b f1.pos;have d1:CDivL t (Int.gcd t u:Int):=⟨by omega,jR (BZ f2.pos f2.sb) (by decide)⟩;have d2:CDivL t (Int.gcd o b:Int):=⟨by omega,jR (BZ f1.pos f1.sb) (by decide)⟩;have m:=LwM.ZD f1.pos f2.pos f1.low f2.low;refine⟨_,rfl,_,rfl,_,_,rfl,rfl,d1,_,rfl,_,rfl,_,_,rfl,rfl,d2,_,_,rfl,rfl,⟨jR (vN f1.st a1) (by decide),jR (vN f2.st a2) (by decide)⟩, ?_⟩;refine⟨_,rfl,_,rfl,_,_,rfl,rfl,d2,_,rfl,_,rfl,_,_,rfl,rfl,d1,_,_,rfl,rfl,⟨jR (vN f1.sb a2) (by decide),jR (vN f2.sb a1) (by decide)⟩,uM,λr H' n s e=>?_⟩;refine k r H' n s ?_;have bu:=mY f1.pos f2.pos;show H' r=_;rw[e,qW bu,xR bu];dsimp only;rw[m.1,m.2]
def CQ(K:nI):Sp:=λvs H Q _=>∃(p q:Addr) (t b o u:Int),vs=[.ref p,.ref q]/\SqT K H p [.int t,.int b]/\SqT K H q [.int o,.int u]/\FrOk 7900 t b/\FrOk 7900 o u/\o≠0/\
 ∀(r:Addr) (H':Hp),H r=none->Same H H'->At2 H' r (yM (t*u) (b*o)) (zI (t*u) (b*o))->Q (.ref r) H'
theorem BX{t b:Int}(h:b<0):yM (-t) (-b)=yM t b/\zI (-t) (-b)=zI t b:=by
 unfold yM zI;simp only[nG (show ¬(-b<0) by omega),nH h,Int.neg_gcd,Int.gcd_neg,Int.zero_sub];exact⟨trivial,trivial⟩
theorem scDiv:FnScope ["one","other","over","under"] ["one","other"] (jJ LG):=⟨rfl,rfl,rfl,by decide +kernel,rfl,by decide +kernel,by decide +kernel⟩
theorem NO{fM fG:Addr}{fdM fdG:FuncData}(F:Fun K "divided" "divided" LG f fd)(T:Txt mg)(DM:Df K mg "multiplied" LE ["one","other"] fM fdM)(DG:Df K mg "greatest_divisor" DB ["one","other"] fG fdG):FnOk P w K mg base CX0 3 f fd ["one","other"] (CQ K):=by
 have GM:FnOk P w K mg base CX0 2 fM fdM ["one","other"] (ML K):=UI DM.F T DG;refine F.ok scDiv (λvs H Q E h=>?_) (λcdv A outer s H vs Q E hr h=>?_)
 ·obtain⟨p,q,t,b,o,u,rfl,_⟩:=h
  rfl
 ·obtain⟨p,q,t,b,o,u,rfl,hp,hq,f1,f2,ho,k⟩:=h;refine⟨_,jC (vC (pv 1) (jY rfl (jG (jH (i:=2) scDiv.nd rfl (Or.inl rfl)) (jG (jH (i:=3) scDiv.nd rfl (Or.inl rfl)) jV))))
   (jC (kT (kI JE (pv 2) jF (kD _)) (jE yD) kC)
   (jC (kT (kI JD (pv 2) jF (kD _)) (jE (jM (jD GM hr rfl DM.m DM.F.kp DM.b .nil jK (jA (pv 0) (jA (jQ (jA (yS xC (pv 3)) (jA (yS xC (pv 2)) jB))) jB))))) kC)
   (jE (jM (jD GM hr rfl DM.m DM.F.kp DM.b .nil jK (jA (pv 0) (jA (jQ (jA (pv 3) (jA (pv 2) jB))) jB))))))), ?_⟩
  try dsimp only[cxK]
  refine⟨_,rfl,q,_,rfl,hq,rfl,_,_,rfl,_,_,rfl,rfl, ?_⟩;refine⟨_,rfl,rfl,_,rfl,xE (hW (by intro z;injection z with z;exact ho z)) ?_⟩;refine⟨_,rfl,_,_,rfl,rfl,_,rfl, ?_⟩;have gc:Int.gcd u o=1:=by rw[Int.gcd_comm];exact f2.low
  by_cases hn:o<0
  ·refine uI (mC hn) ?_;refine⟨_,rfl,_,rfl,_,rfl,_,rfl,_,rfl,uM,λz H1 n1 s1 e1=>?_⟩;refine⟨p,z,t,b,-u,-o,rfl,vX s1 hp,SqT.of e1,f1,⟨by omega,by rw[Int.neg_gcd,Int.gcd_neg];exact gc,by rw[Int.natAbs_neg];exact f2.sb,by rw[Int.natAbs_neg];exact f2.st⟩,λr H' n s e=>?_⟩;refine k r H' (s1.free n) (s1.trans s) ?_;dsimp only at e;rw[Int.mul_neg,Int.mul_neg,(BX (Int.mul_neg_of_pos_of_neg f1.pos hn)).1,(BX (Int.mul_neg_of_pos_of_neg f1.pos hn)).2]at e;exact e
  ·refine xE (hW hn) ?_;refine⟨_,rfl,_,rfl,_,rfl,uM,λz H1 n1 s1 e1=>?_⟩;refine⟨p,z,t,b,u,o,rfl,vX s1 hp,SqT.of e1,f1,⟨by omega,gc,f2.sb,f2.st⟩,λr H' n s e=>?_⟩;exact k r H' (s1.free n) (s1.trans s) e
abbrev GK(K:nI):Sp:=spTwo K (λt b o u=>t*u+o*b) (λ_ b _ u=>b*u)
theorem scAddF:FnScope ["one","other","top","bottom","over","under","shared","total","left"] ["one","other"] (jJ FL):=⟨rfl,rfl,rfl,by decide +kernel,rfl,by decide +kernel,by decide +kernel⟩
theorem YW{fG:Addr}{fdG:FuncData}(F:Fun K "added" "added" FL f fd)(T:Txt mg)(DG:Df K mg "greatest_divisor" DB ["one","other"] fG fdG):FnOk P w K mg base CX0 2 f fd ["one","other"] (GK K):=by
 have GG:FnOk P w K mg base CX0 1 fG fdG ["one","other"] spGcd:=EH DG.F T;refine F.ok scAddF (λvs H Q E h=>?_) (λcdv A outer s H vs Q E hr h=>?_)
 ·obtain⟨p,q,t,b,o,u,rfl,_⟩:=h
  rfl
 ·obtain⟨p,q,t,b,o,u,rfl,hp,hq,f1,f2,k⟩:=h;refine⟨_,jC (vC (pv 0) (jY rfl (jG (jH (i:=2) scAddF.nd rfl (Or.inl rfl)) (jG (jH (i:=3) scAddF.nd rfl (Or.inl rfl)) jV))))
   (jC (vC (pv 1) (jY rfl (jG (jH (i:=4) scAddF.nd rfl (Or.inl rfl)) (jG (jH (i:=5) scAddF.nd rfl (Or.inl rfl)) jV))))
   (jC (jO (i:=6) scAddF.nd rfl (Or.inl rfl) (jD GG hr rfl DG.m DG.F.kp DG.b .nil jK (jA (pv 3) (jA (pv 5) jB))))
   (jC (jO (i:=7) scAddF.nd rfl (Or.inl rfl) (jT qH (jT kO (pv 2) (jT qV (pv 5) (pv 6))) (jT kO (pv 4) (jT qV (pv 3) (pv 6)))))
   (jC (jO (i:=8) scAddF.nd rfl (Or.inl rfl) (jD GG hr rfl DG.m DG.F.kp DG.b .nil jK (jA (pv 7) (jA (pv 6) jB))))
   (jE (jM (jQ (jA (jT qV (pv 7) (pv 8)) (jA (jT kO (jT qV (pv 3) (pv 6)) (jT qV (pv 5) (pv 8))) jB))))))))), ?_⟩
  refine⟨_,rfl,p,_,rfl,hp,rfl,_,_,rfl,_,_,rfl,rfl, ?_⟩;refine⟨_,rfl,q,_,rfl,hq,rfl,_,_,rfl,_,_,rfl,rfl, ?_⟩;have s1:=LwM.vA b u f2.pos;have sA:((Int.gcd b u:Nat):Int).natAbs<2^7900:=BZ f2.pos f2.sb;have sD:CDivL u (Int.gcd b u:Int):=⟨by omega,jR sA (by decide)⟩;refine⟨_,rfl,_,rfl,b,u,rfl,f2.pos,jR f2.sb (by decide), ?_⟩;refine⟨_,rfl,_,rfl,_,rfl,_,_,rfl,rfl,sD,_,_,rfl,rfl,⟨jR f1.st (by decide),jR (vN f2.sb s1) (by decide)⟩, ?_⟩;refine⟨_,rfl,_,rfl,_,rfl,_,_,rfl,rfl,sD,_,_,rfl,rfl,⟨jR f2.st (by decide),jR (vN f1.sb s1) (by decide)⟩,_,_,rfl,rfl, ?_⟩;have tA:(t*(u/(Int.gcd b u:Int))+o*(b/(Int.gcd b u:Int))).natAbs<2^15801:=abs_add (n:=15800) (AI (m:=7900) (n:=7900) f1.st (vN f2.sb s1)) (AI (m:=7900) (n:=7900) f2.st (vN f1.sb s1));refine⟨_,rfl,_,rfl,_,_,rfl,by omega,jR sA (by decide), ?_⟩;have m:=LwM.ZZ f1.pos f2.pos f1.low f2.low;have l1:=LwM.vA (t*(u/(Int.gcd b u:Int))+o*(b/(Int.gcd b u:Int))) (Int.gcd b u:Int) (by omega);have lA:((Int.gcd (t*(u/(Int.gcd b u:Int))+o*(b/(Int.gcd b u:Int))) (Int.gcd b u:Int):Nat):Int).natAbs<2^7900:=BZ (by omega) sA;generalize hT:t*(u/(Int.gcd b u:Int))+o*(b/(Int.gcd b u:Int))=T at *;generalize hl:(Int.gcd T (Int.gcd b u:Int):Int)=l at *;have lD:CDivL u l:=⟨by omega,jR lA (by decide)⟩;refine⟨_,rfl,_,rfl,_,_,rfl,rfl,lD,_,rfl,_,rfl,_,_,rfl,rfl,sD,_,rfl,_,rfl,_,_,rfl,rfl,lD,_,_,rfl,rfl,⟨jR (vN f1.sb s1) (by decide),jR (vN f2.sb (by omega)) (by decide)⟩,uM,λr H' n s e=>?_⟩
  refine k r H' n s ?_;have bu:=mY f1.pos f2.pos;show H' r=_;rw[e,qW bu,xR bu];dsimp only;rw[hT,m.1,m.2]
open LwQ LwV
end Lw
namespace LwQ
def fv(t b:Int):Rat:=(t:Rat)/(b:Rat)
theorem cne{b:Int}(h:0<b):(b:Rat)≠0:=by
 intro z;have:b=0:=Rat.intCast_inj.mp (by rw[z];rfl);omega
theorem OI{t b o u:Int}(hb:0<b)(hu:0<u)(h:t*u=o*b):fv t b=fv o u:=by
 have h1:=cne hb;have h2:=cne hu;have h3:(t:Rat)*(u:Rat)=(o:Rat)*(b:Rat):=by rw[<-Rat.intCast_mul,<-Rat.intCast_mul,h]
 unfold fv
 grind
theorem VR{t b o u:Int}(hb:0<b)(hu:0<u)(h:fv t b=fv o u):t*u=o*b:=by
 have h1:=cne hb;have h2:=cne hu;unfold fv at h;have h3:(t:Rat)*(u:Rat)=(o:Rat)*(b:Rat):=by grind
 rw[<-Rat.intCast_mul,<-Rat.intCast_mul]at h3;exact Rat.intCast_inj.mp h3
theorem fv_add{t b o u:Int}(hb:0<b)(hu:0<u):fv (t*u+o*b) (b*u)=fv t b+fv o u:=by
 have h1:=cne hb;have h2:=cne hu;unfold fv;rw[Rat.intCast_add,Rat.intCast_mul,Rat.intCast_mul,Rat.intCast_mul]
 grind
theorem fv_mul{t b o u:Int}(hb:0<b)(hu:0<u):fv (t*o) (b*u)=fv t b*fv o u:=by
 have h1:=cne hb;have h2:=cne hu;unfold fv;rw[Rat.intCast_mul,Rat.intCast_mul]
 grind
theorem CB{b t u:Int}(g:Int.gcd t b=1)(h:b∣t*u):b∣u:=by
 have h:=Int.natAbs_dvd_natAbs.mpr h;rw[mD]at h;have c:Nat.Coprime b.natAbs t.natAbs:=by
  have:Nat.gcd t.natAbs b.natAbs=1:=g;rw[Nat.gcd_comm]at this;exact this
 exact Int.natAbs_dvd_natAbs.mp (c.dvd_of_dvd_mul_left h)
theorem VB{t b o u:Int}(hb:0<b)(hu:0<u)(g1:Int.gcd t b=1)(g2:Int.gcd o u=1)(h:t*u=o*b):t=o/\b=u:=by
 have d1:b∣u:=by
  have:b∣t*u:=⟨o,by rw[h,mV]⟩;exact CB g1 this
 have d2:u∣b:=by
  have:u∣o*b:=⟨t,by rw[<-h,mV]⟩;exact CB g2 this
 have e:b=u:=Int.dvd_antisymm (by omega) (by omega) d1 d2;subst e;exact⟨Int.eq_of_mul_eq_mul_right (by omega) h,rfl⟩
theorem xF(x:Rat):fv x.num x.den=x:=by
 unfold fv;have:=Rat.num_divInt_den x;rw[Rat.divInt_eq_div]at this;exact this
theorem kS(x:Rat):0<(x.den:Int)/\Int.gcd x.num x.den=1:=⟨by have:=x.den_pos;omega,x.reduced⟩
theorem num_of{t b:Int}(hb:0<b)(g:Int.gcd t b=1):(fv t b).num=t/\((fv t b).den:Int)=b:=by
 have n:=kS (fv t b);have e:=VR n.1 hb (xF (fv t b));exact VB n.1 hb n.2 g e
def Wh(D:Int)(x:Rat):Prop:=∃z:Int,x*(D:Rat)=(z:Rat)
theorem Wh.dvd{D t b:Int}(hb:0<b)(g:Int.gcd t b=1)(h:Wh D (fv t b)):b∣D:=by
 obtain⟨z,hz⟩:=h;have h1:=cne hb;have e:(t:Rat)*(D:Rat)=(z:Rat)*(b:Rat):=by unfold fv at hz;grind
 rw[<-Rat.intCast_mul,<-Rat.intCast_mul]at e;have e:=Rat.intCast_inj.mp e;have:b∣t*D:=⟨z,by rw[e,mV]⟩;exact CB g this
theorem Wh.of{t b:Int}(hb:0<b):Wh b (fv t b):=⟨t,by have h1:=cne hb;unfold fv;grind⟩
end LwQ
namespace Lw
open PySem PySem.Spec PyProof.Rows L2 LwQ
theorem QF{n d:Int}(hd:0<d):yM n d*d=n*zI n d:=by
 rw[qW hd,xR hd];obtain⟨a,ha⟩:=gZ (a:=n) (b:=d);obtain⟨b,hb⟩:=gR (a:=n) (b:=d);have g1:=LwM.vA n d hd;generalize (Int.gcd n d:Int)=g at ha hb g1;subst ha hb;rw[Int.mul_ediv_cancel_left _ (by omega),Int.mul_ediv_cancel_left _ (by omega)]
 grind
theorem JP{n d:Int}(hd:0<d):0<zI n d:=by
 have g1:=LwM.vA n d hd;rw[xR hd];exact Int.ediv_pos_of_pos_of_dvd hd (by omega) (gR ..)
theorem NW{n d:Int}(hd:0<d):Int.gcd (yM n d) (zI n d)=1:=by
 have g1:=LwM.vA n d hd;rw[qW hd,xR hd];exact Int.gcd_ediv_gcd_ediv_gcd (by omega)
theorem NX{n d:Int}(hd:0<d):(yM n d).natAbs<=n.natAbs:=by
 rw[qW hd];exact LwM.zM _ _ (LwM.vA n d hd)
theorem fv_low{n d:Int}(hd:0<d):fv (yM n d) (zI n d)=fv n d:=OI (JP hd) hd (QF hd)
theorem cross{x:Rat}{t b:Int}(hb:0<b)(h:x=fv t b):x.num*b=t*x.den:=by
 have n:=kS x;exact VR n.1 hb (by rw[xF,h])
def SzR(n:Nat)(x:Rat):Prop:=x.num.natAbs<2^n/\x.den<2^n
theorem SzR.fr{n:Nat}{x:Rat}(h:SzR n x)(k:n<=7900):FrOk 7900 x.num x.den:=
 ⟨(kS x).1,(kS x).2,jR h.1 k,jR (by rw[gI];exact h.2) k⟩
theorem BA{H:Hp}{r:Addr}{N D:Int}{z:Rat}(h:At2 H r (yM N D) (zI N D))(hD:0<D)(e:fv N D=z):At2 H r z.num z.den:=by
 have nm:=num_of (JP (n:=N) hD) (NW hD);rw[fv_low hD,e]at nm;unfold At2;rw[nm.1,nm.2];exact h
theorem ZY{H:Hp}{r:Addr}{N D:Int}{z:Rat}(h:At2 H r (yM N D) (zI N D))(hD:D≠0)(e:fv N D=z):At2 H r z.num z.den:=by
 by_cases p:0<D
 ·exact BA h p e
 ·have q:D<0:=by omega
  rw[<-(BX q).1,<-(BX q).2]at h;refine BA h (by omega) ?_;rw[<-e];unfold fv;rw[Rat.intCast_neg,Rat.intCast_neg];have:(D:Rat)≠0:=λz=>hD (Rat.intCast_inj.mp (by rw[z];rfl))
  grind
theorem AC{x:Rat}{t b:Int}(hb:0<b)(h:x=fv t b):(x.den:Int)∣b/\x.num.natAbs<=t.natAbs:=by
 have n:=kS x;have d:(x.den:Int)∣b:=Wh.dvd n.1 n.2 (by rw[xF,h];exact Wh.of hb);refine⟨d, ?_⟩;obtain⟨k,hk⟩:=d;have c:=cross hb h;have k0:k≠0:=λz=>by rw[z,Int.mul_zero]at hk;omega
 have:x.num*k=t:=by
  have e:x.den*(x.num*k)=x.den*t:=by rw[hk]at c;grind
  exact Int.eq_of_mul_eq_mul_left (by omega) e
 rw[<-this,mD];exact Nat.le_mul_of_pos_right _ (by omega)
structure Ov(D:Int)(n:Nat)(x:Rat):Prop where
 ex:∃z:Int,x=fv z D/\z.natAbs<=2^n
theorem Ov.sz{D:Int}{n d k:Nat}{x:Rat}(h:Ov D n x)(hD:0<D)(hd:D.natAbs<=2^d)(h1:n<k)(h2:d<k):SzR k x:=by
 obtain⟨z,e,hz⟩:=h.ex;have q:=AC hD e;have l:x.den<=D.natAbs:=by
  have:=Int.natAbs_dvd_natAbs.mpr q.1;rw[gI]at this;exact Nat.le_of_dvd (by omega) this
 exact⟨gD (mN q.2 hz) (uZ (by decide) h1),gD (mN l hd) (uZ (by decide) h2)⟩
theorem Ov.up{D:Int}{n m:Nat}{x:Rat}(h:Ov D n x)(k:n<=m):Ov D m x:=let ⟨z,e,hz⟩:=h.ex;⟨z,e,mN hz (uY (by decide) k)⟩
theorem Ov.zero(D:Int)(n:Nat):Ov D n 0:=⟨0,by unfold fv;rw[show((0:Int):Rat)=0 from rfl,Rat.div_def,mS],mX _⟩
theorem Ov.scale{D c:Int}{n b:Nat}{x:Rat}(h:Ov D n x)(hD:0<D)(hc:0<c)(hb:c.natAbs<=2^b):Ov (D*c) (n+b) x:=by
 obtain⟨z,e,hz⟩:=h.ex;refine⟨z*c, ?_, ?_⟩
 ·rw[e];exact OI hD (mY hD hc) (by grind)
 ·rw[mD,Nat.pow_add];exact mE hz hb
theorem IB{z y D:Int}(hD:0<D):fv z D+fv y D=fv (z+y) D:=by
 have h1:=cne hD;unfold fv;rw[Rat.intCast_add]
 grind
theorem Ov.add{D:Int}{n:Nat}{x y:Rat}(h:Ov D n x)(k:Ov D n y)(hD:0<D):Ov D (n+1) (x+y):=by
 obtain⟨z,e,hz⟩:=h.ex;obtain⟨z',e',hz'⟩:=k.ex;refine⟨z+z',by rw[e,e',IB hD], ?_⟩;rw[Nat.pow_succ];omega
theorem Ov.div{D c:Int}{n:Nat}{x:Rat}(h:Ov D n x)(hD:0<D)(hc:c≠0):Ov (D*(c.natAbs:Int)) n (x/((c:Int):Rat)):=by
 obtain⟨z,e,hz⟩:=h.ex;have h1:=cne hD;have h2:(c:Rat)≠0:=λy=>hc (Rat.intCast_inj.mp (by rw[y];rfl));by_cases p:0<c
 ·refine⟨z, ?_,hz⟩;rw[show(c.natAbs:Int)=c by omega,e];unfold fv;rw[Rat.intCast_mul]
  grind
 ·refine⟨-z, ?_,by rw[Int.natAbs_neg];exact hz⟩;rw[show(c.natAbs:Int) = -c by omega,e];unfold fv;rw[Rat.intCast_mul,Rat.intCast_neg,Rat.intCast_neg]
  grind
theorem HZ(i:Int):((i:Int):Rat).num=i/\(((i:Int):Rat).den:Int)=1:=⟨Rat.num_intCast i,by rw[Rat.den_intCast];rfl⟩
theorem VP{i:Int}{n:Nat}(h:i.natAbs<2^n)(hn:0<n):SzR n ((i:Int):Rat):=⟨by rw[(HZ i).1];exact h,by rw[Rat.den_intCast];exact Nat.one_lt_two_pow (by omega)⟩
def NumK(K:nI)(H:Hp)(v:V)(x:Rat):Prop:=∃p,v=.ref p/\SqT K H p [.int x.num,.int x.den]
theorem NumK.same{K:nI}{H H':Hp}{v:V}{x:Rat}(h:NumK K H v x)(s:Same H H'):NumK K H' v x:=let ⟨p,e,q⟩:=h;⟨p,e,vX s q⟩
theorem NumK.of{K:nI}{H:Hp}{p:Addr}{x:Rat}(h:At2 H p x.num x.den):NumK K H (.ref p) x:=⟨p,rfl,SqT.of h⟩
theorem RX{K:nI}{H:Hp}{p:Addr}{i:Int}(h:SqT K H p [.int i,.int 1]):SqT K H p [.int ((i:Int):Rat).num,.int ((i:Int):Rat).den]:=by rw[(HZ i).1,(HZ i).2];exact h
theorem WQ{H:Hp}{r:Addr}{x y:Rat}(e:At2 H r (yM (x.num*y.den+y.num*x.den) (x.den*y.den)) (zI (x.num*y.den+y.num*x.den) (x.den*y.den))):At2 H r (x+y).num (x+y).den:=
 BA e (mY (kS x).1 (kS y).1) (by rw[fv_add (kS x).1 (kS y).1,xF,xF])
theorem mulAt{H:Hp}{r:Addr}{x y:Rat}(e:At2 H r (yM (x.num*y.num) (x.den*y.den)) (zI (x.num*y.num) (x.den*y.den))):At2 H r (x*y).num (x*y).den:=
 BA e (mY (kS x).1 (kS y).1) (by rw[fv_mul (kS x).1 (kS y).1,xF,xF])
theorem UP{y:Rat}(ny:y≠0):y.num≠0:=λz=>ny (by rw[<-xF y,z];unfold fv;rw[show((0:Int):Rat)=0 from rfl,Rat.div_def,mS])
theorem divAt{H:Hp}{r:Addr}{x y:Rat}(ny:y≠0)(e:At2 H r (yM (x.num*y.den) (x.den*y.num)) (zI (x.num*y.den) (x.den*y.num))):At2 H r (x/y).num (x/y).den:=by
 have yn:=UP ny;refine ZY e (Int.mul_ne_zero (by have:=(kS x).1;omega) yn) ?_;have h1:=cne (kS x).1;have h2:=cne (kS y).1;have h3:((y.num:Int):Rat)≠0:=λz=>yn (Rat.intCast_inj.mp (by rw[z];rfl))
 conv=>rhs;rw[<-xF x,<-xF y]
 unfold fv;rw[Rat.intCast_mul,Rat.intCast_mul]
 grind
end Lw
namespace Lw
open PySem PySem.Spec PyProof.Rows L2
theorem kF{H H':Hp}{l:Addr}{o:HO}(s:Same H H')(n:H l=none):Same H (upd H' l o):=λc u h=>by
 rw[jL (jU h n)];exact s c u h
mutual
theorem DecV.mono{H H':Hp}(e:Same H H'):∀{x:V} {d:PyData},DecV H x d->DecV H' x d
 | _,_,.non=>.non
 | _,_,.bl b=>.bl b
 | _,_,.int i=>.int i
 | _,_,.str x=>.str x
 | _,_,.lst q h=>.lst (e _ _ q) (DecVs.mono e h)
 | _,_,.tup q h=>.tup (e _ _ q) (DecVs.mono e h)
theorem DecVs.mono{H H':Hp}(e:Same H H'):∀{xs:List V} {ds:List PyData},DecVs H xs ds->DecVs H' xs ds
 | _,_,.nil=>.nil
 | _,_,.cons h t=>.cons (DecV.mono e h) (DecVs.mono e t)
end
theorem DecVs.length{H:Hp} :∀{xs:List V} {ds:List PyData},DecVs H xs ds->xs.length=ds.length
 | _,_,.nil=>rfl
 | _,_,.cons _ t=>by simp [DecVs.length t]
theorem DecVs.get{H:Hp} :∀{xs:List V} {ds:List PyData} {i:Nat} {x:V},DecVs H xs ds->xs[i]? = some x->∃d,ds[i]? = some d/\DecV H x d
 | _,_,_,_,.nil,e=>by simp at e
 | _,_,0,_,.cons h _,e=>by
  simp only[List.getElem?_cons_zero,Option.some.injEq]at e;subst e;exact⟨_,rfl,h⟩
 | _,_,i+1,_,.cons _ t,e=>by
  simp only[List.getElem?_cons_succ]at e ⊢;exact DecVs.get t e
def kdD:PyData->Kd
 | .none=>.non | .bool _=>.bl | .int _=>.int | .str _=>.str | .list _=>.lst | .tuple _=>.tup | .dict _=>.non
theorem DecV.kd{H:Hp}{v:V}{d:PyData}(h:DecV H v d):KdOf H v (kdD d):=by
 cases h with
 | non=>exact .non
 | bl b=>exact .bl b
 | int i=>exact .int i
 | str x=>exact .str x
 | lst e _=>exact .lst e
 | tup e _=>exact .tup e
theorem KC{K:nI}{a:Addr}{xs:List V}{n:Nat}{g:TG}{te:TE}{Q:VK}{p:Addr}{H':Hp}(Pv:Nat->List V->Hp->Prop)(hz:xs.length<sizeLine)(h0:Pv 0 [] H')
  (hl:∀i ys H2,Pv i ys H2->SqT K H2 a xs/\H2 p=some (.lst ys))
  (hs:∀i m ys x H2,xs[i]? = some x->m=xs.length-i->ys.length=i->Pv i ys H2->g x (List.replicate n none) H2 fun σ4 H4=>te σ4 H4 λy H5=>H5 p=some (.lst ys)/\∃m',m'<m/\CompW xs Pv (i+1) m' (ys++[y]) (upd H5 p (.lst (ys++[y]))))
  (hd:∀ys H2,ys.length=xs.length->Pv xs.length ys H2->Q (.ref p) H2):CompGo n (Itt K a) g te Q p H':=by
 refine⟨CompW xs Pv,⟨_,rfl,mX _,rfl,h0⟩, ?_⟩;rintro i m ys H2 ⟨hm,hi,hy,hp⟩;obtain⟨q,e⟩:=hl i ys H2 hp;refine⟨e,by omega, ?_⟩;by_cases hlt:i<xs.length
 ·refine .inr ⟨⟨xs,xs[i],q,by simp [hlt]⟩, ?_⟩;rintro x H3 ⟨rfl,y⟩;exact hs i m ys x _ (y xs q) hm hy hp
 ·obtain rfl:i=xs.length:=by omega
  exact .inl ⟨⟨xs,q,mW _⟩,hd ys H2 hy hp⟩
theorem WG{K:nI}{a b:Addr}{ts us:List V}{n:Nat}{g:TG}{te:TE}{Q:VK}{p:Addr}{H':Hp}(Pv:Nat->List V->Hp->Prop)(hle:us.length<=ts.length)(hz:us.length<sizeLine)(h0:Pv 0 [] H')
  (hl:∀i ys H2,Pv i ys H2->SqT K H2 a ts/\SqT K H2 b us/\H2 p=some (.lst ys))
  (hs:∀i m ys x y c H2,ts[i]? = some x->us[i]? = some y->m=us.length-i->ys.length=i->Pv i ys H2->H2 c=none->g (.ref c) (List.replicate n none) (upd H2 c (.tup [x,y])) fun σ4 H4=>te σ4 H4 λy H5=>H5 p=some (.lst ys)/\∃m',m'<m/\CompW us Pv (i+1) m' (ys++[y]) (upd H5 p (.lst (ys++[y]))))
  (hd:∀ys H2,ys.length=us.length->Pv us.length ys H2->Q (.ref p) H2):CompGo n (Itz K a b) g te Q p H':=by
 refine⟨CompW us Pv,⟨_,rfl,mX _,rfl,h0⟩, ?_⟩;rintro i m ys H2 ⟨hm,hi,hy,hp⟩;obtain⟨q1,q2,e⟩:=hl i ys H2 hp;refine⟨e,by omega, ?_⟩;by_cases hlt:i<us.length
 ·have h2:i<ts.length:=by omega
  refine .inr ⟨⟨ts,us,ts[i],us[i],q1,q2,by simp [h2],by simp [hlt]⟩, ?_⟩;rintro _ _ ⟨c,x,y,hc,rfl,rfl,h1,h2⟩;exact hs i m ys x y c H2 (h1 _ q1) (h2 _ q2) hm hy hp hc
 ·obtain rfl:i=us.length:=by omega
  exact .inl ⟨⟨ts,us,q1,q2,.inr uJ⟩,hd ys H2 hy hp⟩
def whF:PyData->Int->Bool
 | .int i,low=>decide (low<=i)
 | _,_=>false
def spWF:Sp:=λvs H Q _=>∃(v:V) (d:PyData) (low:Int),vs=[v,.int low]/\DecV H v d/\Q (.bl (whF d low)) H
def xB:List PyData->List Int
 | []=>[]
 | .int i::r=>i::xB r
 | _::r=>xB r
def pwB:PyData->Int->Bool
 | .tuple ds,aa=>decide ((ds.length:Int)=aa)&&(ds.all λd=>whF d 0)&&decide ((xB ds).sum<=16)
 | _,_=>false
def pwOk:PyData->Prop
 | .tuple ds=>ds.length<=1000/\∀i,PyData.int i∈ds->i<=2^40
 | _=>True
theorem HY{H:Hp} :∀{xs:List V} {ds:List PyData},DecVs H xs ds->(ds.all λd=>whF d 0)=true->xs=(xB ds).map V.int/\(∀n∈xB ds,0<=n/\PyData.int n∈ds)/\(xB ds).length=ds.length
 | _,_,.nil,_=>⟨rfl,λn h=>(by cases h),rfl⟩
 | _,_,.cons (d:=d) (ds:=ds) h t,a=>by
  rw[List.all_cons,gY]at a;obtain⟨e,k,l⟩:=HY t a.2;cases h with
  | int i=>
   refine⟨by rw[e];rfl,λn hn=>?_,by simp [xB,l]⟩;rcases mI.mp hn with rfl | hn
   ·exact⟨gP a.1,gJ ..⟩
   ·exact⟨(k n hn).1,uX _ (k n hn).2⟩
  | non=>exact absurd a.1 (by decide)
  | bl b=>exact absurd a.1 (by simp [whF])
  | str x=>exact absurd a.1 (by simp [whF])
  | lst e _=>exact absurd a.1 (by simp [whF])
  | tup e _=>exact absurd a.1 (by simp [whF])
def spPw:Sp:=λvs H Q _=>∃(v:V) (d:PyData) (aa:Int),vs=[v,.int aa]/\DecV H v d/\pwOk d/\∀H',Same H H'->Q (.bl (pwB d aa)) H'
variable{P:Program}{w:World}{K:nI}{mg:Str->Option Value}{base:Heap}{f fd:_}
theorem scWF:FnScope ["thing","low"] ["thing","low"] (jJ sWF):=⟨rfl,rfl,rfl,by decide +kernel,rfl,by decide +kernel,by decide +kernel⟩
theorem UC(F:Fun K "is_whole_from" "is_whole_from" sWF f fd)(T:Txt mg):FnOk P w K mg base CX0 1 f fd ["thing","low"] spWF:=by
 refine F.ok scWF (λvs H Q E h=>?_) (λcdv A outer s H vs Q E hr h=>?_)
 ·obtain⟨v,d,low,rfl,_⟩:=h
  rfl
 ·obtain⟨v,d,low,rfl,hd,q⟩:=h;refine⟨_,jE (jM (yL (vP HX T.isi T.int boot_int (pv 0)) (yL (LL (vP ER T.isi T.bool boot_bool (pv 0))) (wM (qZ UA (pv 0) (pv 1) (kD _)))))), ?_⟩;refine⟨_,rfl,rfl,_,hd.kd,_,rfl, ?_⟩;cases hd with
  | int i=>
   refine kK ⟨_,rfl,rfl,_,.int i,_,rfl,_,rfl,kK ?_⟩;exact⟨_,rfl,_,rfl,_,_,rfl,rfl,q⟩
  | bl b=>
   refine kK ⟨_,rfl,rfl,_,.bl b,_,rfl,_,rfl,qJ ?_⟩;exact q
  | non=>exact qJ q
  | str x=>exact qJ q
  | lst e _=>exact qJ q
  | tup e _=>exact qJ q
theorem scPw:FnScope ["thing","many"] ["thing","many"] (jJ sPw):=⟨rfl,rfl,rfl,by decide +kernel,rfl,by decide +kernel,by decide +kernel⟩
theorem ok_pw{fW:Addr}{fdW:FuncData}(F:Fun K "are_powers" "are_powers" sPw f fd)(T:Txt mg)(DW:Df K mg "is_whole_from" sWF ["thing","low"] fW fdW):FnOk P w K mg base CX0 3 f fd ["thing","many"] spPw:=by
 have GW:FnOk P w K mg base CX0 1 fW fdW ["thing","low"] spWF:=UC DW.F T;obtain⟨td,hdg⟩:=T.degree;refine F.ok scPw (λvs H Q E h=>?_) (λcdv A outer s H vs Q E hr h=>?_)
 ·obtain⟨v,d,aa,rfl,_⟩:=h
  rfl
 ·obtain⟨v,d,aa,rfl,hd,hp,q⟩:=h;have hr1:Room 1 _:=hr.mono (by decide);refine⟨_,jC (kT (PW.pt (qU (kZ (kU (vP yQ T.isi T.tup boot_tuple (pv 0)))) (vB (kI zF (jX jW (by rfl) T.len PySem.boot_len (jA (pv 0) jB)) (pv 1) (kD _))))) (jE (jM xQ)) kC)
   (jC (kT (kZ (kU (jX (AE rfl) (by rfl) T.all boot_all (jA (EB (N:=["power"]) rfl rfl (by decide +kernel) (by decide +kernel) (by decide +kernel) (zC (pv 0)) (λC fp s2 H2=>jH (i:=0) (show List.Nodup (["power"]:List Str) by decide +kernel) rfl (Or.inl rfl)) (λC fp s2 H2=>jD GW hr1 rfl DW.m DW.F.kp DW.b .nil jK (jA (pv 0) (jA jF jB)))) jB)))) (jE (jM xQ)) kC)
   (jE (jM (qZ op_le (jX (FT rfl) (by rfl) T.sum boot_sum (jA (pv 0) jB)) (kL (v:=.int 16) (by rfl) hdg ⟨_,rfl⟩) (kD _))))), ?_⟩
  refine⟨_,rfl,rfl,_,hd.kd,_,rfl, ?_⟩;cases hd with
  | non=>exact kK (kK (q _ (Same.refl _)))
  | bl b=>exact kK (kK (q _ (Same.refl _)))
  | int i=>exact kK (kK (q _ (Same.refl _)))
  | str x=>exact kK (kK (q _ (Same.refl _)))
  | lst e _=>exact kK (kK (q _ (Same.refl _)))
  | @tup a xs ds e hx=>
   refine qJ ⟨_,rfl,a,xs,rfl,.inr (SqT.of e),_,rfl,rfl,_,rfl, ?_⟩;have hlen:=hx.length;by_cases hl:(ds.length:Int)=aa
   ·refine xE (by rw[hlen,hl];simp) ?_;refine⟨_,rfl,a,rfl,⟨xs,SqT.of e⟩,λp H1 n1 s1 e1=>?_⟩;refine KC (xs:=xs) (λi ys H2=>(∀c o,H c=some o->H2 c=some o)/\H2 p=some (.lst ys)/\ys=(ds.take i).map λd=>V.bl (whF d 0)) (by rw[hlen];exact gD hp.1 (by decide)) ⟨s1,e1,rfl⟩ (λi ys H2 h=>⟨SqT.of (h.1 _ _ e),h.2.1⟩) ?_ ?_
    ·rintro i m ys x H2 hx' hm hl' ⟨k1,k2,rfl⟩;obtain⟨d,hd1,hd2⟩:=(hx.mono k1).get hx';refine⟨_,rfl,x,d,0,rfl,hd2, ?_⟩;refine kY hx' hm hl' k2 ⟨λc o h=>?_,jI, ?_⟩
     ·rw[jL (jU h n1)];exact k1 _ _ h
     ·rw[gO,hd1,hV]
      rfl
    ·rintro ys H2 hl' ⟨k1,k2,rfl⟩;rw[hlen,gW]at k2;refine⟨p,ds.map λd=>whF d 0,rfl,SqL.of (by rw[k2,List.map_map];rfl),_,rfl, ?_⟩;have ea:(ds.map λd=>whF d 0).all id=ds.all λd=>whF d 0:=by rw[List.all_map];rfl
     rw[ea];by_cases al:(ds.all λd=>whF d 0)=true
     ·obtain⟨ex,kx,lx⟩:=HY hx al;refine xE (by rw[al];rfl) ?_;refine⟨_,rfl,a,xB ds,rfl,SqT.of (by rw[<-ex];exact k1 _ _ e),λn hn=>⟨(kx n hn).1,hp.2 n (kx n hn).2⟩,by rw[lx];exact hp.1,_,_,rfl,rfl, ?_⟩;have z:pwB (.tuple ds) aa=decide ((xB ds).sum<=16):=by simp only[pwB,hl,al,decide_true,Bool.true_and]
      rw[z]at q;exact q _ k1
     ·have al':(ds.all λd=>whF d 0)=false:=by simpa using al
      refine uI (by rw[al'];rfl) ?_;have z:pwB (.tuple ds) aa=false:=by simp only[pwB,al',Bool.and_false,Bool.false_and]
      rw[z]at q;exact q _ k1
   ·refine uI (by rw[hlen];simp [hl]) ?_;have z:pwB (.tuple ds) aa=false:=by simp [pwB,hl]
    rw[z]at q;exact q _ (Same.refl _)
def FQ:PyData->Bool
 | .tuple [.int t,.int b]=>decide (1<=b)&&decide (Int.gcd t b=1)
 | _=>false
def smD:PyData->Prop
 | .int i=>i.natAbs<2^1000
 | _=>True
def frOk:PyData->Prop
 | .tuple ds=>∀x∈ds,smD x
 | _=>True
def nzD:PyData->Bool
 | .tuple [.int t,.int b]=>!decide ([t,b]=[0,1])
 | _=>true
def vG:PyData->Int->Bool
 | .tuple [p,f],aa=>pwB p aa&&(FQ f&&nzD f)
 | _,_=>false
def tmOk:PyData->Prop
 | .tuple [p,f]=>pwOk p/\frOk f
 | _=>True
def spTerm:Sp:=λvs H Q _=>∃(v:V) (d:PyData) (aa:Int),vs=[v,.int aa]/\DecV H v d/\tmOk d/\∀H',Same H H'->Q (.bl (vG d aa)) H'
theorem DecVs.sm{H:Hp} :∀{xs:List V} {ds:List PyData},DecVs H xs ds->(∀x∈ds,smD x)->∀x∈xs,Sm x/\∃k,KdOf H x k
 | _,_,.nil,_=>λx h=>(by cases h)
 | _,_,.cons h t,k=>λx hx=>by
  rcases mI.mp hx with rfl | hx
  ·refine⟨?_,_,h.kd⟩;have:=k _ (gJ ..);cases h<;>first | exact this | exact trivial
  ·exact DecVs.sm t (λy hy=>k y (uX _ hy)) x hx
theorem VS{H:Hp}{v:V}{d:PyData}(h:DecV H v d)(o:frOk d):Thing H v/\ET H v=FQ d:=by
 cases h with
 | non=>exact⟨.sc .non (by decide),rfl⟩
 | bl b=>exact⟨.sc (.bl b) (by decide),rfl⟩
 | int i=>exact⟨.sc (.int i) (by decide),rfl⟩
 | str x=>exact⟨.sc (.str x) (by decide),rfl⟩
 | lst e _=>exact⟨.sc (.lst e) (by decide),by simp only[ET,e];rfl⟩
 | @tup a xs ds e h=>
  refine⟨.tup e (h.sm o), ?_⟩;rw[JV e]
  match xs,ds,h with
  | [],[],_=>rfl
  | [_],[_],.cons h1 .nil=>rw[EE (by simp)];cases h1<;>rfl
  | [_,_],[_,_],.cons h1 (.cons h2 .nil)=>cases h1<;>cases h2<;>rfl
  | _::_::_::_,_::_::_::_,_=>
   rw[EE (by simp)];unfold FQ;split
   ·rename_i e;injection e with e
    injection e with _ e
    injection e with _ e
    cases e
   ·rfl
theorem QP{g:PyData}(h:FQ g=true):∃t b,g=.tuple [.int t,.int b]:=by
 unfold FQ at h;split at h
 ·exact⟨_,_,rfl⟩
 ·cases h
theorem WC{H:Hp}{y:V}{t b:Int}(h:DecV H y (.tuple [.int t,.int b])):∃c,y=.ref c/\H c=some (.tup [.int t,.int b]):=by
 cases h with
 | tup e h=>
  cases h with
  | cons h1 h=>
   cases h with
   | cons h2 h=>
    cases h;cases h1;cases h2;exact⟨_,rfl,e⟩
def Ngt(K:nI)(mg:Str->Option Value):Prop:=∃a,mg "NOUGHT_sums" = some (.ref a)/\∀H,SqT K H a (([0,1]:List Int).map V.int)
theorem scTerm:FnScope ["thing","many","powers","fraction"] ["thing","many"] (jJ MS):=⟨rfl,rfl,rfl,by decide +kernel,rfl,by decide +kernel,by decide +kernel⟩
theorem NN{fW fI fP fH fG:Addr}{fdW fdI fdP fdH fdG:FuncData}(F:Fun K "is_term" "is_term" MS f fd)(T:Txt mg)(N:Ngt K mg)(DW:Df K mg "is_whole_from" sWF ["thing","low"] fW fdW)(DP:Df K mg "are_powers" sPw ["thing","many"] fP fdP)(DI:Df K mg "is_fraction" LF ["thing"] fI fdI)
  (DH:Df K mg "is_whole" wI ["thing"] fH fdH) (DG:Df K mg "greatest_divisor" DB ["one","other"] fG fdG):FnOk P w K mg base CX0 4 f fd ["thing","many"] spTerm:=by
 have GP:FnOk P w K mg base CX0 3 fP fdP ["thing","many"] spPw:=ok_pw DP.F T DW;have GI:FnOk P w K mg base CX0 2 fI fdI ["thing"] spIsf:=UM DI.F T DH DG;obtain⟨nA,hn,hN⟩:=N;refine F.ok scTerm (λvs H Q E h=>?_) (λcdv A outer s H vs Q E hr h=>?_)
 ·obtain⟨v,d,aa,rfl,_⟩:=h
  rfl
 ·obtain⟨v,d,aa,rfl,hd,ho,q⟩:=h;have hr2:Room 2 _:=hr.mono (by decide);refine⟨_,jC (kT (PW.pt (qU (kZ (kU (vP yQ T.isi T.tup boot_tuple (pv 0)))) (vB (kI zF (jX jW (by rfl) T.len PySem.boot_len (jA (pv 0) jB)) jF (kD _))))) (jE (jM xQ)) kC)
   (jC (vC (pv 0) (jY rfl (jG (jH (i:=2) scTerm.nd rfl (Or.inl rfl)) (jG (jH (i:=3) scTerm.nd rfl (Or.inl rfl)) jV))))
   (jE (jM (yL (jD GP hr rfl DP.m DP.F.kp DP.b .nil jK (jA (pv 2) (jA (pv 1) jB))) (yL (jD GI hr2 rfl DI.m DI.F.kp DI.b .nil jK (jA (pv 3) jB)) (wM (qZ (LwT.op_neT hr.units0) (pv 3) (kL (v:=.ref nA) (by rfl) hn rfl) (kD _)))))))), ?_⟩
  refine⟨_,rfl,rfl,_,hd.kd,_,rfl, ?_⟩;cases hd with
  | non=>exact kK (kK (q _ (Same.refl _)))
  | bl b=>exact kK (kK (q _ (Same.refl _)))
  | int i=>exact kK (kK (q _ (Same.refl _)))
  | str x=>exact kK (kK (q _ (Same.refl _)))
  | lst e _=>exact kK (kK (q _ (Same.refl _)))
  | @tup a xs ds e hx=>
   refine qJ ⟨_,rfl,a,xs,rfl,.inr (SqT.of e),rfl,_,rfl, ?_⟩
   match xs,ds,hx,e,ho,q with
   | [],[],_,e,ho,q=>exact kK (q _ (Same.refl _))
   | [_],[_],_,e,ho,q=>exact kK (q _ (Same.refl _))
   | [x,y],[p,g],.cons h1 (.cons h2 .nil),e,ho,q=>
    refine qJ ?_;refine⟨_,rfl,a,[x,y],rfl,SqT.of e,rfl,x,[y],rfl,y,[],rfl,rfl, ?_⟩;refine⟨_,rfl,_,rfl,x,p,aa,rfl,h1,ho.1,λH1 s1=>⟨_,rfl, ?_⟩⟩;cases e1:pwB p aa with
    | false=>
     have z:vG (.tuple [p,g]) aa=false:=by simp only[vG,e1,Bool.false_and]
     rw[z]at q;exact qJ (q _ s1)
    | true=>
     obtain⟨t1,t2⟩:=VS (h2.mono s1) ho.2;refine kK ⟨_,rfl,y,rfl,t1,_,rfl, ?_⟩;rw[t2];cases e2:FQ g with
     | false=>
      have z:vG (.tuple [p,g]) aa=false:=by simp only[vG,e2,Bool.false_and,Bool.and_false]
      rw[z]at q;exact qJ (q _ s1)
     | true=>
      refine kK ?_;have z:vG (.tuple [p,g]) aa=nzD g:=by simp only[vG,e1,e2,Bool.true_and]
      rw[z]at q;obtain⟨t,b,rfl⟩:=QP e2;obtain⟨c,rfl,ec⟩:=WC (h2.mono s1);refine⟨_,rfl,c,nA,[t,b],[0,1],rfl,rfl,SqT.of ec,hN _, ?_⟩;show Q (V.bl (LwT.lexNe [t,b] [0,1])) H1;rw[show LwT.lexNe [t,b] [0,1]=nzD (.tuple [.int t,.int b])from LwT.lexNe_eq [t,b] [0,1]];exact q _ s1
   | x1::x2::x3::xs,d1::d2::d3::ds,hx,e,ho,q=>
    refine uI ?_ (q _ (Same.refl _));rw[hW]
    ·rfl
    ·intro z;injection z with z
     simp only[gX]at z;omega
def uA:PyData->List Int
 | .tuple (.tuple ds::_)=>xB ds
 | _=>[]
def FM(ts:List PyData):Bool:=(ts.zip (ts.drop 1)).all λq=>LwT.lexLt (uA q.1) (uA q.2)
def FZ:PyData->Bool
 | .tuple [.int n,.tuple ts]=>(decide (1<=n)&&decide (n<=4))&&(decide (ts.length<=500)&&((ts.all λt=>vG t n)&&FM ts))
 | _=>false
def suOk:PyData->Prop
 | .tuple [_,.tuple ts]=>∀t∈ts,tmOk t
 | _=>True
def spSum:Sp:=λvs H Q _=>∃(v:V) (d:PyData),vs=[v]/\DecV H v d/\suOk d/\∀H',Same H H'->Q (.bl (FZ d)) H'
theorem IM{H:Hp}{x:V}{d:PyData}{n:Int}(h:DecV H x d)(e:vG d n=true):∃a b y ns,x=.ref a/\H a=some (.tup [.ref b,y])/\H b=some (.tup (ns.map V.int))/\uA d=ns:=by
 unfold vG at e;split at e
 ·rename_i p g;rw[gY]at e;have e1:=e.1;unfold pwB at e1;split at e1
  ·rename_i ds';rw[gY,gY]at e1;cases h with
   | tup q h=>
    cases h with
    | cons h1 h=>
     cases h with
     | cons h2 h=>
      cases h;cases h1 with
      | tup q1 h1=>
       obtain⟨ex,_⟩:=HY h1 e1.1.2;exact⟨_,_,_,xB ds',rfl,q,by rw[q1,ex],rfl⟩
  ·cases e1
 ·cases e
theorem WR{ts:List PyData}{i:Nat}{a b:PyData}(h1:ts[i]? = some a)(h2:(ts.drop 1)[i]? = some b):((ts.zip (ts.drop 1)).take (i+1))=(ts.zip (ts.drop 1)).take i++[(a,b)]:=by
 rw[gO,List.getElem?_zip_eq_some (z:=(a,b)) |>.mpr ⟨h1,h2⟩]
 rfl
theorem EX(xs:List V):wC xs (some 1) none=xs.drop 1:=by
 unfold wC;have e1:HT.sIx xs.length 0 (some 1)=min 1 xs.length:=HT.sIx_nat xs.length 0 1;have e2:HT.sIx xs.length xs.length none=xs.length:=rfl;rw[e1,e2];cases xs with
 | nil=>rfl
 | cons x xs=>
  have:min 1 (x::xs).length=1:=by simp
  rw[this,List.take_of_length_le (by simp)]
theorem DecVs.drop1{H:Hp}{xs:List V}{ds:List PyData}(h:DecVs H xs ds):DecVs H (xs.drop 1) (ds.drop 1):=by
 cases h with
 | nil=>exact .nil
 | cons _ t=>exact t
theorem scSum:FnScope ["thing","many","terms"] ["thing"] (jJ XD):=⟨rfl,rfl,rfl,by decide +kernel,rfl,by decide +kernel,by decide +kernel⟩
theorem ok_sum{fW fI fP fH fG fT:Addr}{fdW fdI fdP fdH fdG fdT:FuncData}(F:Fun K "is_sum" "is_sum" XD f fd)(T:Txt mg)(N:Ngt K mg)(DW:Df K mg "is_whole_from" sWF ["thing","low"] fW fdW)(DP:Df K mg "are_powers" sPw ["thing","many"] fP fdP)(DI:Df K mg "is_fraction" LF ["thing"] fI fdI)
  (DH:Df K mg "is_whole" wI ["thing"] fH fdH) (DG:Df K mg "greatest_divisor" DB ["one","other"] fG fdG) (DT:Df K mg "is_term" MS ["thing","many"] fT fdT):FnOk P w K mg base CX0 5 f fd ["thing"] spSum:=by
 have GW:FnOk P w K mg base CX0 1 fW fdW ["thing","low"] spWF:=UC DW.F T;have GT:FnOk P w K mg base CX0 4 fT fdT ["thing","many"] spTerm:=NN DT.F T N DW DP DI DH DG;obtain⟨tl,hlt⟩:=T.letters;obtain⟨tt,htt⟩:=T.terms;refine F.ok scSum (λvs H Q E h=>?_) (λcdv A outer s H vs Q E hr h=>?_)
 ·obtain⟨v,d,rfl,_⟩:=h
  rfl
 ·obtain⟨v,d,rfl,hd,ho,q⟩:=h;have hr1:Room 1 _:=hr.mono (by decide);refine⟨_,jC (kT (PW.pt (qU (kZ (kU (vP yQ T.isi T.tup boot_tuple (pv 0)))) (vB (kI zF (jX jW (by rfl) T.len PySem.boot_len (jA (pv 0) jB)) jF (kD _))))) (jE (jM xQ)) kC)
   (jC (vC (pv 0) (jY rfl (jG (jH (i:=1) scSum.nd rfl (Or.inr rfl)) (jG (jH (i:=2) scSum.nd rfl (Or.inl rfl)) jV))))
   (jC (kT (PW.pt (qU (kZ (kU (jD GW hr1 rfl DW.m DW.F.kp DW.b .nil jK (jA (pv 1) (jA jF jB))))) (vB (kI uE (pv 1) (kL (v:=.int 4) (by rfl) hlt ⟨_,rfl⟩) (kD _))))) (jE (jM xQ)) kC)
   (jC (kT (PW.pt (qU (kZ (kU (vP yQ T.isi T.tup boot_tuple (pv 2)))) (vB (kI uE (jX jW (by rfl) T.len PySem.boot_len (jA (pv 2) jB)) (kL (v:=.int 500) (by rfl) htt ⟨_,rfl⟩) (kD _))))) (jE (jM xQ)) kC)
   (jC (kT (kZ (kU (jX (AE rfl) (by rfl) T.all boot_all (jA
     (vZ (own:=1) (idx:=[1]) (N:=["term","many"]) rfl rfl rfl (by decide +kernel) (by decide +kernel) (λ_ _ h=>h) (qN rfl) rfl (vS rfl ⟨rfl,rfl,rfl,rfl⟩) (zC (pv 2)) (λC fp s2 H2=>jH (i:=0) (show List.Nodup (["term","many"]:List Str) by decide +kernel) rfl (Or.inl rfl)) (λC fp s2 H2=>jD GT hr rfl DT.m DT.F.kp DT.b .nil jK (jA (pv 0) (jA (pv 1) jB)))) jB)))) (jE (jM xQ)) kC)
   (jE (jM (jX (AE rfl) (by rfl) T.all boot_all (jA
     (EB (N:=["before","behind"]) rfl rfl (by decide +kernel) (by decide +kernel) (by decide +kernel) (XT (by rfl) T.zip (jA (pv 2) (jA (zD WY (pv 2) (yK jF) uB) jB))) (λC fp s2 H2=>show PG (qI _ ["before","behind"] _ C fp s2 H2) _ (zK K 2 (kR (jS 0) (kR (jS 1) gNil)))from jY (X:=qI _ ["before","behind"] _ C fp s2 H2) rfl (jG (jH (i:=0) (show List.Nodup (["before","behind"]:List Str) by decide +kernel) rfl (Or.inl rfl) (Or.inl rfl)) (jG (jH (i:=1) (show List.Nodup (["before","behind"]:List Str) by decide +kernel) rfl (Or.inl rfl) (Or.inl rfl)) jV)))
      (λC fp s2 H2=>qZ (show OpR (qI _ ["before","behind"] _ C fp s2 H2) (compareOp .Lt) (LwT.rOrdT K LwT.lexLt)from LwT.op_ltT hr.units0) (kG (show IxR (qI _ ["before","behind"] _ C fp s2 H2) (rIxT K)from kJ) (pv 0) jF (λ_ _=>rfl)) (kG (show IxR (qI _ ["before","behind"] _ C fp s2 H2) (rIxT K)from kJ) (pv 1) jF (λ_ _=>rfl)) (kD _))) jB)))))))), ?_⟩
  have no:FZ d=false->Q (.bl false) H:=λz=>by have:=q H (Same.refl _);rwa [z]at this
  refine⟨_,rfl,rfl,_,hd.kd,_,rfl, ?_⟩;cases hd with
  | non=>exact kK (kK (no rfl))
  | bl b=>exact kK (kK (no rfl))
  | int i=>exact kK (kK (no rfl))
  | str x=>exact kK (kK (no rfl))
  | lst e _=>exact kK (kK (no rfl))
  | @tup a xs ds e hx=>
   refine qJ ⟨_,rfl,a,xs,rfl,.inr (SqT.of e),rfl,_,rfl, ?_⟩
   match xs,ds,hx,e,ho,q,no with
   | [],[],_,e,ho,q,no=>exact kK (no rfl)
   | [_],[d1],_,e,ho,q,no=>exact kK (no (by cases d1<;>rfl))
   | x1::x2::x3::xs,d1::d2::d3::ds,hx,e,ho,q,no=>
    refine uI ?_ (no (by cases d1<;>cases d2<;>rfl));rw[hW]
    ·rfl
    ·intro z;injection z with z
     simp only[gX]at z;omega
   | [x,y],[dm,dt],.cons h1 (.cons h2 .nil),e,ho,q,no=>
    refine qJ ?_;refine⟨_,rfl,a,[x,y],rfl,SqT.of e,rfl,x,[y],rfl,y,[],rfl,rfl, ?_⟩;refine⟨_,rfl,x,dm,1,rfl,h1,_,rfl, ?_⟩;cases h1 with
    | non=>exact kK (kK (no rfl))
    | bl b=>exact kK (kK (no rfl))
    | str x=>exact kK (kK (no rfl))
    | lst e _=>exact kK (kK (no rfl))
    | tup e _=>exact kK (kK (no rfl))
    | int n=>
    by_cases n1:1<=n
    case neg=>
     refine uI (by show(!decide (1<=n))=true;rw[hW n1];rfl) (kK (no ?_));cases dt<;>first | rfl | (simp only[FZ,hW n1,Bool.false_and])
    refine xE (by show(!decide (1<=n))=false;rw[mC n1];rfl) ?_;refine⟨_,rfl,_,_,rfl,rfl,_,rfl, ?_⟩;by_cases n4:4<n
    case pos=>
     refine uI (mC n4) (no ?_);have:¬n<=4:=by omega
     cases dt<;>first | rfl | (simp only[FZ,hW this,Bool.false_and,Bool.and_false])
    refine xE (hW n4) ?_;have n4':n<=4:=by omega
    refine⟨_,rfl,rfl,_,h2.kd,_,rfl, ?_⟩;cases h2 with
    | non=>exact kK (kK (no rfl))
    | bl b=>exact kK (kK (no rfl))
    | int i=>exact kK (kK (no rfl))
    | str x=>exact kK (kK (no rfl))
    | lst e _=>exact kK (kK (no rfl))
    | @tup a2 ts dts e2 ht=>
    have hlen:=ht.length;refine qJ ⟨_,rfl,a2,ts,rfl,.inr (SqT.of e2),_,_,rfl,rfl,_,rfl, ?_⟩;by_cases n5:dts.length<=500
    case neg=>
     refine uI (mC (by rw[hlen];omega)) (no ?_);simp only[FZ,hW n5,Bool.false_and,Bool.and_false]
    refine xE (hW (by rw[hlen];omega)) ?_;have zs:FZ (.tuple [.int n,.tuple dts])=((dts.all λt=>vG t n)&&FM dts):=by
     simp only[FZ,mC n1,mC n4',mC n5,Bool.true_and]
    rw[zs]at q;clear no zs;have tsz:ts.length<sizeLine:=by rw[hlen];exact gD n5 (by decide)
    refine⟨_,rfl,a2,rfl,⟨ts,SqT.of e2⟩,λp H1 n1' s1 e1=>?_⟩;refine AZ (xs:=ts) (λi ys H2=>Same H H2/\H2 p=some (.lst ys)/\ys=(dts.take i).map λd=>V.bl (vG d n)) tsz ⟨s1,e1,rfl⟩ (λi ys H2 h=>⟨SqT.of (h.1 _ _ e2),h.2.1⟩) ?_ ?_
    ·rintro i m ys x H2 hx' hm hl' ⟨k1,k2,rfl⟩;obtain⟨d,hd1,hd2⟩:=(ht.mono k1).get hx';refine⟨EQ,_,rfl,_,rfl,x,d,n,rfl,hd2,ho d (uW hd1),λH3 s3=>?_⟩;refine kY hx' hm hl' (s3 _ _ k2) ⟨kF (k1.trans s3) n1',jI, ?_⟩;rw[gO,hd1,hV]
     rfl
    ·rintro ys H2 hl' ⟨k1,k2,rfl⟩;rw[hlen,gW]at k2;refine⟨p,dts.map λd=>vG d n,rfl,SqL.of (by rw[k2,List.map_map];rfl),_,rfl, ?_⟩;have ea:(dts.map λd=>vG d n).all id=dts.all λd=>vG d n:=by rw[List.all_map];rfl
     rw[ea];cases al:dts.all λd=>vG d n with
     | false=>
      rw[al]at q;exact kK (q _ k1)
     | true=>
      rw[al,Bool.true_and]at q;refine qJ ?_;have alt:∀d∈dts,vG d n=true:=List.all_eq_true.mp al;have d1:=ht.drop1;refine⟨_,rfl,_,rfl,1,rfl,a2,ts,rfl,k1 _ _ e2,λp2 H3 s3 e3=>?_⟩;rw[EX]at e3;have k3:Same H H3:=k1.trans s3;refine⟨a2,p2,rfl,⟨ts,SqT.of (k3 _ _ e2)⟩,⟨_,SqT.of e3⟩,λp3 H4 n4 s4 e4=>?_⟩;refine WG (ts:=ts) (us:=ts.drop 1) (λi ys H5=>Same H3 H5/\H5 p3=some (.lst ys)/\ys=((dts.zip (dts.drop 1)).take i).map λq=>V.bl (LwT.lexLt (uA q.1) (uA q.2))) (by simp) (by simp;omega) ⟨s4,e4,rfl⟩
       (λi ys H5 h=>⟨SqT.of ((k3.trans h.1) _ _ e2),SqT.of (h.1 _ _ e3),h.2.1⟩) ?_ ?_
      ·rintro i m ys x y c H5 hx' hy' hm hl' ⟨j1,j2,rfl⟩ hc;obtain⟨dx,ex1,ex2⟩:=(ht.mono (k3.trans j1)).get hx';obtain⟨dy,ey1,ey2⟩:=(d1.mono (k3.trans j1)).get hy';obtain⟨ax,bx,wx,ns,rfl,hax,hbx,rfl⟩:=IM ex2 (alt _ (uW ex1));obtain⟨ay,by',wy,ms,rfl,hay,hby,rfl⟩:=IM ey2 (alt _ (List.mem_of_mem_drop (uW ey1)));have su:Same H5 (upd H5 c (.tup [.ref ax,.ref ay])):=kB _ hc;refine⟨c,[.ref ax,.ref ay],rfl,SqT.of jI,rfl,_,_,rfl,_,_,rfl,rfl, ?_⟩;refine⟨_,rfl,ax,_,_,_,rfl,rfl,SqT.of (su _ _ hax),rfl,_,rfl,ay,_,_,_,rfl,rfl,SqT.of (su _ _ hay),rfl,bx,by',_,_,rfl,rfl,SqT.of (su _ _ hbx),SqT.of (su _ _ hby), ?_⟩;refine kY hy' hm hl' (su _ _ j2) ⟨kF (j1.trans su) n4,jI, ?_⟩;rw[WR ex1 ey1,hV]
       rfl
      ·rintro ys H5 hl' ⟨j1,j2,rfl⟩;have el:(dts.zip (dts.drop 1)).length=(ts.drop 1).length:=by rw[List.length_zip,List.length_drop,List.length_drop,hlen];omega
       rw[<-el,gW]at j2;refine⟨p3,(dts.zip (dts.drop 1)).map λq=>LwT.lexLt (uA q.1) (uA q.2),rfl,SqL.of (by rw[j2,List.map_map];rfl), ?_⟩;have ez:((dts.zip (dts.drop 1)).map λq=>LwT.lexLt (uA q.1) (uA q.2)).all id=FM dts:=by rw[List.all_map];rfl
       rw[ez];exact q _ (k3.trans j1)
open LwS
theorem Paired.to{α β:Type}{F G:α->β->Prop}(f:∀a b,F a b->G a b):∀{l₁:List α} {l₂:List β},Paired F l₁ l₂->Paired G l₁ l₂
 | _,_,.nil=>.nil
 | _,_,.cons h t=>.cons (f _ _ h) (Paired.to f t)
theorem Paired.at{α β:Type}{F:α->β->Prop} :∀{l₁:List α} {l₂:List β} {i:Nat} {x:α},Paired F l₁ l₂->l₁[i]? = some x->∃y,l₂[i]? = some y/\F x y
 | _,_,_,_,.nil,h=>by simp at h
 | _,_,0,_,.cons h t,e=>by
  cases (Option.some.inj e);exact⟨_,rfl,h⟩
 | _,_,i+1,_,.cons h t,e=>Paired.at t (i:=i) e
structure CmI(F:Nat->List V)(q:Addr)(H1:Hp)(i:Nat)(ys:List V)(H2:Hp):Prop where
 s:Same H1 H2
 e:H2 q=some (.lst ys)
 y:ys=F i
structure TAt(H:Hp)(b c:Addr)(x:Trm):Prop where
 pw:H b=some (.tup (x.ns.map V.int))
 nb:At2 H c x.t x.b
theorem TAt.map{H H':Hp}{b c:Addr}{x:Trm}(h:TAt H b c x)(k:∀a xs,H a=some (.tup xs)->H' a=some (.tup xs)):TAt H' b c x:=⟨k _ _ h.pw,k _ _ h.nb⟩
structure TrmV(H:Hp)(v:V)(x:Trm):Prop where
 ex:∃r b c:Addr,v=.ref r/\H r=some (.tup [.ref b,.ref c])/\TAt H b c x
theorem TrmV.map{H H':Hp}{v:V}{x:Trm}(h:TrmV H v x)(k:∀a xs,H a=some (.tup xs)->H' a=some (.tup xs)):TrmV H' v x:=by
 obtain⟨r,b,c,e1,e2,e3⟩:=h.ex;exact⟨r,b,c,e1,k _ _ e2,e3.map k⟩
structure Poly(H:Hp)(p:Addr)(aa:Nat)(ts:List Trm):Prop where
 ex:∃(q:Addr) (xs:List V),H p=some (.tup [.int aa,.ref q])/\H q=some (.tup xs)/\Paired (TrmV H) xs ts
theorem Poly.map{H H':Hp}{p:Addr}{aa:Nat}{ts:List Trm}(h:Poly H p aa ts)(k:∀a xs,H a=some (.tup xs)->H' a=some (.tup xs)):Poly H' p aa ts:=by
 obtain⟨q,xs,e1,e2,e3⟩:=h.ex;exact⟨q,xs,k _ _ e1,k _ _ e2,Paired.to (λ_ _ h=>h.map k) e3⟩
theorem Poly.same{H H':Hp}{p:Addr}{aa:Nat}{ts:List Trm}(h:Poly H p aa ts)(s:Same H H'):Poly H' p aa ts:=h.map λ_ _ e=>s _ _ e
theorem Paired.snoc{α β:Type}{F:α->β->Prop} :∀{l₁:List α} {l₂:List β} {x:α} {y:β},Paired F l₁ l₂->F x y->Paired F (l₁++[x]) (l₂++[y])
 | _,_,_,_,.nil,h=>.cons h .nil
 | _,_,_,_,.cons h t,k=>.cons h (Paired.snoc t k)
end Lw
namespace Lw
open PySem PySem.Spec PyProof.Rows L2 LwQ LwV
def pk(ns:List Int):Int:=ns.foldl (λk n=>k*256+n) 0
theorem zQ(ns:List Int)(n:Int):pk (ns++[n])=pk ns*256+n:=by
 unfold pk;rw[List.foldl_append]
 rfl
theorem XR{ns:List Int}{i:Nat}{n:Int}(h:ns[i]? = some n):pk (ns.take (i+1))=pk (ns.take i)*256+n:=by
 rw[gO,h];exact zQ ..
def Byt(ns:List Int):Prop:=∀n∈ns,0<=n/\n<256
theorem Byt.take{ns:List Int}(h:Byt ns)(i:Nat):Byt (ns.take i):=λn hn=>h n (List.mem_of_mem_take hn)
theorem pk_nn:∀{ns:List Int},Byt ns->0<=pk ns:=fun {ns} =>by
 have key:∀(k:Int) (l:List Int),0<=k->(∀n∈l,0<=n/\n<256)->0<=l.foldl (λk n=>k*256+n) k:=λk l=>by
  induction l generalizing k with
  | nil=>exact λh _=>h
  | cons a l ih=>
   intro h0 h1;refine ih _ ?_ λn hn=>h1 n (uX _ hn);have:=h1 a (gJ ..);show 0<=k*256+a;omega
 exact key 0 ns (mZ _)
theorem BT{ns:List Int}{n:Int}(h:0<=n/\n<256):pk (ns++[n])%256=n/\pk (ns++[n])/256=pk ns:=by
 rw[zQ];omega
theorem yI{α:Type}{l:List α}{n:Nat}(h:l.length=n+1):∃m y,l=m++[y]/\m.length=n:=by
 rcases List.eq_nil_or_concat l with z | ⟨m,y,z⟩
 ·rw[z]at h;cases h
 ·rw[List.concat_eq_append]at z;exact⟨m,y,z,by rw[z,gE]at h;simpa using h⟩
theorem AF{l:List Int}{a:Int}(h:Byt (l++[a])):Byt l/\0<=a/\a<256:=⟨λn hn=>h n (List.mem_append_left _ hn),h a (uT _ (gH.mpr rfl))⟩
theorem pk_lt:∀(n:Nat) {ns:List Int},ns.length=n->Byt ns->pk ns<256^n
 | 0,ns,hl,_=>by rw[List.length_eq_zero_iff.mp hl];decide
 | n+1,ns,hl,h=>by
  obtain⟨m,y,rfl,hm⟩:=yI hl;obtain⟨h1,h2⟩:=AF h;have:=pk_lt n hm h1;rw[zQ,Int.pow_succ];omega
theorem LJ:∀(n:Nat) {a b:List Int},a.length=n->b.length=n->Byt a->Byt b->pk a=pk b->a=b
 | 0,a,b,h1,h2,_,_,_=>by rw[List.length_eq_zero_iff.mp h1,List.length_eq_zero_iff.mp h2]
 | n+1,a,b,h1,h2,ha,hb,e=>by
  obtain⟨m,y,rfl,hm⟩:=yI h1;obtain⟨m',y',rfl,hm'⟩:=yI h2;obtain⟨k1,k2⟩:=AF ha;obtain⟨k3,k4⟩:=AF hb;have p1:=BT (ns:=m) k2;have p2:=BT (ns:=m') k4;rw[e]at p1;rw[p1.1.symm.trans p2.1,LJ n hm hm' k1 k3 (p1.2.symm.trans p2.2)]
theorem DK{ns:List Int}(h:Byt ns)(l:ns.length<=4):(pk ns).natAbs<2^32:=by
 have h0:=pk_nn h;have h1:=pk_lt _ rfl h;have:(256:Int)^ns.length<=256^4:=by
  obtain h | h | h | h | h:ns.length=0∨ns.length=1∨ns.length=2∨ns.length=3∨ns.length=4:=by omega
  all_goals rw[h];decide
 have:(256:Int)^4=2^32:=by decide
 omega
def CP(K:nI):Sp:=λvs H Q _=>∃(b:Addr) (ns:List Int),vs=[.ref b]/\SqT K H b (ns.map V.int)/\Byt ns/\ns.length<=4/\Q (.int (pk ns)) H
inductive PkI(H:Hp)(b:Addr)(ns:List Int)(i:Nat):L2.St->Hp->Prop where
 | mk {u:Option V} :PkI H b ns i [some (.ref b),some (.int (pk (ns.take i))),u] H
def spUnpk:Sp:=λvs H Q _=>∃(ns:List Int),vs=[.int (pk ns),.int ns.length]/\Byt ns/\ns.length<=4/\∀(r:Addr) (H':Hp),H r=none->Same H H'->H' r=some (.tup (ns.map V.int))->Q (.ref r) H'
inductive UpI(H:Hp)(l:Addr)(ns:List Int)(i:Nat):L2.St->Hp->Prop where
 | mk {u:Option V} {H':Hp} (s:Same H H') (e:H' l=some (.lst (((ns.reverse).take i).map V.int))):UpI H l ns i [some (.int (pk (ns.take (ns.length-i)))),some (.int ns.length),some (.ref l),u] H'
variable{P:Program}{w:World}{K:nI}{mg:Str->Option Value}{base:Heap}{f fd:_}
theorem scPk:FnScope ["powers","key","power"] ["powers"] (jJ wX):=⟨rfl,rfl,rfl,by decide +kernel,rfl,by decide +kernel,by decide +kernel⟩
theorem PY(F:Fun K "packed" "packed" wX f fd)(T:Txt mg):FnOk P w K mg base CX0 1 f fd ["powers"] (CP K):=by
 obtain⟨tp,hp⟩:=T.pack;refine F.ok scPk (λvs H Q E h=>?_) (λcdv A outer s H vs Q E hr h=>?_)
 ·obtain⟨b,ns,rfl,_⟩:=h
  rfl
 ·obtain⟨b,ns,rfl,hb,hB,l4,go⟩:=h;refine⟨_,jC (jO (i:=1) scPk.nd rfl (Or.inl rfl) jF) (jC (qA PassesOwn.never rfl (zC (pv 0)) (jH (i:=2) scPk.nd rfl (Or.inl rfl)) (jE (jO (i:=1) scPk.nd rfl (Or.inl rfl) (jT qH (jT kO (pv 1) (kL (v:=.int 256) (by rfl) hp ⟨_,rfl⟩)) (pv 2))))) (jE (jM (pv 1)))), ?_⟩;try dsimp only[cxK]
  refine⟨_,rfl,b,rfl,⟨_,hb⟩,ZT (K:=K) (a:=b) (xs:=ns.map V.int) (PkI H b ns) .mk (λi σ H1 _ h=>?_) (λi x σ H1 hx h=>?_) (fun σ H1 h=>?_)⟩
  ·obtain⟨⟩:=h;exact hb
  ·obtain⟨⟩:=h;rw[gM]at hx;obtain⟨n,hn,rfl⟩:=Option.map_eq_some_iff.mp hx;have sm:=DK (hB.take i) (by rw[gT];omega);refine⟨_,rfl,_,_,rfl,rfl,⟨jR sm (by decide),jR (m:=9) (by decide) (by decide)⟩,_,rfl,_,_,rfl,rfl, ?_⟩;have e:=XR hn;dsimp only[jS];rw[<-e];exact .mk
  ·obtain⟨⟩:=h;rw[hU,gW];exact⟨_,rfl,go⟩
theorem scUp:FnScope ["key","many","powers","letter"] ["key","many"] (jJ MR):=⟨rfl,rfl,rfl,by decide +kernel,rfl,by decide +kernel,by decide +kernel⟩
theorem YD(F:Fun K "unpacked" "unpacked" MR f fd)(T:Txt mg):FnOk P w K mg base CX0 1 f fd ["key","many"] spUnpk:=by
 obtain⟨tp,hp⟩:=T.pack;refine F.ok scUp (λvs H Q E h=>?_) (λcdv A outer s H vs Q E hr h=>?_)
 ·obtain⟨ns,rfl,_⟩:=h
  rfl
 ·obtain⟨ns,rfl,hB,l4,go⟩:=h;refine⟨_,jC (jO (i:=2) scUp.nd rfl (Or.inl rfl) (kH jB)) (jC (qA PassesOwn.never rfl (qR (by rfl) T.rng (jA (pv 1) jB)) (jH (i:=3) scUp.nd rfl (Or.inl rfl)) (jC (qQ (uC PySem.F.plainAttrs_list PySem.F.slot_list_append PySem.F.type_list_append qE (pv 2) (jA (jT AS (pv 0) (kL (v:=.int 256) (by rfl) hp ⟨_,rfl⟩)) jB))) (jE (jO (i:=0) scUp.nd rfl (Or.inl rfl) (jT LwD.zG (pv 0) (kL (v:=.int 256) (by rfl) hp ⟨_,rfl⟩)))))) (jE (jM (qS vV (by rfl) T.tup boot_tuple (jA (JC (pv 2) (yK (yS xC jF))) jB))))), ?_⟩;try dsimp only[cxK]
  refine⟨uK,λl H1 n1 s1 e1=>?_⟩;refine⟨_,rfl,_,rfl,by omega,by omega,vH (n:=ns.length) (UpI H l ns) ?_ (λi σ H2 hi h=>?_) (fun σ H2 h=>?_)⟩
  ·have z:UpI H l ns 0 [some (.int (pk (ns.take (ns.length-0)))),some (.int ns.length),some (.ref l),none] H1:=.mk s1 (by rw[List.take_zero];exact e1);rw[Nat.sub_zero,gW]at z;exact z
  ·obtain⟨s2,e2⟩:=h;obtain⟨m,y,em,hm⟩:=yI (l:=ns.take (ns.length-i)) (n:=ns.length-(i+1)) (by rw[gT];omega);have hBm:=hB.take (ns.length-i);rw[em]at hBm;obtain⟨b1,b2⟩:=AF hBm;have p1:=BT (ns:=m) b2;have em':m=ns.take (ns.length-(i+1)):=by
    have:=congrArg (List.take (ns.length-(i+1))) em;rw[List.take_take,Nat.min_eq_left (by omega),<-hm,List.take_left' rfl]at this;rw[<-this,hm]
   have sm:=DK (hB.take (ns.length-i)) (by rw[gT];omega);rw[em]at sm ⊢;have lt:=gT (i:=i) (l:=ns.reverse);rw[List.length_reverse]at lt;refine⟨_,rfl,.inl ⟨rfl,_,SqL.of e2⟩,_,rfl,_,_,rfl,rfl,(by show(0:Int)<256;decide),l,_,_,rfl,rfl,e2,by rw[hU,lt,sizeLine_eq];omega, ?_⟩;refine⟨_,rfl,_,_,rfl,rfl,LwD.xT (m:=32) (by decide) (by decide) sm, ?_⟩;dsimp only[jS];rw[p1.1,p1.2,em'];refine .mk (kF s2 n1) ?_;have g:ns.reverse[i]? = some y:=by
    rw[List.getElem?_reverse (by omega)];have g2:(ns.take (ns.length-i))[ns.length-1-i]? = some y:=by
     rw[em,List.getElem?_append_right (by omega)];have:ns.length-1-i-m.length=0:=by omega
     rw[this]
     rfl
    rw[List.getElem?_take_of_lt (by omega)]at g2;exact g2
   rw[jI,gO,g,hV]
   rfl
  ·obtain⟨s2,e2⟩:=h;rw[List.take_of_length_le (by rw[List.length_reverse];exact mW _)]at e2;refine⟨_,rfl,_,rfl,_,rfl,rfl,l,_,rfl,SqL.of e2,λl2 H3 n3 s3 e3=>⟨l2,_,rfl,.inl ⟨SqL.of e3,λr nr=>?_⟩⟩⟩;have e:((ns.reverse).map V.int).reverse=ns.map V.int:=by rw[List.map_reverse,List.reverse_reverse]
   rw[e];exact go r _ ((s2.trans s3).free nr) ((s2.trans s3).trans (kB _ nr)) jI
theorem Paired.app{α β:Type}{F:α->β->Prop} :∀{a b:List α} {c d:List β},Paired F a c->Paired F b d->Paired F (a++b) (c++d)
 | _,_,_,_,.nil,h=>h
 | _,_,_,_,.cons h t,k=>.cons h (Paired.app t k)
abbrev Tb:=List (Int×Rat)
def tv(T:Tb)(k:Int):Rat:=((T.find? λe=>decide (e.1=k)).map (·.2)).getD 0
def xN(T:Tb)(k:Int)(x:Rat):Tb:=if (T.any λe=>decide (e.1=k))=true then T.map (λe=>if e.1=k then(e.1,x)else e)else T++[(k,x)]
theorem kP(e:Int×Rat)(T:Tb)(k:Int):tv (e::T) k=if e.1=k then e.2 else tv T k:=by
 unfold tv;rw[List.find?_cons];by_cases h:e.1=k
 ·rw[nH h];simp [h]
 ·rw[nG h];simp [h]
theorem qL:∀{T:Tb} {k:Int},k∉T.map (·.1)->tv T k=0
 | [],_,_=>rfl
 | e::T,k,h=>by
  rw[kP,nG (λz=>h (by simp [z])),qL (λz=>h (by simp at z ⊢;exact .inr z))]
theorem KM:∀(T:Tb) (k:Int) (x:Rat) (j:Int),k∉T.map (·.1)->tv (T++[(k,x)]) j=if j=k then x else tv T j
 | [],k,x,j,_=>by
  show tv [(k,x)] j=_;rw[kP];by_cases h:k=j
  ·rw[nH h,nH h.symm]
  ·rw[nG h,nG (Ne.symm h)]
 | e::T,k,x,j,hk=>by
  have ih:=KM T k x j (λz=>hk (by simp at z ⊢;exact .inr z));show tv (e::(T++[(k,x)])) j=_;rw[kP,kP,ih];by_cases h:e.1=j
  ·rw[nH h,nH h,nG (λz=>hk (by simp [h,z]))]
  ·rw[nG h,nG h]
theorem KL:∀(T:Tb) (k:Int) (x:Rat) (j:Int),k∈T.map (·.1)->tv (T.map (λe=>if e.1=k then(e.1,x)else e)) j=if j=k then x else tv T j
 | [],k,x,j,h=>nomatch h
 | e::T,k,x,j,hk=>by
  rw[mH,kP,kP];by_cases h:e.1=k
  ·rw[nH h];by_cases q:e.1=j
   ·rw[nH q,nH (q.symm.trans h)]
   ·rw[nG q,nG (λz=>q (h.trans z.symm)),nG q];by_cases r:k∈T.map (·.1)
    ·rw[KL T k x j r,nG (λz=>q (h.trans z.symm))]
    ·have:T.map (λe=>if e.1=k then(e.1,x)else e)=T:=by
      conv=>rhs;rw[<-List.map_id T]
      refine List.map_congr_left λa ha=>?_;rw[nG (λz=>r (by rw[<-z];exact List.mem_map_of_mem ha))]
      rfl
     rw[this]
  ·rw[nG h];have r:k∈T.map (·.1):=by
    rcases mP.mp hk with⟨a,ha,e1⟩
    rcases mI.mp ha with rfl | ha
    ·exact absurd e1 h
    ·exact e1▸List.mem_map_of_mem ha
   rw[KL T k x j r];by_cases q:e.1=j
   ·rw[nH q,nG (λz=>h (q.trans z)),nH q]
   ·rw[nG q,nG q]
theorem any_key{T:Tb}{k:Int} :(T.any λe=>decide (e.1=k))=true↔k∈T.map (·.1):=by
 rw[List.any_eq_true,mP];constructor
 ·rintro⟨e,he,h⟩;exact⟨e,he,gP h⟩
 ·rintro⟨e,he,h⟩;exact⟨e,he,mC h⟩
theorem tv_put(T:Tb)(k:Int)(x:Rat)(j:Int):tv (xN T k x) j=if j=k then x else tv T j:=by
 unfold xN;by_cases h:(T.any λe=>decide (e.1=k))=true
 ·rw[nH h,KL T k x j (any_key.mp h)]
 ·rw[nG h,KM T k x j (λz=>h (any_key.mpr z))]
theorem zJ(T:Tb)(k:Int)(x:Rat):(xN T k x).map (·.1)=if k∈T.map (·.1)then T.map (·.1)else T.map (·.1)++[k]:=by
 unfold xN;by_cases h:(T.any λe=>decide (e.1=k))=true
 ·rw[nH h,nH (any_key.mp h),List.map_map];refine List.map_congr_left λa _=>?_;show(if a.1=k then(a.1,x)else a).1=a.1;split<;>rfl
 ·rw[nG h,nG (λz=>h (any_key.mpr z)),hV]
  rfl
theorem yE{T:Tb}{k:Int}{x:Rat}(h:(T.map (·.1)).Nodup):((xN T k x).map (·.1)).Nodup:=by
 rw[zJ];split
 ·exact h
 ·rename_i n;rw[List.nodup_append];exact⟨h,by simp,λa ha b hb=>by rw[gH]at hb;rintro rfl;rw[hb]at ha;exact n ha⟩
def NumH(H:Hp)(v:V)(x:Rat):Prop:=∃p,v=.ref p/\At2 H p x.num x.den
theorem NumH.k{K:nI}{H:Hp}{v:V}{x:Rat}(h:NumH H v x):NumK K H v x:=let ⟨p,e,q⟩:=h;⟨p,e,SqT.of q⟩
theorem NumH.same{H H':Hp}{v:V}{x:Rat}(h:NumH H v x)(s:Same H H'):NumH H' v x:=let ⟨p,e,q⟩:=h;⟨p,e,s _ _ q⟩
theorem NumH.of{H:Hp}{p:Addr}{x:Rat}(h:At2 H p x.num x.den):NumH H (.ref p) x:=⟨p,rfl,h⟩
theorem ZX{H:Hp}{p a:Addr}{ag:List (Key×V)}{xs:List V}{o:HO}(e:H p=some (.dK ag))(h:H a=some (.tup xs)):(upd H p o) a=some (.tup xs):=by rw[jL λz=>by rw[z,e]at h;cases h];exact h
def EntQ(K:nI)(H:Hp)(kv:Key×V)(e:Int×Rat):Prop:=kv.1=.inl e.1/\NumH H kv.2 e.2
theorem EntQ.same{K:nI}{H H':Hp}{kv:Key×V}{e:Int×Rat}(h:EntQ K H kv e)(s:Same H H'):EntQ K H' kv e:=⟨h.1,h.2.same s⟩
theorem OJ{K:nI}{H:Hp}{k:Int} :∀{ag:List (Key×V)} {T:Tb},Paired (EntQ K H) ag T->(ag.any λkv=>decide (kv.1=(.inl k:Key)))=(T.any λe=>decide (e.1=k))
 | _,_,.nil=>rfl
 | _,_,.cons (a:=kv) (b:=e) h t=>by
  rw[List.any_cons,List.any_cons,OJ t,h.1]
  congr 1
  by_cases q:e.1=k
  ·rw[mC q,mC (by rw[q])]
  ·rw[hW q,hW (λz=>q (Sum.inl.inj z))]
theorem AB{K:nI}{H:Hp}{k:Int}{v:V}{x:Rat}{ag:List (Key×V)}{T:Tb}(h:Paired (EntQ K H) ag T)(n:NumH H v x):Paired (EntQ K H) (vI ag (.inl k) v) (xN T k x):=by
 have key:∀{ag:List (Key×V)} {T:Tb},Paired (EntQ K H) ag T->Paired (EntQ K H) (ag.map λkv=>if kv.1=(.inl k:Key)then(kv.1,v)else kv) (T.map λe=>if e.1=k then(e.1,x)else e):=by
  intro ag T h;induction h with
  | nil=>exact .nil
  | @cons kv e _ _ h _ ih=>
   refine .cons ?_ ih;dsimp only;by_cases q:e.1=k
   ·rw[nH (by rw[h.1,q]),nH q];exact⟨h.1,n⟩
   ·rw[nG (λz=>q (by rw[h.1]at z;exact Sum.inl.inj z)),nG q];exact h
 unfold vI xN;rw[OJ h];split
 ·exact key h
 ·exact Paired.app h (.cons ⟨rfl,n⟩ .nil)
theorem IC{K:nI}{H:Hp}{k:Int} :∀{ag:List (Key×V)} {T:Tb},Paired (EntQ K H) ag T->(∃v,qK ag (.inl k:Key)=some v/\NumH H v (tv T k)/\k∈T.map (·.1))∨(qK ag (.inl k:Key)=none/\tv T k=0/\k∉T.map (·.1))
 | _,_,.nil=>.inr ⟨rfl,rfl,by simp⟩
 | kv::ag,e::T,.cons h t=>by
  rw[kP];by_cases q:e.1=k
  ·rw[nH q,yB (by rw[h.1,q])];exact .inl ⟨_,rfl,h.2,by simp [q]⟩
  ·have n:kv.1≠(.inl k:Key):=λz=>q (by rw[h.1]at z;exact Sum.inl.inj z);have e1:qK (kv::ag) (.inl k:Key)=qK ag (.inl k:Key):=by unfold qK;rw[List.find?_cons,hW n]
   rw[nG q,e1];rcases IC t with⟨v,h1,h2,h3⟩ | ⟨h1,h2,h3⟩
   ·exact .inl ⟨v,h1,h2,uX _ h3⟩
   ·exact .inr ⟨h1,h2,λz=>by rcases mI.mp z with z | z;exact q z.symm;exact h3 z⟩
structure TabQ(K:nI)(H:Hp)(d:Addr)(ag:List (Key×V))(T:Tb):Prop where
 rd:Rd H d (.dK ag)
 pr:Paired (EntQ K H) ag T
section
variable{X:Cx}
def rDictK:List V->Hp->VK->Prop:=λxs H Q=>∃(a:Addr) (ag:List (Key×V)),xs=[.ref a]/\Rd H a (.dK ag)/\New H (.dK ag) Q
theorem LZ:CallR X (.type "dict") rDictK:=by
 intro ac s σ H xs us Q I r h;obtain⟨a,ag,rfl,ha,q⟩:=h;obtain⟨u,rfl,ru⟩:=xG r;cases ru;exact WF I ha λp s' n I'=>⟨.ref p,_,I',rfl,q.at n⟩
end
def DW{α:Type}(xs:List α)(Pv:Nat->List (Key×V)->Hp->Prop)(i m:Nat)(ys:List (Key×V))(H:Hp):Prop:=m=xs.length-i/\i<=xs.length/\Pv i ys H
theorem zY{α:Type}{xs:List α}{Pv:Nat->List (Key×V)->Hp->Prop}{i m:Nat}{ys:List (Key×V)}{H:Hp}{x:α}(h:xs[i]? = some x)(hm:m=xs.length-i)(q:Pv (i+1) ys H):∃m',m'<m/\DW xs Pv (i+1) m' ys H:=by
 have:=(uQ.mp h).1;exact⟨_,by omega,rfl,this,q⟩
theorem EW{K:nI}{a:Addr}{xs:List V}{σ0:L2.St}{g:TG}{tk tx:TE}{Q:VK}{p:Addr}{H':Hp}(Pv:Nat->List (Key×V)->Hp->Prop)(hz:xs.length<sizeLine)(h0:Pv 0 [] H')(hl:∀i ys H2,Pv i ys H2->SqT K H2 a xs/\H2 p=some (.dK ys)/\ys.length<=i)
  (hs:∀i m ys x H2,xs[i]? = some x->m=xs.length-i->Pv i ys H2->g x σ0 H2 fun σ4 H4=>Keep σ0 σ4/\tk σ4 H4 λy H5=>tx σ4 H5 λv H6=>∃k,y=kV k/\H6 p=some (.dK ys)/\∃m',m'<m/\DW xs Pv (i+1) m' (vI ys k v) (upd H6 p (.dK (vI ys k v))))
  (hd:∀ys H2,Pv xs.length ys H2->Q (.ref p) H2):DCompGoK σ0 (Itt K a) g tk tx Q p H':=by
 refine⟨DW xs Pv,⟨_,rfl,mX _,h0⟩, ?_⟩;rintro i m ys H2 ⟨hm,hi,hp⟩;obtain⟨q,e,ly⟩:=hl i ys H2 hp;refine⟨e,by omega, ?_⟩;by_cases hlt:i<xs.length
 ·refine .inr ⟨⟨xs,xs[i],q,by simp [hlt]⟩, ?_⟩;rintro x H3 ⟨rfl,y⟩;exact hs i m ys x _ (y xs q) hm hp
 ·obtain rfl:i=xs.length:=by omega
  exact .inl ⟨⟨xs,q,mW _⟩,hd ys H2 hp⟩
theorem xM{d:Addr}{o:Obj}{ag:List (Key×V)}{σ0:L2.St}{g:TG}{tk tx:TE}{Q:VK}{p:Addr}{H':Hp}(Pv:Nat->List (Key×V)->Hp->Prop)(hz:ag.length<sizeLine)(h0:Pv 0 [] H')(hl:∀i ys H2,Pv i ys H2->H2 d=some (.frz o (.dK ag))/\H2 p=some (.dK ys)/\ys.length<=i)
  (hs:∀i m ys k x c H2,ag[i]? = some (k,x)->m=ag.length-i->Pv i ys H2->H2 c=none->g (.ref c) σ0 (upd H2 c (.tup [kV k,x])) fun σ4 H4=>Keep σ0 σ4/\tk σ4 H4 λy H5=>tx σ4 H5 λv H6=>∃k,y=kV k/\H6 p=some (.dK ys)/\∃m',m'<m/\DW ag Pv (i+1) m' (vI ys k v) (upd H6 p (.dK (vI ys k v))))
  (hd:∀ys H2,Pv ag.length ys H2->Q (.ref p) H2):DCompGoK σ0 (Iti d o ag) g tk tx Q p H':=by
 refine⟨DW ag Pv,⟨_,rfl,mX _,h0⟩, ?_⟩;rintro i m ys H2 ⟨hm,hi,hp⟩;obtain⟨q,e,ly⟩:=hl i ys H2 hp;refine⟨e,by omega, ?_⟩;by_cases hlt:i<ag.length
 ·refine .inr ⟨⟨q,hlt⟩, ?_⟩;rintro v H3 ⟨c,k,x,hc,rfl,hx,rfl⟩;exact hs i m ys k x c _ hx hm hp hc
 ·obtain rfl:i=ag.length:=by omega
  exact .inl ⟨⟨q,rfl⟩,hd ys H2 hp⟩
def TmQ(K:nI)(H:Hp)(v:V)(x:List Int×Rat):Prop:=∃r b c:Addr,v=.ref r/\H r=some (.tup [.ref b,.ref c])/\H b=some (.tup (x.1.map V.int))/\NumH H (.ref c) x.2
theorem TmQ.same{K:nI}{H H':Hp}{v:V}{x:List Int×Rat}(h:TmQ K H v x)(s:Same H H'):TmQ K H' v x:=let ⟨r,b,c,e1,e2,e3,e4⟩:=h;⟨r,b,c,e1,s _ _ e2,s _ _ e3,e4.same s⟩
structure SumQ(K:nI)(H:Hp)(p:Addr)(aa:Nat)(P:Pl):Prop where
 ex:∃(q:Addr) (xs:List V),H p=some (.tup [.int aa,.ref q])/\H q=some (.tup xs)/\Paired (TmQ K H) xs P
theorem SumQ.same{K:nI}{H H':Hp}{p:Addr}{aa:Nat}{P:Pl}(h:SumQ K H p aa P)(s:Same H H'):SumQ K H' p aa P:=by
 obtain⟨q,xs,e1,e2,e3⟩:=h.ex;exact⟨q,xs,s _ _ e1,s _ _ e2,Paired.to (λ_ _ h=>h.same s) e3⟩
structure PlOk(aa:Nat)(P:Pl):Prop where
 len:∀x∈P,x.1.length=aa
 nn:∀x∈P,∀n∈x.1,0<=n
 deg:∀x∈P,x.1.sum<=16
 ord:(P.map λx=>pk x.1).Pairwise (· < ·)
 nz:∀x∈P,x.2≠0
 few:P.length<=60
 m1:1<=aa
 m4:aa<=4
theorem yO:∀{ns:List Int} {n:Int},(∀x∈ns,0<=x)->n∈ns->n<=ns.sum/\0<=ns.sum
 | [],_,_,h=>nomatch h
 | a::l,n,h,hn=>by
  rw[List.sum_cons];have ha:=h a (gJ ..);have hl:0<=l.sum:=by
   match l with
   | []=>exact mZ _
   | b::l'=>exact(yO (ns:=b::l') (n:=b) (λx hx=>h x (uX _ hx)) (gJ ..)).2
  rcases mI.mp hn with rfl | hn
  ·omega
  ·have:=(yO (λx hx=>h x (uX _ hx)) hn).1;omega
theorem PlOk.byt{aa:Nat}{P:Pl}(h:PlOk aa P){x:List Int×Rat}(hx:x∈P):Byt x.1:=λn hn=>by
 have h1:=h.nn x hx;have h2:=(yO h1 hn).1;have h3:=h.deg x hx;have h4:=h1 n hn;omega
def jP(P:Pl):Tb:=P.map λx=>(pk x.1,x.2)
theorem vW(P:Pl):(jP P).map (·.1)=P.map λx=>pk x.1:=by unfold jP;rw[List.map_map];rfl
theorem PlOk.nd{aa:Nat}{P:Pl}(h:PlOk aa P):((jP P).map (·.1)).Nodup:=by
 rw[vW];exact h.ord.imp λh=>Int.ne_of_lt h
theorem zA{T:Tb}{k:Int}{x:Rat}(h:k∉T.map (·.1)):xN T k x=T++[(k,x)]:=by
 unfold xN;rw[nG (λz=>h (any_key.mp z))]
theorem RR{P:Pl}{i:Nat}{x:List Int×Rat}(h:P[i]? = some x)(nd:((jP P).map (·.1)).Nodup):xN (jP (P.take i)) (pk x.1) x.2=jP (P.take (i+1)):=by
 rw[zA,gO,h]
 ·unfold jP;rw[hV]
  rfl
 ·intro z;rw[vW]at z nd;rw[List.map_take]at z;obtain⟨j,hj⟩:=uV.mp z;have hj':j<i:=by
   have:=(uQ.mp hj).1;rw[gT]at this;omega
  rw[List.getElem?_take_of_lt hj']at hj;have hi:(P.map λx=>pk x.1)[i]? = some (pk x.1):=by rw[gM,h];rfl
  have:=(List.getElem?_inj (uQ.mp hj).1 nd).mp (hj.trans hi.symm);omega
theorem RH{aa:Nat} :∀{P:Pl},(∀x∈P,x.1.length=aa/\Byt x.1)->(P.map (·.1)).Nodup->∀{ns:List Int},ns.length=aa->Byt ns->tv (jP P) (pk ns)=cf P ns
 | [],_,_,_,_,_=>rfl
 | x::P,h,nd,ns,hl,hb=>by
  have hx:=h x (gJ ..);rw[mH,List.nodup_cons]at nd;have ih:=RH (P:=P) (λy hy=>h y (uX _ hy)) nd.2 hl hb;show tv ((pk x.1,x.2)::jP P) (pk ns)=_;rw[kP,CG];by_cases e:x.1=ns
  ·rw[nH (by rw[e]),nH e,wQ (λy hy z=>nd.1 (by rw[e,<-z];exact List.mem_map_of_mem hy)),mR]
  ·rw[nG (λz=>e (LJ _ hx.1 hl hx.2 hb z)),nG e,mQ,ih]
theorem PlOk.ndn{aa:Nat}{P:Pl}(h:PlOk aa P):(P.map (·.1)).Nodup:=by
 have:=h.ord;rw[List.pairwise_map]at this;rw[List.Nodup,List.pairwise_map];exact this.imp λz e=>by rw[e]at z;exact Int.lt_irrefl _ z
theorem PlOk.tv{aa:Nat}{P:Pl}(h:PlOk aa P){ns:List Int}(hl:ns.length=aa)(hb:Byt ns):Lw.tv (jP P) (pk ns)=cf P ns:=RH (λx hx=>⟨h.len x hx,h.byt hx⟩) h.ndn hl hb
def BP(K:nI):Sp:=λvs H Q _=>∃(p:Addr) (aa:Nat) (P:Pl),vs=[.ref p]/\SumQ K H p aa P/\PlOk aa P/\∀(d:Addr) (ag:List (Key×V)) (H':Hp),H d=none->Same H H'->H' d=some (.dK ag)->Paired (EntQ K H') ag (jP P)->Q (.ref d) H'
theorem EntQ.upd{K:nI}{H:Hp}{p:Addr}{ag:List (Key×V)}{o:HO}(e:H p=some (.dK ag)){kv:Key×V}{x:Int×Rat}(h:EntQ K H kv x):EntQ K (upd H p o) kv x:=let ⟨z1,pz,z2,z3⟩:=h;⟨z1,pz,z2,ZX e z3⟩
structure TbI(K:nI)(H1:Hp)(d:Addr)(P:Pl)(i:Nat)(ys:List (Key×V))(H2:Hp):Prop where
 s:Same H1 H2
 e:H2 d=some (.dK ys)
 pr:Paired (EntQ K H2) ys (jP (P.take i))
theorem scTab:FnScope ["one"] ["one"] (jJ yY):=⟨rfl,rfl,rfl,by decide +kernel,rfl,by decide +kernel,by decide +kernel⟩
theorem UE{fP:Addr}{fdP:FuncData}(F:Fun K "table_of" "table_of" yY f fd)(DP:Df K mg "packed" wX ["powers"] fP fdP)(GP:FnOk P w K mg base CX0 1 fP fdP ["powers"] (CP K)):FnOk P w K mg base CX0 2 f fd ["one"] (BP K):=by
 refine F.ok scTab (λvs H Q E h=>?_) (λcdv A outer s H vs Q E hr h=>?_)
 ·obtain⟨p,aa,PP,rfl,_⟩:=h
  rfl
 ·obtain⟨p,aa,PP,rfl,hS,ok,go⟩:=h;refine⟨_,jE (jM (zR (own:=2) (idx:=[]) (N:=["powers","fraction"]) rfl rfl rfl (by decide +kernel) (by decide +kernel) (λ_ _ h=>nomatch h) (qN rfl) rfl (λ_ _ _ h=>nomatch h) (zC (kG kJ (pv 0) jF (λ_ _=>rfl))) (λC fp s2 H2=>show PG (jN _ ["powers","fraction"] _ _ C fp s2 H2) _ (zK K 2 (kR (jS 0) (kR (jS 1) gNil)))from jY (X:=jN _ ["powers","fraction"] _ _ C fp s2 H2) rfl (jG (jH (i:=0) (show List.Nodup (["powers","fraction"]:List Str) by decide +kernel) rfl (Or.inl rfl) (Or.inr rfl)) (jG (jH (i:=1) (show List.Nodup (["powers","fraction"]:List Str) by decide +kernel) rfl (Or.inl rfl) (Or.inr rfl)) jV))) (λC fp s2 H2=>jD GP hr rfl DP.m DP.F.kp DP.b .nil jK (jA (pv 0) jB)) (λC fp s2 H2=>pv 1))), ?_⟩;try dsimp only[cxK]
  obtain⟨q,xs,e1,e2,pr⟩:=hS.ex;have lx:xs.length=PP.length:=Paired.length pr;refine⟨_,rfl,p,_,_,_,rfl,rfl,SqT.of e1,rfl,q,rfl,⟨_,SqT.of e2⟩,λd H1 n1 s1 e3=>?_⟩;refine EW (K:=K) (a:=q) (xs:=xs) (TbI K H d PP) (by rw[lx];exact gD ok.few (by decide)) ⟨s1,e3,.nil⟩ (λi ys H2 h=>⟨SqT.of (h.s _ _ e2),h.e, ?_⟩) ?_ ?_
  ·have:=Paired.length h.pr;unfold jP at this;rw[this,hU,gT];omega
  ·intro i m ys x H2 hx hm h;obtain⟨y,hy,r,b,c,rfl,r1,r2,r3⟩:=Paired.at pr hx;have hm':=uW hy;refine⟨r,_,rfl,SqT.of (h.s _ _ r1),rfl,_,_,rfl,_,_,rfl,rfl,BH,_,rfl,b,y.1,rfl,SqT.of (h.s _ _ r2),ok.byt hm',by rw[ok.len y hm'];exact ok.m4,_,rfl,.inl (pk y.1),rfl,h.e,zY hx hm ⟨kF h.s n1,jI, ?_⟩⟩;have k:=AB (k:=pk y.1) h.pr (r3.same h.s);rw[RR hy ok.nd]at k;exact Paired.to (λkv e z=>z.upd h.e) k
  ·intro ys H2 h;have pr2:=h.pr;rw[lx,gW]at pr2;exact go d ys H2 n1 h.s h.e pr2
theorem scTa:FnScope ["one","other","table","key","fraction"] ["one","other"] (jJ BR):=⟨rfl,rfl,rfl,by decide +kernel,rfl,by decide +kernel,by decide +kernel⟩
theorem II{K:nI}{H:Hp}{p:Addr}(h:SqT K H p (([0,1]:List Int).map V.int)):NumK K H (.ref p) 0:=⟨p,rfl,h⟩
structure AddT(T1 T2 T:Tb):Prop where
 nd:(T.map (·.1)).Nodup
 ks:∀k∈T.map (·.1),k∈T1.map (·.1)∨k∈T2.map (·.1)
 ln:T.length<=T1.length+T2.length
 vl:∀k,tv T k=tv T1 k+tv T2 k
theorem zH{T:Tb}{i:Nat}{e:Int×Rat}(h:T[i]? = some e)(nd:(T.map (·.1)).Nodup):e.1∉(T.take i).map (·.1):=λz=>by
 rw[List.map_take]at z;obtain⟨j,hj⟩:=uV.mp z;have hj':j<i:=by
  have:=(uQ.mp hj).1;rw[gT]at this;omega
 rw[List.getElem?_take_of_lt hj']at hj;have hi:(T.map (·.1))[i]? = some e.1:=by rw[gM,h];rfl
 have:=(List.getElem?_inj (uQ.mp hj).1 nd).mp (hj.trans hi.symm);omega
theorem AddT.step{T1 T2 T:Tb}{i:Nat}{e:Int×Rat}(A:AddT T1 (T2.take i) T)(h:T2[i]? = some e)(nd:(T2.map (·.1)).Nodup):AddT T1 (T2.take (i+1)) (xN T e.1 (tv T e.1+e.2)):=by
 have nt:=zH h nd;have tk:T2.take (i+1)=T2.take i++[(e.1,e.2)]:=by rw[gO,h];rfl
 refine⟨yE A.nd,λk hk=>?_, ?_,λk=>?_⟩
 ·rw[zJ]at hk;rw[tk,hV];split at hk
  ·rcases A.ks k hk with z | z
   ·exact .inl z
   ·exact .inr (List.mem_append_left _ z)
  ·rcases mB.mp hk with hk | hk
   ·rcases A.ks k hk with z | z
    ·exact .inl z
    ·exact .inr (List.mem_append_left _ z)
   ·exact .inr (uT _ hk)
 ·have l1:=congrArg List.length (zJ T e.1 (tv T e.1+e.2));rw[hU]at l1;have l2:=A.ln;rw[tk,gE,l1];split
  ·rw[hU];omega
  ·rw[gE,hU];show T.length+1<=T1.length+((T2.take i).length+1);omega
 ·rw[tv_put,tk,KM _ _ _ _ nt];by_cases q:k=e.1
  ·rw[nH q,nH q,q,A.vl,qL nt,mR]
  ·rw[nG q,nG q,A.vl]
def RE(A:Tb)(e:Int×Rat):Tb:=xN A e.1 (tv A e.1+e.2)
def addT(T1 T2:Tb):Tb:=T2.foldl RE T1
def IO(K:nI):Sp:=λvs H Q _=>∃(a b:Addr) (k1 k2:List (Key×V)) (T1 T2:Tb),vs=[.ref a,.ref b]/\Rd H a (.dK k1)/\H b=some (.dK k2)/\Paired (EntQ K H) k1 T1/\Paired (EntQ K H) k2 T2/\(T1.map (·.1)).Nodup/\(T2.map (·.1)).Nodup/\T1.length+T2.length<=1000/\(∀k,SzR 7900 (tv T1 k))/\(∀e∈T2,SzR 7900 e.2)/\
 ∀(d:Addr) (ag:List (Key×V)) (T:Tb) (H':Hp),H d=none->But b H H'->H' d=some (.dK ag)->Paired (EntQ K H') ag T->AddT T1 T2 T->T=addT T1 T2->Q (.ref d) H'
inductive TaI(K:nI)(H:Hp)(a b d:Addr)(o:Obj)(k2:List (Key×V))(T1 T2:Tb)(i:Nat):L2.St->Hp->Prop where
 | mk {u v:Option V} {H':Hp} {ag:List (Key×V)} {T:Tb} (s:But b H H') (eb:H' b=some (.frz o (.dK k2))) (ed:H' d=some (.dK ag)) (p1:Paired (EntQ K H') ag T) (p2:Paired (EntQ K H') k2 T2) (A:AddT T1 (T2.take i) T) (ft:T=(T2.take i).foldl RE T1):TaI K H a b d o k2 T1 T2 i [some (.ref a),some (.ref b),some (.ref d),u,v] H'
theorem PV{fA:Addr}{fdA:FuncData}(F:Fun K "tables_added" "tables_added" BR f fd)(T:Txt mg)(N:Ngt K mg)(DA:Df K mg "added" FL ["one","other"] fA fdA)(GA:FnOk P w K mg base CX0 2 fA fdA ["one","other"] (GK K)):FnOk P w K mg base CX0 3 f fd ["one","other"] (IO K):=by
 obtain⟨na,hN,hna⟩:=N;refine F.ok scTa (λvs H Q E h=>?_) (λcdv A outer s H vs Q E hr h=>?_)
 ·obtain⟨a,b,k1,k2,T1,T2,rfl,_⟩:=h
  rfl
 ·obtain⟨a,b,k1,k2,T1,T2,rfl,ra,rb,p1,p2,nd1,nd2,ln,s1,s2,go⟩:=h;have hu:_+1<cLine:=gD (Nat.add_le_add_left (by decide:1<=64) _) hr.units;refine⟨_,jC (jO (i:=2) scTa.nd rfl (Or.inl rfl) (qS LZ (by rfl) T.dct boot_dict (jA (pv 0) jB))) (jC (qA PassesOwn.never rfl (vY (BU (pv 1))) (jY rfl (jG (jH (i:=3) scTa.nd rfl (Or.inl rfl)) (jG (jH (i:=4) scTa.nd rfl (Or.inl rfl)) jV))) (jE (NE hu (pv 2) (pv 3) (jD GA hr rfl DA.m DA.F.kp DA.b .nil jK (jA (EA hu (pv 2) (pv 3) (kL (v:=.ref na) (by rfl) hN rfl) ⟨rfl,rfl,rfl,rfl⟩) (jA (pv 4) jB))) rfl))) (jE (jM (pv 2)))), ?_⟩;try dsimp only[cxK]
  refine⟨_,rfl,a,k1,rfl,ra,λd H1 n1 e1 ed=>?_⟩;have eb1:=e1 _ _ rb;have db:d≠b:=λz=>by rw[z,rb]at n1;cases n1
  refine⟨_,rfl,b,k2,rfl,eb1,λo=>⟨b,o,k2,rfl,jI, ?_⟩⟩;have up:∀{kv:Key×V} {x:Int×Rat},EntQ K H kv x->EntQ K (upd H1 b (.frz o (.dK k2))) kv x:=λh=>(h.same e1).upd eb1;have b0:But b H (upd H1 b (.frz o (.dK k2))):=λc u h n=>by rw[jL n];exact e1 _ _ h
  refine zV (TaI K H a b d o k2 T1 T2) (.mk (T:=T1) b0 jI (by rw[jL db];exact ed) (Paired.to (λ_ _ h=>up h) p1) (Paired.to (λ_ _ h=>up h) p2) ⟨nd1,λk hk=>.inl hk,Nat.le_add_right ..,λk=>(mR _).symm⟩ rfl) (λi σ H2 _ h=>?_) (λi k x p σ H2 hx hp h=>?_) (fun σ H2 h=>?_)
  ·obtain⟨_,eb,_⟩:=h;exact eb
  ·obtain⟨s2',eb,ed2,q1,q2,A,ft⟩:=h;rename_i ag TT;obtain⟨e,he,hk,hn⟩:=Paired.at q2 hx;have hk:k=.inl e.1:=hk;subst hk;have s3:Same H2 (upd H2 p (.tup [kV (.inl e.1),x])):=kB _ hp;have e3:(upd H2 p (.tup [kV (.inl e.1),x])) p=some (.tup [kV (.inl e.1),x]):=jI;generalize upd H2 p (.tup [kV (.inl e.1),x])=H3 at s3 e3;refine gT2 (SqT.of e3) rfl ?_;obtain⟨wv,ew,hw⟩:∃wv,(qK ag (.inl e.1:Key)).getD (.ref na)=wv/\NumK K H3 wv (tv TT e.1):=by
    rcases IC (k:=e.1) q1 with⟨v,h1,h2,_⟩ | ⟨h1,h2,_⟩
    ·exact⟨v,by rw[h1];rfl,(h2.same s3).k⟩
    ·exact⟨.ref na,by rw[h1];rfl,by rw[h2];exact II (hna H3)⟩
   refine⟨_,rfl,d,rfl,.inl ⟨_,.inl (s3 _ _ ed2)⟩,_,rfl,_,DGet.k (k:=.inl e.1) (s3 _ _ ed2),_,rfl, ?_⟩;rw[ew];obtain⟨pw,rfl,hw⟩:=hw;obtain⟨px,rfl,hx2⟩:=hn.same s3;have nt:=zH he nd2;have sz1:SzR 7900 (tv TT e.1):=by rw[A.vl,qL nt,mR];exact s1 _
   refine⟨pw,px,_,_,_,_,rfl,hw,SqT.of hx2,sz1.fr uJ,(s2 e (uW he)).fr uJ,λr H4 n4 s4 e4=>?_⟩;have e4:=WQ e4;have ed4:=(s3.trans s4) _ _ ed2;have lk:ag.length=TT.length:=Paired.length q1;have lA:=A.ln;rw[gT]at lA;refine⟨_,rfl,_,rfl,d,_,rfl,DPut.k (k:=.inl e.1) ed4 (by rw[lk,sizeLine_eq];omega), ?_⟩;have u4:∀{kv:Key×V} {x:Int×Rat},EntQ K H2 kv x->EntQ K (upd H4 d (.dK (vI ag (.inl e.1) (.ref r)))) kv x:=λh=>(h.same (s3.trans s4)).upd ed4;refine .mk (T:=xN TT e.1 (tv TT e.1+e.2)) (λc u h n=>?_) ?_ jI ?_ (Paired.to (λ_ _ h=>u4 h) q2) (A.step he nd2) (by rw[gO,he,List.foldl_append,<-ft];rfl)
   ·rw[jL (jU h n1)];exact(s3.trans s4) _ _ (s2' _ _ h n)
   ·rw[jL (Ne.symm db)];exact(s3.trans s4) _ _ eb
   ·exact Paired.to (λ_ _ h=>h.upd ed4) (AB (Paired.to (λ_ _ h=>h.same (s3.trans s4)) q1) (NumH.of e4))
  ·obtain⟨s2',eb,ed2,q1,q2,A,ft⟩:=h;rw[show k2.length=T2.length from Paired.length p2,gW]at A ft;exact⟨_,rfl,go d _ _ H2 n1 s2' ed2 q1 A ft⟩
theorem yV{cl cells:List (Str×Addr)}(h:∀y∈cl,cells.lookup y.1=some y.2):∀x c,cl.lookup x=some c->cells.lookup x=some c:=λx c e=>h (x,c) (PySem.mem_of_lookup e)
theorem FY{X:Cx}{scope:Scope}{own j0 j1:Nat}{N:List Str}{x0 x1:Str}(h0:N[own]? = some x0)(h1:N[own+1]? = some x1)(a:X.N[j0]? = some x0/\X.env.kindOf x0=some .cell/\(relabel scope X.env).names.lookup x0=some .cell/\X.env.scope.names.lookup x0=some .cell)
  (b:X.N[j1]? = some x1/\X.env.kindOf x1=some .cell/\(relabel scope X.env).names.lookup x1=some .cell/\X.env.scope.names.lookup x1=some .cell) :
  ∀(k j:Nat) (x:Str),[j0,j1][k]? = some j->N[own+k]? = some x->X.N[j]? = some x/\X.env.kindOf x=some .cell/\(relabel scope X.env).names.lookup x=some .cell/\X.env.scope.names.lookup x=some .cell:=by
 intro k j x e1 e2
 match k,e1,e2 with
 | 0,e1,e2=>
  cases e1;rw[Nat.add_zero,h0]at e2;cases e2;exact a
 | 1,e1,e2=>
  cases e1;rw[h1]at e2;cases e2;exact b
 | k+2,e1,_=>cases e1
def CW{α:Type}(xs:List α)(Pv:Nat->List V->Hp->Prop)(i m:Nat)(ys:List V)(H:Hp):Prop:=m=xs.length-i/\i<=xs.length/\Pv i ys H
theorem OO{α:Type}{xs:List α}{Pv:Nat->List V->Hp->Prop}{i m:Nat}{ys:List V}{H:Hp}{x:α}(h:xs[i]? = some x)(hm:m=xs.length-i)(q:Pv (i+1) ys H):∃m',m'<m/\CW xs Pv (i+1) m' ys H:=by
 have:=(uQ.mp h).1;exact⟨_,by omega,rfl,this,q⟩
theorem KF{K:nI}{a:Addr}{xs:List V}{σ0:L2.St}{g:TG}{tt:TT}{te:TE}{Q:VK}{p:Addr}{H':Hp}(Pv:Nat->List V->Hp->Prop)(hz:xs.length<sizeLine)(h0:Pv 0 [] H')
  (hl:∀i ys H2,Pv i ys H2->SqL K H2 a xs/\H2 p=some (.lst ys)/\ys.length<=i)
  (hs:∀i m ys x H2,xs[i]? = some x->m=xs.length-i->Pv i ys H2->g x σ0 H2 fun σ4 H4=>Keep σ0 σ4/\tt σ4 H4 λb H5=>if b=true then te σ4 H5 λy H6=>H6 p=some (.lst ys)/\∃m',m'<m/\CW xs Pv (i+1) m' (ys++[y]) (upd H6 p (.lst (ys++[y])))else ∃m',m'<m/\CW xs Pv (i+1) m' ys H5)
  (hd:∀ys H2,Pv xs.length ys H2->Q (.ref p) H2):CompGoFI σ0 (Itl K a) g tt te Q p H':=by
 refine⟨CW xs Pv,⟨_,rfl,mX _,h0⟩, ?_⟩;rintro i m ys H2 ⟨hm,hi,hp⟩;obtain⟨q,e,hy⟩:=hl i ys H2 hp;refine⟨e,by omega, ?_⟩;by_cases hlt:i<xs.length
 ·refine .inr ⟨⟨xs,xs[i],q,by simp [hlt]⟩, ?_⟩;rintro x H3 ⟨rfl,y⟩;exact hs i m ys x _ (y xs q) hm hp
 ·obtain rfl:i=xs.length:=by omega
  exact .inl ⟨⟨xs,q,mW _⟩,hd ys H2 hp⟩
def vL(P:Pl):Int:=(P.map λx=>x.1.sum).foldr max 0
theorem AV:∀{l:List Int} {m:Int},(∀x∈l,x<=m)->0<=m->l.foldr max 0<=m
 | [],_,_,h=>h
 | a::l,m,h,h0=>by
  show max a (l.foldr max 0)<=m;have:=AV (l:=l) (λx hx=>h x (uX _ hx)) h0;have:=h a (gJ ..);omega
theorem uH:∀{l:List Int} {x:Int},x∈l->x<=l.foldr max 0
 | a::l,x,h=>by
  show x<=max a (l.foldr max 0);rcases mI.mp h with rfl | h
  ·omega
  ·have:=uH h;omega
theorem deg_eq{P:Pl}{m:Int}(h1:m∈P.map λx=>x.1.sum)(h2:∀y∈P.map (λx=>x.1.sum),y<=m)(h0:0<=m):m=vL P:=Int.le_antisymm (uH h1) (AV h2 h0)
theorem vE{P:Pl}{D:Int}(h:∀x∈P,x.1.sum<=D)(h0:0<=D):vL P<=D:=AV (λy hy=>by obtain⟨x,hx,rfl⟩:=mP.mp hy;exact h x hx) h0
structure PlD(aa D:Nat)(P:Pl):Prop where
 len:∀x∈P,x.1.length=aa
 nn:∀x∈P,∀n∈x.1,0<=n
 deg:∀x∈P,x.1.sum<=D
theorem PlOk.pd{aa:Nat}{P:Pl}(h:PlOk aa P):PlD aa 16 P:=⟨h.len,h.nn,h.deg⟩
def CS(K:nI):Sp:=λvs H Q _=>∃(p:Addr) (aa D:Nat) (P:Pl),vs=[.ref p]/\SumQ K H p aa P/\PlD aa D P/\aa<=4/\D<=1000/\P.length<=1000/\∀H',Same H H'->Q (.int (vL P)) H'
theorem SO:FnScope ["one"] ["one"] (jJ yJ):=⟨rfl,rfl,rfl,by decide +kernel,rfl,by decide +kernel,by decide +kernel⟩
theorem QA(F:Fun K "degree" "degree" yJ f fd)(T:Txt mg):FnOk P w K mg base CX0 1 f fd ["one"] (CS K):=by
 refine F.ok SO (λvs H Q E h=>?_) (λcdv A outer s H vs Q E hr h=>?_)
 ·obtain⟨p,aa,D,PP,rfl,_⟩:=h
  rfl
 ·obtain⟨p,aa,D,PP,rfl,hP,ok,m4,hD,lP,go⟩:=h;refine⟨_,jE (jM (LwMx.pe_maxD rfl (by rfl) T.max (jA (EB (N:=["powers","fraction"]) rfl rfl (by decide +kernel) (by decide +kernel) (by decide +kernel) (zC (kG kJ (pv 0) jF (λ_ _=>rfl))) (λC fp s2 H2=>show PG (qI _ ["powers","fraction"] _ C fp s2 H2) _ (zK K 2 (kR (jS 0) (kR (jS 1) gNil)))from jY (X:=qI _ ["powers","fraction"] _ C fp s2 H2) rfl (jG (jH (i:=0) (show List.Nodup (["powers","fraction"]:List Str) by decide +kernel) rfl (Or.inl rfl) (Or.inl rfl)) (jG (jH (i:=1) (show List.Nodup (["powers","fraction"]:List Str) by decide +kernel) rfl (Or.inl rfl) (Or.inl rfl)) jV))) (λC fp s2 H2=>jX (show CallR (qI _ ["powers","fraction"] _ C fp s2 H2) (.builtin "sum") (rSumT K)from FT rfl) (by rfl) T.sum boot_sum (jA (pv 0) jB))) jB) (qY jF DX))), ?_⟩;obtain⟨q,xs,e1,e2,pr⟩:=hP.ex;have lx:xs.length=PP.length:=Paired.length pr;refine⟨_,rfl,p,_,_,_,rfl,rfl,SqT.of e1,rfl,q,rfl,⟨xs,SqT.of e2⟩,λl H1 n1 s1 e3=>?_⟩;refine KC (K:=K) (a:=q) (xs:=xs) (CmI (λk=>(PP.take k).map λx=>V.int x.1.sum) l H) (by rw[lx];exact gD lP (by decide)) ⟨s1,e3,rfl⟩ (λi ys H2 h=>⟨SqT.of (h.s _ _ e2),h.e⟩) ?_ ?_
  ·rintro i m ys x H2 hx hm hy ⟨s2,e4,ey⟩;obtain⟨x',hx',r,b,c,rfl,r1,r2,r3⟩:=Paired.at pr hx;have xm:=uW hx';refine⟨r,_,rfl,SqT.of (s2 _ _ r1),rfl,_,_,rfl,_,_,rfl,rfl, ?_⟩;refine⟨_,rfl,b,x'.1,rfl,SqT.of (s2 _ _ r2),λn hn=>⟨ok.nn x' xm n hn, ?_⟩,by rw[ok.len x' xm];omega, ?_⟩
   ·have:=(yO (ok.nn x' xm) hn).1;have:=ok.deg x' xm;omega
   ·refine kY hx hm hy e4 ⟨kF s2 n1,jI, ?_⟩;rw[ey,gO,hx',hV]
    rfl
  ·rintro ys H2 hl ⟨s2,e4,ey⟩;rw[lx,gW]at ey;have hm:ys=(PP.map λx=>x.1.sum).map V.int:=by rw[ey,List.map_map];rfl
   refine⟨0,rfl,l,PP.map (λx=>x.1.sum),rfl,by rw[<-hm];exact e4,λz=>?_,λm h1 h2=>?_⟩
   ·have:PP=[]:=List.map_eq_nil_iff.mp z;have:=go H2 s2;rw[‹PP=[]›]at this;exact this
   ·have h0:0<=m:=by
     obtain⟨x,hx,rfl⟩:=mP.mp h1
     match hh:x.1 with
     | []=>exact mZ _
     | n::r=>rw[<-hh];exact(yO (n:=n) (ok.nn x hx) (by rw[hh];exact gJ ..)).2
    rw[deg_eq h1 h2 h0];exact go H2 s2
def unp:Nat->Int->List Int
 | 0,_=>[]
 | n+1,k=>unp n (k/256)++[k%256]
theorem wG:∀(n:Nat) {ns:List Int},ns.length=n->Byt ns->unp n (pk ns)=ns
 | 0,ns,hl,_=>(List.length_eq_zero_iff.mp hl).symm
 | n+1,ns,hl,h=>by
  obtain⟨m,y,rfl,hm⟩:=yI hl;obtain⟨h1,h2⟩:=AF h;have p:=BT (ns:=m) h2;show unp n (pk (m++[y])/256)++[pk (m++[y])%256]=_;rw[p.1,p.2,wG n hm h1]
def KyP(aa:Nat)(k:Int):Prop:=∃ns:List Int,ns.length=aa/\(∀n∈ns,0<=n)/\ns.sum<=16/\k=pk ns
theorem wS{ns:List Int}(h:∀n∈ns,0<=n)(h2:ns.sum<=16):Byt ns:=λn hn=>by
 have h3:=(yO h hn).1;have h4:=h n hn;omega
structure SumT(aa:Nat)(T:Tb)(P:Pl):Prop where
 ok:PlOk aa P
 vl:∀ns:List Int,ns.length=aa->Byt ns->cf P ns=tv T (pk ns)
 at':∀x∈P,x.2=tv T (pk x.1)
def nzb(T:Tb)(k:Int):Bool:=decide (tv T k≠0)
theorem RI(f:Int->Rat):∀(ks:List Int) (j:Int),tv (ks.map λk=>(k,f k)) j=if j∈ks then f j else 0
 | [],j=>by rw[nG (by simp)];rfl
 | k::ks,j=>by
  rw[mH,kP,RI f ks j];by_cases h:k=j
  ·rw[nH h,nH (by simp [h]),h]
  ·rw[nG h];by_cases q:j∈ks
   ·rw[nH q,nH (uX _ q)]
   ·rw[nG q,nG (λz=>by rcases mI.mp z with z | z;exact h z.symm;exact q z)]
def wT(aa:Nat)(T:Tb)(ns:List Int):Pl:=(ns.filter (nzb T)).map λk=>(unp aa k,tv T k)
theorem KyP.unp{aa:Nat}{k:Int}(h:KyP aa k):(Lw.unp aa k).length=aa/\(∀n∈Lw.unp aa k,0<=n)/\(Lw.unp aa k).sum<=16/\pk (Lw.unp aa k)=k:=by
 obtain⟨ns,h1,h2,h3,rfl⟩:=h;rw[wG aa h1 (wS h2 h3)];exact⟨h1,h2,h3,rfl⟩
theorem WX{aa:Nat}{T:Tb}{ns:List Int}(lT:T.length<=60)(ky:∀k∈T.map (·.1),KyP aa k)(m1:1<=aa)(m4:aa<=4)(pm:ns.Perm (T.map (·.1)))(lt:ns.Pairwise (· < ·)):SumT aa T (wT aa T ns):=by
 have kk:∀k∈ns.filter (nzb T),KyP aa k/\tv T k≠0:=λk hk=>by
  rw[List.mem_filter]at hk;exact⟨ky k (pm.mem_iff.mp hk.1),gP hk.2⟩
 have mm:∀x∈wT aa T ns,∃k∈ns.filter (nzb T),x=(Lw.unp aa k,tv T k):=λx hx=>by
  obtain⟨k,hk,e⟩:=mP.mp hx;exact⟨k,hk,e.symm⟩
 have pks:((wT aa T ns).map λx=>pk x.1)=ns.filter (nzb T):=by
  unfold wT;rw[List.map_map]
  conv=>rhs;rw[<-List.map_id (ns.filter (nzb T))]
  exact List.map_congr_left λk hk=>(kk k hk).1.unp.2.2.2
 have ok:PlOk aa (wT aa T ns):=by
  refine⟨λx hx=>?_,λx hx=>?_,λx hx=>?_, ?_,λx hx=>?_, ?_,m1,m4⟩
  ·obtain⟨k,hk,rfl⟩:=mm x hx;exact(kk k hk).1.unp.1
  ·obtain⟨k,hk,rfl⟩:=mm x hx;exact(kk k hk).1.unp.2.1
  ·obtain⟨k,hk,rfl⟩:=mm x hx;exact(kk k hk).1.unp.2.2.1
  ·rw[pks];exact lt.filter _
  ·obtain⟨k,hk,rfl⟩:=mm x hx;exact(kk k hk).2
  ·unfold wT;rw[hU];have h1:=List.length_filter_le (nzb T) ns;have h2:=pm.length_eq;rw[hU]at h2;omega
 refine⟨ok,λms hl hb=>?_,λx hx=>?_⟩
 ·rw[<-ok.tv hl hb];have e:jP (wT aa T ns)=(ns.filter (nzb T)).map λk=>(k,tv T k):=by
   unfold jP wT;rw[List.map_map];refine List.map_congr_left λk hk=>?_;show(pk (Lw.unp aa k),tv T k)=(k,tv T k);rw[(kk k hk).1.unp.2.2.2]
  rw[e,RI];by_cases q:pk ms∈ns.filter (nzb T)
  ·rw[nH q]
  ·rw[nG q];by_cases r:pk ms∈T.map (·.1)
   ·refine uP λz=>q (List.mem_filter.mpr ⟨pm.mem_iff.mpr r,mC λy=>z y.symm⟩)
   ·exact(qL r).symm
 ·obtain⟨k,hk,rfl⟩:=mm x hx;show tv T k=tv T (pk (Lw.unp aa k));rw[(kk k hk).1.unp.2.2.2]
theorem JW{K:nI}{H:Hp} :∀{ag:List (Key×V)} {T:Tb},Paired (EntQ K H) ag T->xK ag=T.map (·.1)/\∀p∈ag,∃i:Int,p.1=.inl i
 | _,_,.nil=>⟨rfl,λ_ h=>nomatch h⟩
 | kv::ag,e::T,.cons h t=>by
  obtain⟨h1,h2⟩:=JW t;refine⟨?_,λp hp=>?_⟩
  ·show(match kv.1 with | .inl i=>i | .inr _=>0)::xK ag=e.1::T.map (·.1);rw[h1,h.1]
  ·rcases mI.mp hp with rfl | hp
   ·exact⟨_,h.1⟩
   ·exact h2 p hp
theorem ND{H H':Hp}{d:Addr}{o:HO}(h:Rd H d o)(s:Same H H'):Rd H' d o:=by
 rcases h with h | ⟨u,h⟩
 ·exact .inl (s _ _ h)
 ·exact .inr ⟨u,s _ _ h⟩
theorem QD(x:Rat):LwT.lexNe [x.num,(x.den:Int)] [0,1]=decide (x≠0):=by
 rw[show LwT.lexNe [x.num,(x.den:Int)] [0,1] = !decide ([x.num,(x.den:Int)]=[0,1])from LwT.lexNe_eq _ _];by_cases h:x=0
 ·subst h
  decide
 ·rw[mC h,hW (λz=>h ?_)]
  ·rfl
  ·have z1:x.num=0:=by injection z
   exact Rat.num_eq_zero.mp z1
structure KyI(H1:Hp)(q:Addr)(T:Tb)(ns:List Int)(i:Nat)(ys:List V)(H2:Hp):Prop where
 s:Same H1 H2
 e:H2 q=some (.lst ys)
 y:ys=((ns.take i).filter (nzb T)).map V.int
structure TuI(K:nI)(H1:Hp)(q:Addr)(P:Pl)(i:Nat)(ys:List V)(H2:Hp):Prop where
 s:Same H1 H2
 e:H2 q=some (.lst ys)
 pr:Paired (TmQ K H2) ys (P.take i)
theorem TmQ.updL{K:nI}{H:Hp}{p:Addr}{xs ys:List V}(e:H p=some (.lst xs)){v:V}{x:List Int×Rat}(h:TmQ K H v x):TmQ K (upd H p (.lst ys)) v x:=by
 obtain⟨r,b,c,e1,e2,e3,pc,e4,e5⟩:=h;have nu:∀{a:Addr} {zs:List V},H a=some (.tup zs)->(upd H p (.lst ys)) a=some (.tup zs):=fun {a zs} h=>by
  rw[jL λz=>by rw[z,e]at h;cases h];exact h
 exact⟨r,b,c,e1,nu e2,nu e3,pc,e4,nu e5⟩
def wV(K:nI):Sp:=λvs H Q _=>∃(d:Addr) (aa:Nat) (ag:List (Key×V)) (T:Tb),vs=[.int aa,.ref d]/\Rd H d (.dK ag)/\Paired (EntQ K H) ag T/\(T.map (·.1)).Nodup/\T.length<=60/\(∀k∈T.map (·.1),KyP aa k)/\1<=aa/\aa<=4/\
 ∀(p:Addr) (P:Pl) (H':Hp),H p=none->Same H H'->SumQ K H' p aa P->SumT aa T P->Q (.ref p) H'
theorem scSo:FnScope ["many","table","keys","one"] ["many","table"] (jJ wJ):=⟨rfl,rfl,rfl,by decide +kernel,rfl,by decide +kernel,by decide +kernel⟩
theorem UF{fU fD:Addr}{fdU fdD:FuncData}(F:Fun K "sum_of" "sum_of" wJ f fd)(T:Txt mg)(N:Ngt K mg)(DU:Df K mg "unpacked" MR ["key","many"] fU fdU)(GU:FnOk P w K mg base CX0 1 fU fdU ["key","many"] spUnpk)(DD:Df K mg "degree" yJ ["one"] fD fdD)(GD:FnOk P w K mg base CX0 1 fD fdD ["one"] (CS K)):FnOk P w K mg base CX0 2 f fd ["many","table"] (wV K):=by
 obtain⟨na,hN,hna⟩:=N;obtain⟨tt,ht⟩:=T.terms;obtain⟨td,hd⟩:=T.degree;refine F.ok scSo (λvs H Q E h=>?_) (λcdv A outer s H vs Q E hr h=>?_)
 ·obtain⟨d,aa,ag,TT,rfl,_⟩:=h
  rfl
 ·obtain⟨d,aa,ag,TT,rfl,rd,pr,nd,lT,ky,m1,m4,go⟩:=h;have hr1:Room 1 _:=hr.mono (by decide);have hu0:=hr.units0;have hu1:_+1<cLine:=gD (Nat.add_le_add_left (by decide:1<=64) _) hr.units;refine⟨_,jC (IZ (i:=2) scSo.nd rfl (Or.inl rfl) (own:=1) (idx:=[1]) (N:=["key","table"]) rfl rfl rfl (by decide +kernel) (by decide +kernel) (yV (by intro y hy;simp only[mI,gU,or_false]at hy;rcases hy with rfl;rfl)) (qN rfl) rfl (vS rfl ⟨rfl,rfl,rfl,rfl⟩) (xI (jX (LX rfl) (by rfl) T.sorted boot_sorted (jA (pv 1) jB))) (λC fp s2 H2=>(jH (i:=0) (show List.Nodup (["key","table"]:List Str) by decide +kernel) rfl (Or.inl rfl) (Or.inr rfl))) (λC fp s2 H2=>kI (show OpR (jN _ ["key","table"] _ _ C fp s2 H2) _ (LwT.rOrdT K LwT.lexNe)from LwT.op_neT hu0) (NJ hu1 (pv 1) (pv 0) (λ_ _=>rfl)) (kL (v:=.ref na) (by rfl) hN rfl) (kD _)) (λC fp s2 H2=>pv 0)) (jC (kT (kI uE (jX jW (by rfl) T.len PySem.boot_len (jA (pv 2) jB)) (kL (v:=.int 500) (by rfl) ht ⟨_,rfl⟩) (kD _)) (jE (yD)) kC) (jC (jO (i:=3) scSo.nd rfl (Or.inl rfl) (jQ (jA (pv 0) (jA (qS vV (by rfl) T.tup boot_tuple (jA (vZ (own:=1) (idx:=[0,1]) (N:=["key","many","table"]) rfl rfl rfl (by decide +kernel) (by decide +kernel) (yV (by intro y hy;simp only[mI,gU,or_false]at hy;rcases hy with rfl | rfl<;>rfl)) (qN rfl) rfl (FY rfl rfl ⟨rfl,rfl,rfl,rfl⟩ ⟨rfl,rfl,rfl,rfl⟩) (xI (pv 2)) (λC fp s2 H2=>(jH (i:=0) (show List.Nodup (["key","many","table"]:List Str) by decide +kernel) rfl (Or.inl rfl) (Or.inr rfl))) (λC fp s2 H2=>jQ (jA (jD GU hr1 rfl DU.m DU.F.kp DU.b .nil jK (jA (pv 0) (jA (pv 1) jB))) (jA (NJ hu1 (pv 2) (pv 0) (λ_ _=>rfl)) jB)))) jB)) jB)))) (jC (kT (kI uE (jD GD hr1 rfl DD.m DD.F.kp DD.b .nil jK (jA (pv 3) jB)) (kL (v:=.int 16) (by rfl) hd ⟨_,rfl⟩) (kD _)) (jE (yD)) kC) (jE (jM (pv 3)))))), ?_⟩
  try dsimp only[cxK]
  obtain⟨ek,ei⟩:=JW pr;have lk:ag.length=TT.length:=Paired.length pr;refine⟨_,rfl,d,ag,rfl,rd,by omega,ei,λns pm srt sl H1 n1 s1 e1=>⟨sl,rfl,⟨_,SqL.of e1⟩,λq H2 n2 s2 e2=>?_⟩⟩;rw[ek]at pm;have ndn:ns.Nodup:=pm.nodup_iff.mpr nd;have lt:ns.Pairwise (· < ·):=(srt.and ndn).imp λ⟨h1,h2⟩=>by omega
  have ln:ns.length=TT.length:=by rw[pm.length_eq,hU]
  have get:∀{n:Int} {H':Hp},n∈ns->Same H H'->∃v,DGet H' d (.int n) (some v)/\NumH H' v (tv TT n):=fun {n H'} hn sm=>by
   rcases IC (k:=n) pr with⟨v,h1,h2,_⟩ | ⟨_,_,h3⟩
   ·exact⟨v,.inl ⟨ag,.inl n,ND rd sm,rfl,h1.symm⟩,h2.same sm⟩
   ·exact absurd (pm.mem_iff.mp hn) h3
  refine KF (K:=K) (a:=sl) (xs:=ns.map V.int) (KyI H1 q TT ns) (by rw[hU,ln,sizeLine_eq];omega) ⟨s2,e2,rfl⟩ (λi ys H3 h=>⟨SqL.of (h.s _ _ e1),h.e, ?_⟩) ?_ ?_
  ·rw[h.y,hU];have:=List.length_filter_le (nzb TT) (ns.take i);rw[gT]at this;omega
  ·intro i m ys x H3 hx hm h;have hx':=hx;rw[gM]at hx';obtain⟨n,hn,rfl⟩:=Option.map_eq_some_iff.mp hx';obtain⟨v,g1,pv',rfl,g2⟩:=get (uW hn) (s1.trans h.s);have tk:(ns.take (i+1)).filter (nzb TT)=(ns.take i).filter (nzb TT)++(if nzb TT n=true then [n]else []):=by
    rw[gO,hn,List.filter_append]
    congr 1
    show [n].filter _=_;rw[List.filter_cons]
    rfl
   refine⟨EQ,_,rfl,_,rfl,d,_,rfl,g1,pv',na,[(tv TT n).num,((tv TT n).den:Int)],[0,1],rfl,rfl,SqT.of g2,hna H3,_,rfl, ?_⟩;rw[QD];refine QL (λc=>⟨_,rfl,h.e,OO hx hm ⟨kF h.s n2,jI, ?_⟩⟩) (λc=>OO hx hm ⟨h.s,h.e, ?_⟩)
   ·rw[tk,nH (show nzb TT n=true from c),hV,h.y]
    rfl
   ·rw[tk,nG (show ¬nzb TT n=true from c),List.append_nil,h.y]
  ·rintro ys H3 ⟨s3,e3,ey⟩;rw[hU,gW]at ey;subst ey;dsimp only[jS];have lf:=List.length_filter_le (nzb TT) ns;refine⟨_,rfl,q,_,rfl,.inl (SqL.of e3),_,_,rfl,rfl,_,rfl,xE (hW (by rw[hU];omega)) ?_⟩;refine⟨_,rfl,_,rfl,q,rfl,⟨_,SqL.of e3⟩,λl2 H4 n4 s4 e4=>?_⟩;have ST:=WX lT ky m1 m4 pm lt;have s03:=s1.trans s3;refine wP (K:=K) (a:=q) (xs:=(ns.filter (nzb TT)).map V.int) (TuI K H3 l2 (wT aa TT ns)) (by rw[hU,sizeLine_eq];omega) ⟨s4,e4,.nil⟩ (λi ys H5 h=>⟨SqL.of (h.s _ _ e3),h.e⟩) ?_ ?_
   ·intro i m ys x H5 hx hm hy h;have hx':=hx;rw[gM]at hx';obtain⟨n,hn,rfl⟩:=Option.map_eq_some_iff.mp hx';have nm:=uW hn;have nn:=(List.mem_filter.mp nm).1;have ku:=(ky n (pm.mem_iff.mp nn)).unp;have hP:(wT aa TT ns)[i]? = some (unp aa n,tv TT n):=by unfold wT;rw[gM,hn];rfl
    refine⟨EQ,_,rfl,_,rfl,unp aa n,by rw[ku.1,ku.2.2.2];rfl,wS ku.2.1 ku.2.2.1,by rw[ku.1];exact m4,λr H6 n6 s6 e6=>?_⟩;obtain⟨v,g1,pv',rfl,g2⟩:=get nn (s03.trans (h.s.trans s6));refine⟨_,rfl,_,rfl,d,_,rfl,g1,uM,λtt H7 n7 s7 e7=>?_⟩;have eq7:=(s6.trans s7) _ _ h.e;refine kY hx hm hy eq7 ⟨kF (h.s.trans (s6.trans s7)) n4,jI, ?_⟩;rw[gO,hP];exact Paired.app (Paired.to (λ_ _ k=>(k.same (s6.trans s7)).updL eq7) h.pr) (.cons (TmQ.updL eq7 ⟨tt,r,pv',rfl,e7,s7 _ _ e6,pv',rfl,s7 _ _ g2⟩) .nil)
   ·rintro ys H5 hy ⟨s5,e5,pr5⟩;have lS:(wT aa TT ns).length=(ns.filter (nzb TT)).length:=by unfold wT;rw[hU]
    rw[hU,<-lS,gW]at pr5;refine⟨l2,_,rfl,.inl ⟨SqL.of e5,λr nr=>⟨uM,λp H7 n7 s7 e7=>?_⟩⟩⟩;have s6:Same H5 (upd H5 r (.tup ys)):=kB _ nr;have e6:(upd H5 r (.tup ys)) r=some (.tup ys):=jI;generalize upd H5 r (.tup ys)=H6 at s6 e6 n7 s7;have SQ:SumQ K H7 p aa (wT aa TT ns):=⟨r,ys,e7,s7 _ _ e6,Paired.to (λ_ _ k=>k.same (s6.trans s7)) pr5⟩;have s07:=s03.trans (s5.trans (s6.trans s7));have n7':H p=none:=(s03.trans (s5.trans s6)).free n7;dsimp only[jS];refine⟨_,rfl,p,aa,16,_,rfl,SQ,ST.ok.pd,m4,by decide,mN ST.ok.few (by decide),λH8 s8=>⟨_,_,rfl,rfl,_,rfl,xE (hW ?_) ⟨_,rfl,go p _ H8 n7' (s07.trans s8) (SQ.same s8) ST⟩⟩⟩;have:=vE ST.ok.deg (by decide);omega
theorem BO{e:Int×Rat}{T:Tb} :tv (e::T) e.1=e.2:=by rw[kP,nH rfl]
theorem RJ{T:Tb}{k:Int}(h:∀e∈T,k<e.1):tv T k=0:=qL λz=>by
 obtain⟨e,he,rfl⟩:=mP.mp z;exact Int.lt_irrefl _ (h e he)
theorem MD:∀{T S:Tb},(T.map (·.1)).Pairwise (· < ·)->(S.map (·.1)).Pairwise (· < ·)->(∀e∈T,e.2≠0)->(∀e∈S,e.2≠0)->(∀k,k∈T.map (·.1)∨k∈S.map (·.1)->tv T k=tv S k)->T=S
 | [],[],_,_,_,_,_=>rfl
 | [],e::S,_,_,_,hs,h=>by
  have:=h e.1 (.inr (by simp));rw[BO]at this;exact absurd this.symm (hs e (gJ ..))
 | e::T,[],_,_,ht,_,h=>by
  have:=h e.1 (.inl (by simp));rw[BO]at this;exact absurd this (ht e (gJ ..))
 | e::T,c::S,h1,h2,ht,hs,h=>by
  rw[mH,List.pairwise_cons]at h1 h2;have lt1:∀x∈T,e.1<x.1:=λx hx=>h1.1 _ (List.mem_map_of_mem hx);have lt2:∀x∈S,c.1<x.1:=λx hx=>h2.1 _ (List.mem_map_of_mem hx);have he:=h e.1 (.inl (by simp));have hc:=h c.1 (.inr (by simp));rw[BO]at he hc;have ec:e.1=c.1:=by
   refine uP λn=>?_;rcases Int.lt_or_lt_of_ne n with l | l
   ·rw[kP,nG (Ne.symm n),RJ (λx hx=>Int.lt_trans l (lt2 x hx))]at he;exact ht e (gJ ..) he
   ·rw[kP,nG n,RJ (λx hx=>Int.lt_trans l (lt1 x hx))]at hc;exact hs c (gJ ..) hc.symm
  have e2:e.2=c.2:=by rw[he,ec,BO]
  have tl:T=S:=by
   refine MD h1.2 h2.2 (λx hx=>ht x (uX _ hx)) (λx hx=>hs x (uX _ hx)) λk hk=>?_;have nk:e.1≠k:=λz=>by
    rcases hk with hk | hk
    ·obtain⟨x,hx,rfl⟩:=mP.mp hk;exact absurd (lt1 x hx) (by omega)
    ·obtain⟨x,hx,rfl⟩:=mP.mp hk;have:=lt2 x hx;omega
   have:=h k (hk.elim (λz=>.inl (uX _ z)) (λz=>.inr (uX _ z)));rw[kP,nG nk,kP,nG (by rw[<-ec];exact nk)]at this;exact this
  rw[tl,show e=c from Prod.ext ec e2]
theorem XQ{aa:Nat}{P S:Pl}(h1:PlOk aa P)(h2:PlOk aa S)(h:∀ns:List Int,ns.length=aa->Byt ns->cf P ns=cf S ns):P=S:=by
 have t:jP P=jP S:=by
  refine MD (by rw[vW];exact h1.ord) (by rw[vW];exact h2.ord) (λe he=>?_) (λe he=>?_) λk hk=>?_
  ·obtain⟨x,hx,rfl⟩:=mP.mp he;exact h1.nz x hx
  ·obtain⟨x,hx,rfl⟩:=mP.mp he;exact h2.nz x hx
  ·rw[vW,vW]at hk;rcases hk with hk | hk
   ·obtain⟨x,hx,rfl⟩:=mP.mp hk;rw[h1.tv (h1.len x hx) (h1.byt hx),h2.tv (h1.len x hx) (h1.byt hx),h _ (h1.len x hx) (h1.byt hx)]
   ·obtain⟨x,hx,rfl⟩:=mP.mp hk;rw[h1.tv (h2.len x hx) (h2.byt hx),h2.tv (h2.len x hx) (h2.byt hx),h _ (h2.len x hx) (h2.byt hx)]
 have l:P.length=S.length:=by have:=congrArg List.length t;unfold jP at this;rwa [hU,hU]at this
 refine List.ext_getElem? λi=>?_;have g:(jP P)[i]? = (jP S)[i]? :=by rw[t]
 unfold jP at g;rw[gM,gM]at g;cases a:P[i]? with
 | none=>rw[a]at g;cases b:S[i]? with | none=>rfl | some y=>rw[b]at g;cases g
 | some x=>
  rw[a]at g;cases b:S[i]? with
  | none=>rw[b]at g;cases g
  | some y=>
   rw[b]at g;have g:(pk x.1,x.2)=(pk y.1,y.2):=Option.some.inj g;have g1:pk x.1=pk y.1:=(Prod.mk.inj g).1;have g2:x.2=y.2:=(Prod.mk.inj g).2;have xm:=uW a;have ym:=uW b;rw[show x=y from Prod.ext (LJ aa (h1.len x xm) (h2.len y ym) (h1.byt xm) (h2.byt ym) g1) g2]
theorem PlOk.ky{aa:Nat}{P:Pl}(h:PlOk aa P):∀k∈(jP P).map (·.1),KyP aa k:=λk hk=>by
 rw[vW]at hk;obtain⟨x,hx,rfl⟩:=mP.mp hk;exact⟨x.1,h.len x hx,h.nn x hx,h.deg x hx,rfl⟩
theorem qF(P:Pl):(jP P).length=P.length:=by unfold jP;rw[hU]
theorem MF(n:Nat):SzR (n+1) 0:=⟨Nat.two_pow_pos _,by show 1<2^(n+1);exact Nat.one_lt_two_pow (by omega)⟩
theorem RK:∀{T:Tb} {k:Int},tv T k=0∨∃e∈T,e.2=tv T k
 | [],_=>.inl rfl
 | e::T,k=>by
  rw[kP];by_cases h:e.1=k
  ·rw[nH h];exact .inr ⟨e,gJ ..,rfl⟩
  ·rw[nG h];rcases RK (T:=T) (k:=k)with z | ⟨c,hc,z⟩
   ·exact .inl z
   ·exact .inr ⟨c,uX _ hc,z⟩
theorem sz_tab{P:Pl}(h:∀x∈P,SzR 7900 x.2)(k:Int):SzR 7900 (tv (jP P) k):=by
 rcases RK (T:=jP P) (k:=k)with z | ⟨e,he,z⟩
 ·rw[z];exact MF 7899
 ·rw[<-z];obtain⟨x,hx,rfl⟩:=mP.mp he;exact h x hx
theorem MG{P:Pl}(h:∀x∈P,SzR 7900 x.2):∀e∈jP P,SzR 7900 e.2:=λe he=>by
 obtain⟨x,hx,rfl⟩:=mP.mp he;exact h x hx
def zO(K:nI):Sp:=λvs H Q _=>∃(p1 p2:Addr) (aa:Nat) (P1 P2:Pl),vs=[.ref p1,.ref p2]/\SumQ K H p1 aa P1/\SumQ K H p2 aa P2/\PlOk aa P1/\PlOk aa P2/\P1.length+P2.length<=60/\(∀x∈P1,SzR 7900 x.2)/\(∀x∈P2,SzR 7900 x.2)/\
 ∀(p:Addr) (P:Pl) (H':Hp),H p=none->Same H H'->SumQ K H' p aa P->PlOk aa P->(∀ns:List Int,ns.length=aa->Byt ns->cf P ns=cf P1 ns+cf P2 ns)->Q (.ref p) H'
theorem scPl:FnScope ["one","other"] ["one","other"] (jJ wK):=⟨rfl,rfl,rfl,by decide +kernel,rfl,by decide +kernel,by decide +kernel⟩
theorem UG{fT fA fS:Addr}{fdT fdA fdS:FuncData}(F:Fun K "plus" "plus" wK f fd)(DT:Df K mg "table_of" yY ["one"] fT fdT)(GT:FnOk P w K mg base CX0 2 fT fdT ["one"] (BP K))(DA:Df K mg "tables_added" BR ["one","other"] fA fdA)(GA:FnOk P w K mg base CX0 3 fA fdA ["one","other"] (IO K))(DS:Df K mg "sum_of" wJ ["many","table"] fS fdS)(GS:FnOk P w K mg base CX0 2 fS fdS ["many","table"] (wV K)):FnOk P w K mg base CX0 4 f fd ["one","other"] (zO K):=by
 refine F.ok scPl (λvs H Q E h=>?_) (λcdv A outer s H vs Q E hr h=>?_)
 ·obtain⟨p1,p2,aa,P1,P2,rfl,_⟩:=h
  rfl
 ·obtain⟨p1,p2,aa,P1,P2,rfl,q1,q2,o1,o2,ln,z1,z2,go⟩:=h;have hr2:Room 2 _:=hr.mono (by decide);refine⟨_,jE (jM (jD GS hr2 rfl DS.m DS.F.kp DS.b .nil jK (jA (kG kJ (pv 0) jF (λ_ _=>rfl)) (jA (jD GA hr rfl DA.m DA.F.kp DA.b .nil jK (jA (jD GT hr2 rfl DT.m DT.F.kp DT.b .nil jK (jA (pv 0) jB)) (jA (jD GT hr2 rfl DT.m DT.F.kp DT.b .nil jK (jA (pv 1) jB)) jB))) jB)))), ?_⟩;try dsimp only[cxK]
  obtain⟨qq,xs,e1,_⟩:=q1.ex;refine⟨_,rfl,p1,_,_,_,rfl,rfl,SqT.of e1,rfl,_,rfl,p1,aa,P1,rfl,q1,o1,λda k1 H1 n1 s1 ea pa=>?_⟩;refine⟨_,rfl,p2,aa,P2,rfl,q2.same s1,o2,λdb k2 H2 n2 s2 eb pb=>?_⟩;refine⟨da,db,k1,k2,jP P1,jP P2,rfl,.inl (s2 _ _ ea),eb,Paired.to (λ_ _ h=>h.same s2) pa,pb,o1.nd,o2.nd,by rw[qF,qF];omega,sz_tab z1,MG z2,λd ag T H3 n3 b3 e3 p3 A _=>?_⟩;have s03:Same H H3:=λc u h=>b3 _ _ ((s1.trans s2) _ _ h) (jU (s1 _ _ h) n2);have nd3:H d=none:=(s1.trans s2).free n3;refine⟨d,aa,ag,T,rfl,.inl e3,p3,A.nd,by have:=A.ln;rw[qF,qF]at this;omega,λk hk=>(A.ks k hk).elim (o1.ky k) (o2.ky k),o1.m1,o1.m4,λp PP H4 n4 s4 SQ ST=>?_⟩;refine go p PP H4 (s03.free n4) (s03.trans s4) SQ ST.ok λns hl hb=>?_;rw[ST.vl ns hl hb,A.vl,o1.tv hl hb,o2.tv hl hb]
def yW(K:nI):Sp:=λvs H Q _=>∃(p1:Addr) (v:V) (aa:Nat) (P1:Pl) (y:Rat),vs=[.ref p1,v]/\SumQ K H p1 aa P1/\PlOk aa P1/\NumK K H v y/\(∀x∈P1,SzR 7900 x.2)/\SzR 7900 y/\
 ∀(p:Addr) (P:Pl) (H':Hp),H p=none->Same H H'->SumQ K H' p aa P->PlOk aa P->(∀ns:List Int,ns.length=aa->Byt ns->cf P ns=cf P1 ns*y)->Q (.ref p) H'
structure ScI(K:nI)(H1:Hp)(d0 d:Addr)(o:Obj)(k1:List (Key×V))(T:Tb)(y:Rat)(i:Nat)(ys:List (Key×V))(H2:Hp):Prop where
 s:Same H1 H2
 e:H2 d=some (.dK ys)
 pr:Paired (EntQ K H2) ys ((T.take i).map λe=>(e.1,e.2*y))
theorem CL(y:Rat):∀(T:Tb) (k:Int),tv (T.map λe=>(e.1,e.2*y)) k=tv T k*y
 | [],k=>by show(0:Rat)=0*y;rw[mS]
 | e::T,k=>by
  rw[mH,kP,kP,CL y T k];by_cases h:e.1=k
  ·rw[nH h,nH h]
  ·rw[nG h,nG h]
theorem scSc:FnScope ["one","number","table"] ["one","number"] (jJ xV):=⟨rfl,rfl,rfl,by decide +kernel,rfl,by decide +kernel,by decide +kernel⟩
theorem PX{fT fM fS:Addr}{fdT fdM fdS:FuncData}(F:Fun K "scaled" "scaled" xV f fd)(DT:Df K mg "table_of" yY ["one"] fT fdT)(GT:FnOk P w K mg base CX0 2 fT fdT ["one"] (BP K))(DM:Df K mg "multiplied" LE ["one","other"] fM fdM)(GM:FnOk P w K mg base CX0 2 fM fdM ["one","other"] (ML K))(DS:Df K mg "sum_of" wJ ["many","table"] fS fdS)(GS:FnOk P w K mg base CX0 2 fS fdS ["many","table"] (wV K)):FnOk P w K mg base CX0 3 f fd ["one","number"] (yW K):=by
 refine F.ok scSc (λvs H Q E h=>?_) (λcdv A outer s H vs Q E hr h=>?_)
 ·obtain⟨p1,v,aa,P1,y,rfl,_⟩:=h
  rfl
 ·obtain⟨p1,v,aa,P1,y,rfl,q1,o1,ny,z1,zy,go⟩:=h;refine⟨_,jC (wZ (i:=2) scSc.nd rfl (Or.inl rfl) (own:=2) (idx:=[1]) (N:=["key","fraction","number"]) rfl rfl rfl (by decide +kernel) (by decide +kernel) (yV (by intro y hy;simp only[mI,gU,or_false]at hy;rcases hy with rfl;rfl)) (qN rfl) rfl (vS rfl ⟨rfl,rfl,rfl,rfl⟩) (vY (BU (jD GT hr rfl DT.m DT.F.kp DT.b .nil jK (jA (pv 0) jB)))) (λC fp s2 H2=>show PG (jN _ ["key","fraction","number"] _ _ C fp s2 H2) _ (zK K 2 (kR (jS 0) (kR (jS 1) gNil)))from jY (X:=jN _ ["key","fraction","number"] _ _ C fp s2 H2) rfl (jG (jH (i:=0) (show List.Nodup (["key","fraction","number"]:List Str) by decide +kernel) rfl (Or.inl rfl) (Or.inr rfl)) (jG (jH (i:=1) (show List.Nodup (["key","fraction","number"]:List Str) by decide +kernel) rfl (Or.inl rfl) (Or.inr rfl)) jV))) (λC fp s2 H2=>pv 0) (λC fp s2 H2=>jD GM hr rfl DM.m DM.F.kp DM.b .nil jK (jA (pv 1) (jA (pv 2) jB)))) (jE (jM (jD GS hr rfl DS.m DS.F.kp DS.b .nil jK (jA (kG kJ (pv 0) jF (λ_ _=>rfl)) (jA (pv 2) jB))))), ?_⟩;try dsimp only[cxK]
  refine⟨_,rfl,p1,aa,P1,rfl,q1,o1,λda k1 H1 n1 s1 ea pa=>?_⟩;refine⟨da,k1,rfl,ea,λo=>⟨da,o,k1,rfl,jI,λd H3 n3 s3 e3=>?_⟩⟩;have k2:Paired (EntQ K (upd H1 da (.frz o (.dK k1)))) k1 (jP P1):=Paired.to (λ_ _ h=>h.upd ea) pa;have s2:Same H (upd H1 da (.frz o (.dK k1))):=kF s1 n1;have ef:(upd H1 da (.frz o (.dK k1))) da=some (.frz o (.dK k1)):=jI;generalize upd H1 da (.frz o (.dK k1))=H2 at k2 s2 ef n3 s3;have l1:k1.length=P1.length:=by rw[Paired.length k2,qF]
  refine xM (ScI K H2 da d o k1 (jP P1) y) (by rw[l1];exact gD o1.few (by decide)) ⟨s3,e3,.nil⟩ (λi ys H4 h=>⟨h.s _ _ ef,h.e, ?_⟩) ?_ ?_
  ·have:=Paired.length h.pr;rw[this,hU,gT];omega
  ·intro i m ys k x c H4 hx hm h hc;obtain⟨e,he,hk,hn⟩:=Paired.at k2 hx;have hk:k=.inl e.1:=hk;subst hk;have s5:Same H4 (upd H4 c (.tup [kV (.inl e.1),x])):=kB _ hc;have e5:(upd H4 c (.tup [kV (.inl e.1),x])) c=some (.tup [kV (.inl e.1),x]):=jI;generalize upd H4 c (.tup [kV (.inl e.1),x])=H5 at s5 e5;have em:=uW he;obtain⟨px,rfl,hx2⟩:=hn.same (h.s.trans s5);obtain⟨py,rfl,hy2⟩:=ny.same (s2.trans (h.s.trans s5));refine⟨c,_,rfl,SqT.of e5,rfl,_,_,rfl,_,_,rfl,rfl,BH,_,rfl,_,rfl,_,rfl,px,py,_,_,_,_,rfl,SqT.of hx2,hy2,(MG z1 e em).fr uJ,zy.fr uJ,λr H6 n6 s6 e6=>?_⟩;have e6:=mulAt e6;have ed6:=(s5.trans s6) _ _ h.e;refine⟨.inl e.1,rfl,ed6,zY hx hm ⟨kF (h.s.trans (s5.trans s6)) n3,jI, ?_⟩⟩;have k:=AB (k:=e.1) (Paired.to (λ_ _ h=>h.same (s5.trans s6)) h.pr) (NumH.of e6);have eq:xN ((List.take i (jP P1)).map λe=>(e.1,e.2*y)) e.1 (e.2*y)=(List.take (i+1) (jP P1)).map λe=>(e.1,e.2*y):=by
    rw[zA,gO,he,hV]
    ·rfl
    ·have:=zH he o1.nd;rw[List.map_map];exact this
   rw[eq]at k;exact Paired.to (λ_ _ h=>h.upd ed6) k
  ·intro ys H4 h;have pr2:=h.pr;rw[show k1.length=(jP P1).length from Paired.length k2,gW]at pr2;dsimp only[jS];obtain⟨qq,xs,e1,_⟩:=(q1.same (s2.trans h.s)).ex;have ks:((jP P1).map λe=>(e.1,e.2*y)).map (·.1)=(jP P1).map (·.1):=by rw[List.map_map];rfl
   refine⟨_,rfl,p1,_,_,_,rfl,rfl,SqT.of e1,rfl,_,rfl,d,aa,ys,_,rfl,.inl h.e,pr2,by rw[ks];exact o1.nd,by rw[hU,qF];exact o1.few,by rw[ks];exact o1.ky,o1.m1,o1.m4,λp PP H5 n5 s5 SQ ST=>?_⟩;have s04:=s2.trans h.s;refine go p PP H5 (s04.free n5) (s04.trans s5) SQ ST.ok λns hl hb=>?_;rw[ST.vl ns hl hb,CL,o1.tv hl hb]
end Lw
namespace Lw
open PySem PySem.Spec PyProof.Rows L2 LwQ
def lvS(b:Int)(r:Rat):Int:=b*yM (r.den:Int) b
def lvD(rs:List Rat):Int:=rs.foldl lvS 1
def lvT(rs:List Rat):List Int:=rs.map λr=>r.num*(lvD rs/(r.den:Int))
theorem NT{b:Int}(hb:0<b)(r:Rat):0<lvS b r:=by
 unfold lvS;rw[qW hb];have g:=LwM.vA (r.den:Int) b hb;have d:=r.den_pos;have:0<(r.den:Int)/(Int.gcd (r.den:Int) b:Int):=by
  have h1:(Int.gcd (r.den:Int) b:Int)∣(r.den:Int):=gZ ..;obtain⟨k,hk⟩:=h1;generalize (Int.gcd (r.den:Int) b:Int)=G at *;rw[hk,Int.mul_ediv_cancel_left _ (by omega)];by_cases z:0<k
  ·exact z
  ·have:G*k<=0:=Int.mul_nonpos_of_nonneg_of_nonpos (by omega) (by omega);omega
 exact mY hb this
theorem ZF{b:Int}(hb:0<b)(r:Rat):b∣lvS b r/\(r.den:Int)∣lvS b r:=by
 unfold lvS;refine⟨Int.dvd_mul_right .., ?_⟩;rw[qW hb];have g:=LwM.vA (r.den:Int) b hb;obtain⟨k,hk⟩:(Int.gcd (r.den:Int) b:Int)∣(r.den:Int):=gZ ..;obtain⟨m,hm⟩:(Int.gcd (r.den:Int) b:Int)∣b:=gR ..;generalize (Int.gcd (r.den:Int) b:Int)=G at *;refine⟨m, ?_⟩;have:(r.den:Int)/G=k:=by rw[hk,Int.mul_ediv_cancel_left _ (by omega)]
 rw[this,hk]
 conv=>lhs;rw[hm]
 grind
theorem lvF:∀(rs:List Rat) (b:Int),0<b->0<rs.foldl lvS b/\b∣rs.foldl lvS b/\∀r∈rs,(r.den:Int)∣rs.foldl lvS b
 | [],b,h=>⟨h,Int.dvd_refl _,λ_ z=>nomatch z⟩
 | r::rs,b,h=>by
  obtain⟨h1,h2,h3⟩:=lvF rs (lvS b r) (NT h r);have d:=ZF h r;refine⟨h1,Int.dvd_trans d.1 h2,λq hq=>?_⟩;rcases mI.mp hq with rfl | hq
  ·exact Int.dvd_trans d.2 h2
  ·exact h3 q hq
theorem zT(rs:List Rat):0<lvD rs:=(lvF rs 1 (by decide)).1
theorem ZH{rs:List Rat}{r:Rat}(h:r∈rs):(r.den:Int)∣lvD rs:=(lvF rs 1 (by decide)).2.2 r h
theorem lvS_of{b D:Int}(hb:0<b){r:Rat}(h:b∣D)(k:(r.den:Int)∣D):lvS b r∣D:=by
 unfold lvS;rw[qW hb];have g:=LwM.vA (r.den:Int) b hb;have lg:=NW (n:=(r.den:Int)) hb;rw[qW hb,xR hb]at lg;obtain⟨y,hy⟩:(Int.gcd (r.den:Int) b:Int)∣(r.den:Int):=gZ ..;obtain⟨m,hm⟩:(Int.gcd (r.den:Int) b:Int)∣b:=gR ..;generalize (Int.gcd (r.den:Int) b:Int)=G at *;have e1:(r.den:Int)/G=y:=by rw[hy,Int.mul_ediv_cancel_left _ (by omega)]
 have e2:b/G=m:=by rw[hm,Int.mul_ediv_cancel_left _ (by omega)]
 rw[e1,e2]at lg;rw[e1];obtain⟨x,hx⟩:=h;obtain⟨z,hz⟩:=k;have:y∣m*x:=⟨z,by
  have:G*(m*x)=G*(y*z):=by rw[<-Int.mul_assoc,<-hm,<-hx,hz,hy,Int.mul_assoc]
  exact Int.eq_of_mul_eq_mul_left (by omega) this⟩
 have:y∣x:=CB (by rw[Int.gcd_comm];exact lg) this;obtain⟨q,hq⟩:=this;exact⟨q,by rw[hx,hq,Int.mul_assoc]⟩
theorem UZ{D:Int} :∀(rs:List Rat) (b:Int),0<b->b∣D->(∀r∈rs,(r.den:Int)∣D)->rs.foldl lvS b∣D
 | [],_,_,h,_=>h
 | r::rs,b,h0,h,k=>UZ rs (lvS b r) (NT h0 r) (lvS_of h0 h (k r (gJ ..))) λq hq=>k q (uX _ hq)
theorem VA{D:Int}{rs:List Rat}(k:∀r∈rs,(r.den:Int)∣D):lvD rs∣D:=UZ rs 1 (by decide) ⟨D,by omega⟩ k
theorem zZ{a D:Int}(h:a∣D)(h0:0<D):a.natAbs<=D.natAbs:=Nat.le_of_dvd (by omega) (Int.natAbs_dvd_natAbs.mpr h)
theorem JO(rs:List Rat)(r:Rat):lvD (rs++[r])=lvS (lvD rs) r:=by
 unfold lvD;rw[List.foldl_append]
 rfl
theorem LN{rs:List Rat}{r:Rat}(h:r∈rs):((r.num*(lvD rs/(r.den:Int)):Int):Rat)=r*(lvD rs:Rat):=by
 obtain⟨k,hk⟩:=ZH h;have d:=r.den_pos;rw[hk,Int.mul_ediv_cancel_left _ (by omega),Rat.intCast_mul,Rat.intCast_mul];have h1:=xF r;unfold fv at h1;have h2:((r.den:Int):Rat)≠0:=cne (by omega);generalize ((r.den:Int):Rat)=D at *;generalize (r.num:Rat)=N at *;rw[<-h1]
 grind
theorem ZE(rs:List Rat):(lvT rs).length=rs.length:=by simp [lvT]
theorem AU{t:Int}{n:Nat}(h:t.natAbs<2^n)(hn:0<n):FrOk n t 1:=⟨by decide,by simp,h,by
 show 1<2^n;exact Nat.one_lt_two_pow (by omega)⟩
open LwV
theorem keep3{x y z:Option V}{r:L2.St} :Keep (none::none::none::r) (x::y::z::r):=λi v h=>by
 match i,h with
 | i+3,h=>exact h
def EntR(C:Int)(H:Hp)(kv:Key×V)(e:Int×Rat):Prop:=kv.1=.inl e.1/\∃c,kv.2=.ref c/\H c=some (.tup [.int (e.2.num*(C/(e.2.den:Int))),.int C])
theorem EntQ.but{K:nI}{H H':Hp}{p:Addr}{ag:List (Key×V)}{kv:Key×V}{x:Int×Rat}(h:EntQ K H kv x)(e:Rd H p (.dK ag))(b:But p H H'):EntQ K H' kv x:=let ⟨z1,pz,z2,z3⟩:=h;⟨z1,pz,z2,b _ _ z3 λy=>by rcases e with e | ⟨o,e⟩<;>rw[<-y,z3]at e<;>cases e⟩
theorem EntR.same{C:Int}{H H':Hp}{kv:Key×V}{e:Int×Rat}(h:EntR C H kv e)(s:Same H H'):EntR C H' kv e:=let ⟨h1,c,h2,h3⟩:=h;⟨h1,c,h2,s _ _ h3⟩
theorem EntR.upd{C:Int}{H:Hp}{p:Addr}{ag:List (Key×V)}{o:HO}(e:H p=some (.dK ag)){kv:Key×V}{x:Int×Rat}(h:EntR C H kv x):EntR C (upd H p o) kv x:=let ⟨h1,c,h2,h3⟩:=h;⟨h1,c,h2,by rw[jL λz=>by rw[z,e]at h3;cases h3];exact h3⟩
theorem IW{l:List (Key×V)}{k:Key}{v:V}(h:∀p∈l,p.1≠k):vI l k v=l++[(k,v)]:=by
 unfold vI;rw[nG];intro z;obtain⟨p,hp,e⟩:=List.any_eq_true.mp z;exact h p hp (gP e)
def kN(T:Tb):Int:=lvD (T.map (·.2))
def spLev(K:nI):Sp:=λvs H Q _=>∃(a:Addr) (ag:List (Key×V)) (T:Tb) (D:Int),vs=[.ref a]/\Rd H a (.dK ag)/\Paired (EntQ K H) ag T/\(T.map (·.1)).Nodup/\T.length<=1000/\0<D/\D.natAbs<2^1400/\(∀e∈T,(e.2.den:Int)∣D)/\(∀e∈T,e.2.num.natAbs<2^3000)/\
 ∀(d:Addr) (ks:List (Key×V)) (H':Hp),H d=none->But a H H'->(∃o,H' a=some (.frz o (.dK ag)))->H' d=some (.dK ks)->Paired (EntR (kN T) H') ks T->Q (.ref d) H'
inductive LvI(H:Hp)(a:Addr)(T:Tb)(i:Nat):L2.St->Hp->Prop where
 | mk {u v:Option V} {H':Hp} (s:Same H H'):LvI H a T i [some (.ref a),some (.int (kN (T.take i))),u,v] H'
structure LvC(C:Int)(H1:Hp)(d:Addr)(T:Tb)(i:Nat)(ys:List (Key×V))(H2:Hp):Prop where
 s:Same H1 H2
 e:H2 d=some (.dK ys)
 pr:Paired (EntR C H2) ys (T.take i)
theorem LW{T:Tb}{D:Int}(h:∀e∈T,(e.2.den:Int)∣D):kN T∣D:=VA λr hr=>by obtain⟨e,he,rfl⟩:=mP.mp hr;exact h e he
variable{P:Program}{w:World}{K:nI}{mg:Str->Option Value}{base:Heap}{f fd:_}
theorem scLv:FnScope ["table","common","top","bottom"] ["table"] (jJ MX):=⟨rfl,rfl,rfl,by decide +kernel,rfl,by decide +kernel,by decide +kernel⟩
theorem ok_lev{fD:Addr}{fdD:FuncData}(F:Fun K "levelled" "levelled" MX f fd)(T:Txt mg)(DD:Df K mg "divided" LG ["one","other"] fD fdD)(GD:FnOk P w K mg base CX0 3 fD fdD ["one","other"] (CQ K)):FnOk P w K mg base CX0 4 f fd ["table"] (spLev K):=by
 obtain⟨ts,hS⟩:=T.short;refine F.ok scLv (λvs H Q E h=>?_) (λcdv A outer s H vs Q E hr h=>?_)
 ·obtain⟨a,ag,TT,D,rfl,_⟩:=h
  rfl
 ·obtain⟨a,ag,TT,D,rfl,ha,pr,nd,lT,D0,D1,dv,nb,go⟩:=h;refine⟨_,jC (jO (i:=1) scLv.nd rfl (Or.inr rfl) jF) (jC (qA PassesOwn.never rfl (XU (BV (pv 0))) (jY rfl (jG (jH (i:=2) scLv.nd rfl (Or.inl rfl)) (jG (jH (i:=3) scLv.nd rfl (Or.inl rfl)) jV))) (jC (jO (i:=1) scLv.nd rfl (Or.inr rfl) (jT kO (pv 1) (kG kJ (jD GD hr rfl DD.m DD.F.kp DD.b .nil jK (jA (jQ (jA (pv 3) (jA jF jB))) (jA (jQ (jA (pv 1) (jA jF jB))) jB))) jF (λ_ _=>rfl)))) (jE (kT (kI uE (TV PySem.F.plainAttrs_int slot_int_bit_length type_int_bit_length NR (pv 1)) (kL (v:=.int 1500) (by rfl) hS ⟨_,rfl⟩) (kD _)) (jE (yD)) kC)))) (jE (jM (zR (own:=3) (idx:=[1]) (N:=["key","top","bottom","common"]) rfl rfl rfl (by decide +kernel) (by decide +kernel) (yV (by intro y hy;simp only[mI,gU,or_false]at hy;rcases hy with rfl;rfl)) (qN rfl) rfl (vS rfl ⟨rfl,rfl,rfl,rfl⟩) (vY (pv 0)) (λC fp s2 H2=>show PG (jN _ ["key","top","bottom","common"] _ _ C fp s2 H2) _ (zK K 2 (kR (jS 0) (kR (zK K 2 (kR (jS 1) (kR (jS 2) gNil))) gNil)))from jY (X:=jN _ ["key","top","bottom","common"] _ _ C fp s2 H2) rfl (jG (jH (i:=0) (show List.Nodup (["key","top","bottom","common"]:List Str) by decide +kernel) rfl (Or.inl rfl) (Or.inr rfl)) (jG (jY (X:=jN _ ["key","top","bottom","common"] _ _ C fp s2 H2) rfl (jG (jH (i:=1) (show List.Nodup (["key","top","bottom","common"]:List Str) by decide +kernel) rfl (Or.inl rfl) (Or.inr rfl)) (jG (jH (i:=2) (show List.Nodup (["key","top","bottom","common"]:List Str) by decide +kernel) rfl (Or.inl rfl) (Or.inr rfl)) jV))) jV))) (λC fp s2 H2=>pv 0) (λC fp s2 H2=>jQ (jA (jT kO (pv 1) (jT LwD.zG (pv 3) (pv 2))) (jA (pv 3) jB))))))), ?_⟩
  try dsimp only[cxK]
  have lk:ag.length=TT.length:=Paired.length pr;refine⟨_,rfl,a,ag,rfl,ha,λo H1 e1 b1 fr1=>⟨a,o,ag,rfl,e1, ?_⟩⟩;have p1:Paired (EntQ K H1) ag TT:=Paired.to (λ_ _ h=>h.but ha b1) pr;have cD:∀i,(kN (TT.take i)).natAbs<2^1400/\0<kN (TT.take i):=λi=>⟨gD (zZ (LW λe he=>dv e (List.mem_of_mem_take he)) D0) D1,zT _⟩;refine VU (LvI H1 a TT) (.mk (Same.refl _)) (λi σ H2 _ h=>?_) (λi k x σ H2 hx h=>?_) (fun σ H2 h=>?_)
  ·obtain⟨s2⟩:=h;exact s2 _ _ e1
  ·obtain⟨s2⟩:=h;obtain⟨e,he,_,px,rfl,sx⟩:=Paired.at p1 hx;have em:=uW he;have ci:=cD i;have dn:((e.2.den:Int)).natAbs<2^1400:=gD (zZ (dv e em) D0) D1;have dp:=e.2.den_pos;refine gT2 (SqT.of (s2 _ _ sx)) rfl ?_;refine⟨_,rfl,_,rfl,uM,λz1 H3 n3 s3 e3=>⟨_,rfl,uM,λy1 H4 n4 s4 e4=>?_⟩⟩;refine⟨z1,y1,(e.2.den:Int),1,kN (TT.take i),1,rfl,SqT.of (s4 _ _ e3),SqT.of e4,AU (jR dn (by decide)) (by decide),AU (jR ci.1 (by decide)) (by decide),by have:=ci.2;omega,λq5 H5 n5 s5 e5=>?_⟩;rw[Int.mul_one,Int.one_mul]at e5;have lt:=NX (n:=(e.2.den:Int)) ci.2;refine⟨q5,_,_,_,rfl,rfl,SqT.of e5,rfl,_,_,rfl,rfl,⟨jR ci.1 (by decide),gD lt (jR dn (by decide))⟩, ?_⟩;have cs:kN (TT.take i)*yM (e.2.den:Int) (kN (TT.take i))=kN (TT.take (i+1)):=by
    unfold kN;rw[gO,he,hV];exact(JO _ _).symm
   dsimp only[jS];rw[cs];have cn:=cD (i+1);have hb:(Builtin.Int.intBits (kN (TT.take (i+1))))<=1400:=PySem.intBits_le_iff.mpr cn.1;refine⟨_,rfl,rfl,_,rfl,rfl,_,_,rfl,rfl,_,rfl,xE (hW (by omega)) ?_⟩;exact .mk (s2.trans (s3.trans (s4.trans s5)))
  ·obtain⟨s2⟩:=h;rw[lk,gW];have cf':=cD TT.length;rw[gW]at cf';refine⟨_,rfl,a,o,ag,rfl,s2 _ _ e1,λd H3 n3 s3 e3=>?_⟩;refine xM (LvC (kN TT) H2 d TT) (by rw[lk,sizeLine_eq];omega) ⟨s3,e3,.nil⟩ (λi ys H4 h=>⟨(s2.trans h.s) _ _ e1,h.e, ?_⟩) ?_ ?_
   ·have:=Paired.length h.pr;rw[this,gT];omega
   ·intro i m ys k x c H4 hx hm h hc;obtain⟨e,he,hk,px,rfl,sx⟩:=Paired.at p1 hx;have hk:k=.inl e.1:=hk;subst hk;have em:=uW he;have s5:Same H4 (upd H4 c (.tup [kV (.inl e.1),.ref px])):=kB _ hc;have e5:(upd H4 c (.tup [kV (.inl e.1),.ref px])) c=some (.tup [kV (.inl e.1),.ref px]):=jI;generalize upd H4 c (.tup [kV (.inl e.1),.ref px])=H5 at s5 e5;have dn:((e.2.den:Int)).natAbs<2^1400:=gD (zZ (dv e em) D0) D1;have dp:=e.2.den_pos;have qb:(kN TT/(e.2.den:Int)).natAbs<2^1400:=gD (LwM.zM _ _ (by omega)) cf'.1;refine⟨c,_,rfl,SqT.of e5,rfl,_,_,rfl,_,_,rfl,px,_,rfl,SqT.of ((s2.trans (h.s.trans s5)) _ _ sx),rfl,_,_,rfl,_,_,rfl,rfl,rfl,keep3,_,rfl,_,rfl,_,rfl,_,rfl,_,_,rfl,rfl,LwD.xT (m:=1400) (by omega) (by decide) cf'.1,_,_,rfl,rfl,⟨jR (nb e em) (by decide),jR qb (by decide)⟩,_,rfl,uM,λt H6 n6 s6 e6=>?_⟩;have ed6:=(s5.trans s6) _ _ h.e;refine⟨.inl e.1,rfl,ed6,zY hx hm ⟨kF (h.s.trans (s5.trans s6)) n3,jI, ?_⟩⟩;have out:∀p∈ys,p.1≠(.inl e.1:Key):=λp hp z=>by
     obtain⟨j,hj⟩:=uV.mp hp;obtain⟨e',he',q1,_⟩:=Paired.at h.pr hj;rw[z]at q1;exact zH he nd (by rw[Sum.inl.inj q1];exact List.mem_map_of_mem (uW he'))
    rw[IW out,gO,he];exact Paired.app (Paired.to (λ_ _ k=>(k.same (s5.trans s6)).upd ed6) h.pr) (.cons (EntR.upd ed6 ⟨rfl,t,rfl,e6⟩) .nil)
   ·intro ys H4 h;have pr4:=h.pr;rw[lk,gW]at pr4;refine go d ys H4 (fr1 d (s2.free n3)) (λc u hc n=>(s2.trans h.s) _ _ (b1 c u hc n)) ⟨o,(s2.trans h.s) _ _ e1⟩ h.e pr4
theorem ZR{n M:Int}(M0:0<M)(Mb:M.natAbs<2^7800)(nb:n.natAbs<2^7800):SzR 7900 ((n:Rat)/(M:Rat)):=by
 have o:Ov 1 7800 ((n:Int):Rat):=⟨n,by unfold fv;rw[Rat.div_def,show((1:Int):Rat)=1 from rfl];grind,mT nb⟩;have o:=o.div (by decide) (show M≠0 by omega);rw[Int.one_mul]at o;exact o.sz (by omega) (d:=7800) (by rw[gI];exact mT Mb) (by decide) (by decide)
def SI(K:nI):Sp:=λvs H Q _=>∃(a:Addr) (M n:Int),vs=[.ref a]/\H a=some (.dK [(.inl M,.int n)])/\0<M/\M.natAbs<2^7800/\n.natAbs<2^7800/\
 ∀(v:V) (H':Hp),But a H H'->NumH H' v ((n:Rat)/(M:Rat))->Q v H'
inductive HtI(K:nI)(H:Hp)(a:Addr)(M n:Int)(i:Nat):L2.St->Hp->Prop where
 | mk {v:V} {u2 u3:Option V} {H':Hp} (s:Same H H') (h:if i=0 then NumK K H' v 0 else NumH H' v ((n:Rat)/(M:Rat))):HtI K H a M n i [some (.ref a),some v,u2,u3] H'
theorem scHt:FnScope ["heap","total","bottom","top"] ["heap"] (jJ HK):=⟨rfl,rfl,rfl,by decide +kernel,rfl,by decide +kernel,by decide +kernel⟩
theorem YR{fA fD:Addr}{fdA fdD:FuncData}(F:Fun K "heap_total" "heap_total" HK f fd)(N:Ngt K mg)(DA:Df K mg "added" FL ["one","other"] fA fdA)(GA:FnOk P w K mg base CX0 2 fA fdA ["one","other"] (GK K))(DD:Df K mg "divided" LG ["one","other"] fD fdD)(GD:FnOk P w K mg base CX0 3 fD fdD ["one","other"] (CQ K)):FnOk P w K mg base CX0 4 f fd ["heap"] (SI K):=by
 obtain⟨na,hN,hna⟩:=N;refine F.ok scHt (λvs H Q E h=>?_) (λcdv A outer s H vs Q E hr h=>?_)
 ·obtain⟨a,M,n,rfl,_⟩:=h
  rfl
 ·obtain⟨a,M,n,rfl,ha,M0,Mb,nb,go⟩:=h;have hr2:Room 2 _:=hr.mono (by decide);refine⟨_,jC (jO (i:=1) scHt.nd rfl (Or.inl rfl) (kL (v:=.ref na) (by rfl) hN rfl)) (jC (qA PassesOwn.never rfl (vY (BU (pv 0))) (jY rfl (jG (jH (i:=2) scHt.nd rfl (Or.inl rfl)) (jG (jH (i:=3) scHt.nd rfl (Or.inl rfl)) jV))) (jE (jO (i:=1) scHt.nd rfl (Or.inl rfl) (jD GA hr2 rfl DA.m DA.F.kp DA.b .nil jK (jA (pv 1) (jA (jD GD hr rfl DD.m DD.F.kp DD.b .nil jK (jA (jQ (jA (pv 3) (jA jF jB))) (jA (jQ (jA (pv 2) (jA jF jB))) jB))) jB)))))) (jE (jM (pv 1)))), ?_⟩;try dsimp only[cxK]
  refine⟨_,rfl,a,_,rfl,ha,λo=>⟨a,o,_,rfl,jI, ?_⟩⟩;have b1:But a H (upd H a (.frz o (.dK [(.inl M,.int n)]))):=λc u h n=>by rw[jL n];exact h
  have e1:(upd H a (.frz o (.dK [((.inl M:Key),V.int n)]))) a=some (.frz o (.dK [(.inl M,.int n)])):=jI;generalize upd H a (.frz o (.dK [((.inl M:Key),V.int n)]))=H1 at b1 e1;refine zV (HtI K H1 a M n) (.mk (Same.refl _) (by rw[nH rfl];exact II (hna H1))) (λi σ H2 _ h=>?_) (λi k x p σ H2 hx hp h=>?_) (fun σ H2 h=>?_)
  ·obtain⟨s2,_⟩:=h;exact s2 _ _ e1
  ·obtain⟨s2,hn⟩:=h
   match i,hx,hn with
   | 0,hx,hn=>
    rw[nH rfl]at hn;cases hx;have s3:Same H2 (upd H2 p (.tup [kV (.inl M),.int n])):=kB _ hp;have e3:(upd H2 p (.tup [kV (.inl M),.int n])) p=some (.tup [kV (.inl M),.int n]):=jI;generalize upd H2 p (.tup [kV (.inl M),.int n])=H3 at s3 e3;refine gT2 (SqT.of e3) rfl ?_;obtain⟨pt,rfl,qt⟩:=hn.same s3;have hM:((M:Int):Rat)≠0:=λz=>by
     have:M=0:=Rat.intCast_inj.mp (by rw[z];rfl);omega
    refine⟨_,rfl,_,rfl,uM,λz1 H4 n4 s4 e4=>⟨_,rfl,uM,λy1 H5 n5 s5 e5=>?_⟩⟩;refine⟨z1,y1,_,_,_,_,rfl,RX (SqT.of (s5 _ _ e4)),RX (SqT.of e5),(VP (jR nb (by decide)) (by decide)).fr uJ,(VP (jR Mb (by decide)) (by decide)).fr uJ,UP hM,λr6 H6 n6 s6 e6=>?_⟩;have e6:=divAt hM e6;have sz6:=ZR M0 Mb nb;refine⟨pt,r6,_,_,_,_,rfl,vX (s4.trans (s5.trans s6)) qt,SqT.of e6,(MF 7899).fr uJ,sz6.fr uJ,λr7 H7 n7 s7 e7=>?_⟩;have e7:=WQ e7;refine .mk (s2.trans (s3.trans (s4.trans (s5.trans (s6.trans s7))))) ?_;rw[nG (by omega)];have:=NumH.of e7;rw[mQ]at this;exact this
   | i+1,hx,_=>simp at hx
  ·obtain⟨s2,hn⟩:=h;exact⟨_,rfl,go _ H2 (λc u h n=>s2 _ _ (b1 c u h n)) hn⟩
def uG(e1:Int×Rat)(A:Tb)(e2:Int×Rat):Tb:=xN A (e1.1+e2.1) (tv A (e1.1+e2.1)+e1.2*e2.2)
def JK(T2:Tb)(A:Tb)(e1:Int×Rat):Tb:=T2.foldl (uG e1) A
def xD(T1 T2:Tb):Tb:=T1.foldl (JK T2) []
theorem AW{α β:Type}{f:β->α->β}{l:List α}{i:Nat}{x:α}{b:β}(h:l[i]? = some x):(l.take (i+1)).foldl f b=f ((l.take i).foldl f b) x:=by
 rw[gO,h,List.foldl_append]
 rfl
theorem ED{α β γ:Type}{F:α->β->Prop}{G:α->γ->Prop}{g:β->γ} :∀{l1:List α} {l2:List β},Paired F l1 l2->(∀(i:Nat) (a:α) (b:β),l1[i]? = some a->l2[i]? = some b->F a b->G a (g b))->Paired G l1 (l2.map g)
 | _,_,.nil,_=>.nil
 | _,_,.cons h t,k=>.cons (k 0 _ _ rfl rfl h) (ED t λi a b h1 h2=>k (i+1) a b h1 h2)
def EntH(M:Int)(B:Nat)(Hs H:Hp)(hd:Addr)(kv:Key×V)(e:Int×Rat):Prop:=kv.1=.inl e.1/\∃(c:Addr) (n:Int),kv.2=.ref c/\Hs c=none/\c≠hd/\H c=some (.dK [(.inl M,.int n)])/\((n:Int):Rat)=e.2*(M:Rat)/\n.natAbs<=B*2^7600
theorem EntH.go{M:Int}{B B':Nat}{Hs H H':Hp}{hd:Addr}{kv:Key×V}{e:Int×Rat}(h:EntH M B Hs H hd kv e)(k:∀c,kv.2=.ref c->Hs c=none->c≠hd->∀o,H c=some o->H' c=some o)(hB:B<=B'):EntH M B' Hs H' hd kv e:=by
 obtain⟨h1,c,n,h2,h3,h4,h5,h6,h7⟩:=h;exact⟨h1,c,n,h2,h3,h4,k c h2 h3 h4 _ h5,h6,mN h7 (Nat.mul_le_mul_right _ hB)⟩
structure HpI(M:Int)(B:Nat)(Hs H:Hp)(hd:Addr)(hs:List (Key×V))(A:Tb):Prop where
 e:H hd=some (.dK hs)
 pr:Paired (EntH M B Hs H hd) hs A
 nd:(hs.map (·.2)).Nodup
 ndA:(A.map (·.1)).Nodup
 ln:A.length<=B
theorem HpI.go{M:Int}{B:Nat}{Hs H H':Hp}{hd:Addr}{hs:List (Key×V)}{A:Tb}(I:HpI M B Hs H hd hs A)(e:H' hd=some (.dK hs))(k:∀c,Hs c=none->c≠hd->∀o,H c=some o->H' c=some o):HpI M B Hs H' hd hs A:=⟨e,Paired.to (λ_ _ h=>h.go (λc _ h1 h2=>k c h1 h2) uJ) I.pr,I.nd,I.ndA,I.ln⟩
theorem EU{M:Int}{B:Nat}{Hs H:Hp}{hd:Addr}{k:Int} :∀{hs:List (Key×V)} {A:Tb},Paired (EntH M B Hs H hd) hs A->(∃(i:Nat) (c:Addr) (n:Int),hs[i]? = some (.inl k,.ref c)/\A[i]? = some (k,tv A k)/\qK hs (.inl k:Key)=some (.ref c)/\Hs c=none/\c≠hd/\H c=some (.dK [(.inl M,.int n)])/\((n:Int):Rat)=tv A k*(M:Rat)/\n.natAbs<=B*2^7600)∨(qK hs (.inl k:Key)=none/\k∉A.map (·.1)/\∀p∈hs,p.1≠(.inl k:Key))
 | [],[],.nil=>.inr ⟨rfl,by simp,λ_ h=>nomatch h⟩
 | kv::hs,e::A,.cons h t=>by
  rw[kP];by_cases q:e.1=k
  ·obtain⟨h1,c,n,h2,h3,h4,h5,h6,h7⟩:=h;obtain⟨k1,v1⟩:=kv;obtain⟨e1,x1⟩:=e;have h1:k1=.inl e1:=h1;have h2:v1=.ref c:=h2;have q:e1=k:=q;subst h1 h2 q;rw[nH rfl,yB rfl];exact .inl ⟨0,c,n,rfl,rfl,rfl,h3,h4,h5,h6,h7⟩
  ·have n:kv.1≠(.inl k:Key):=λz=>q (by rw[h.1]at z;exact Sum.inl.inj z);have e1:qK (kv::hs) (.inl k:Key)=qK hs (.inl k:Key):=by unfold qK;rw[List.find?_cons,hW n]
   rw[nG q,e1];rcases EU t with⟨i,c,m,z1,z2,z3⟩ | ⟨z1,z2,z3⟩
   ·exact .inl ⟨i+1,c,m,z1,z2,z3⟩
   ·exact .inr ⟨z1,λz=>by rcases mI.mp z with z | z;exact q z.symm;exact z2 z,λp hp=>by rcases mI.mp hp with rfl | hp;exact n;exact z3 p hp⟩
theorem ZM{M n:Int} :qK [((.inl M:Key),V.int n)] (.inl M)=some (.int n):=yB rfl
theorem XM{M n m:Int} :vI [((.inl M:Key),V.int n)] (.inl M) (.int m)=[(.inl M,.int m)]:=by
 unfold vI;simp
theorem XN{M m:Int} :vI ([]:List (Key×V)) (.inl M) (.int m)=[(.inl M,.int m)]:=rfl
theorem HpI.there{M:Int}{B:Nat}{Hs H4:Hp}{hd c:Addr}{hs:List (Key×V)}{A:Tb}{k n m:Int}{y:Rat}{i:Nat}(I:HpI M B Hs H4 hd hs A)(hi:hs[i]? = some (.inl k,.ref c))(ai:A[i]? = some (k,tv A k))(fc:Hs c=none)(ch:c≠hd)(en:((n:Int):Rat)=tv A k*(M:Rat))(bn:n.natAbs<=B*2^7600)(em:((m:Int):Rat)=y*(M:Rat))(bm:m.natAbs<=2^7600):HpI M (B+1) Hs (upd H4 c (.dK [(.inl M,.int (n+m))])) hd hs (xN A k (tv A k+y)):=by
 have km:k∈A.map (·.1):=by
  have:=List.mem_map_of_mem (f:=(·.1)) (uW ai);exact this
 have pq:xN A k (tv A k+y)=A.map λe=>if e.1=k then(e.1,tv A k+y)else e:=by unfold xN;rw[nH (any_key.mpr km)]
 refine⟨by rw[jL (Ne.symm ch)];exact I.e, ?_,I.nd,yE I.ndA, ?_⟩
 ·rw[pq];refine ED I.pr λj a b ha hb h=>?_;by_cases q:b.1=k
  ·have j1:(A.map (·.1))[j]? = some k:=by rw[gM,hb];exact congrArg some q
   have j2:(A.map (·.1))[i]? = some k:=by rw[gM,ai];rfl
   have ij:j=i:=(List.getElem?_inj (uQ.mp j1).1 I.ndA).mp (j1.trans j2.symm);subst ij;rw[hi]at ha;cases ha;rw[nH q];refine⟨by rw[q],c,n+m,rfl,fc,ch,jI, ?_, ?_⟩
   ·show((n+m:Int):Rat)=(tv A k+y)*(M:Rat);rw[Rat.intCast_add,en,em]
    grind
   ·have:=Int.natAbs_add_le n m;rw[Nat.add_mul,Nat.one_mul];omega
  ·rw[nG q];refine h.go (λc' hc' _ _ o ho=>?_) (Nat.le_succ _);have:c'≠c:=λz=>by
    subst z;have j1:(hs.map (·.2))[j]? = some (.ref c'):=by rw[gM,ha];exact congrArg some hc'
    have j2:(hs.map (·.2))[i]? = some (.ref c'):=by rw[gM,hi];rfl
    have ij:j=i:=(List.getElem?_inj (uQ.mp j1).1 I.nd).mp (j1.trans j2.symm);subst ij;rw[ai]at hb;cases hb;exact q rfl
   rw[jL this];exact ho
 ·have:=congrArg List.length pq;rw[hU]at this;rw[this];exact mN I.ln (Nat.le_succ _)
theorem HpI.new{M:Int}{B:Nat}{Hs H4:Hp}{hd z:Addr}{hs:List (Key×V)}{A:Tb}{k m:Int}{y:Rat}(I:HpI M B Hs H4 hd hs A)(nk:k∉A.map (·.1))(fz:Hs z=none)(zh:z≠hd)(nz:∀p∈hs,p.2≠.ref z)(em:((m:Int):Rat)=y*(M:Rat))(bm:m.natAbs<=2^7600):HpI M (B+1) Hs (upd (upd H4 hd (.dK (hs++[(.inl k,.ref z)]))) z (.dK [(.inl M,.int m)])) hd (hs++[(.inl k,.ref z)]) (xN A k (tv A k+y)):=by
 rw[zA nk,qL nk,mQ];refine⟨by rw[jL (Ne.symm zh)];exact jI,Paired.app ?_ (.cons ⟨rfl,z,m,rfl,fz,zh,jI,em, ?_⟩ .nil), ?_, ?_, ?_⟩
 ·have go:∀{l1:List (Key×V)} {l2:Tb},(∀p∈l1,p∈hs)->Paired (EntH M B Hs H4 hd) l1 l2->Paired (EntH M (B+1) Hs (upd (upd H4 hd (.dK (hs++[(.inl k,.ref z)]))) z (.dK [(.inl M,.int m)])) hd) l1 l2:=by
   intro l1 l2 sub h;induction h with
   | nil=>exact .nil
   | @cons a b _ _ h _ ih=>
    refine .cons (h.go (λc hc _ _ o ho=>?_) (Nat.le_succ _)) (ih λp hp=>sub p (uX _ hp));obtain⟨_,c',_,q1,_,q2,_⟩:=h;rw[hc]at q1;cases q1;rw[jL (λy=>nz a (sub a (gJ ..)) (by rw[hc,y])),jL q2];exact ho
  exact go (λ_ h=>h) I.pr
 ·rw[Nat.add_mul,Nat.one_mul];omega
 ·rw[hV,List.nodup_append];refine⟨I.nd,by simp,λa ha b hb=>?_⟩;rw[mH,List.map_nil,gH]at hb;obtain⟨p,hp,rfl⟩:=mP.mp ha;rw[hb];exact nz p hp
 ·rw[hV,List.nodup_append];refine⟨I.ndA,by simp,λa ha b hb=>?_⟩;rw[mH,List.map_nil,gH]at hb;rintro rfl;rw[hb]at ha;exact nk ha
 ·rw[gE];exact Nat.add_le_add_right I.ln 1
def IN(K:nI):Sp:=λvs H Q _=>∃(a b:Addr) (k1 k2:List (Key×V)) (T1 T2:Tb) (D1 D2:Int),vs=[.ref a,.ref b]/\a≠b/\Rd H a (.dK k1)/\Rd H b (.dK k2)/\Paired (EntQ K H) k1 T1/\Paired (EntQ K H) k2 T2/\(T1.map (·.1)).Nodup/\(T2.map (·.1)).Nodup/\T1.length<=60/\T2.length<=60/\T1.length*T2.length<=1000/\0<D1/\D1.natAbs<2^1400/\0<D2/\D2.natAbs<2^1400/\(∀e∈T1,(e.2.den:Int)∣D1)/\(∀e∈T2,(e.2.den:Int)∣D2)/\(∀e∈T1,e.2.num.natAbs<2^2400)/\(∀e∈T2,e.2.num.natAbs<2^2400)/\(∀e∈T1,e.1.natAbs<2^40)/\(∀e∈T2,e.1.natAbs<2^40)/\
 ∀(d:Addr) (ks:List (Key×V)) (H':Hp),H d=none->(∀c u,H c=some u->c≠a->c≠b->H' c=some u)->Rd H' b (.dK k2)->H' d=some (.dK ks)->Paired (EntQ K H') ks (xD T1 T2)->Q (.ref d) H'
theorem UX{T1 T2:Tb}{e1 e2:Int×Rat}(h1:e1∈T1)(h2:e2∈T2):(((e1.2.num*(kN T1/(e1.2.den:Int)))*(e2.2.num*(kN T2/(e2.2.den:Int))):Int):Rat)=(e1.2*e2.2)*((kN T1*kN T2:Int):Rat):=by
 have a:=LN (List.mem_map_of_mem (f:=(·.2)) h1);have b:=LN (List.mem_map_of_mem (f:=(·.2)) h2);unfold kN;rw[Rat.intCast_mul,a,b,Rat.intCast_mul]
 grind
def B2(d1 d2:Addr)(H H':Hp):Prop:=∀c u,H c=some u->c≠d1->c≠d2->H' c=some u
theorem B2.tup{d1 d2 c:Addr}{H H':Hp}{xs:List V}{j1 j2:List (Key×V)}(b:B2 d1 d2 H H')(e1:H d1=some (.dK j1))(e2:H d2=some (.dK j2))(h:H c=some (.tup xs)):H' c=some (.tup xs):=b c _ h (λz=>by rw[z,e1]at h;cases h) (λz=>by rw[z,e2]at h;cases h)
theorem EntR.but{C:Int}{H H':Hp}{p:Addr}{ag:List (Key×V)}{kv:Key×V}{x:Int×Rat}(h:EntR C H kv x)(e:Rd H p (.dK ag))(b:But p H H'):EntR C H' kv x:=by
 obtain⟨h1,c,h2,h3⟩:=h;refine⟨h1,c,h2,b _ _ h3 λz=>?_⟩;rw[z]at h3;rcases e with e | ⟨o,e⟩<;>rw[e]at h3<;>cases h3
structure FnI(K:nI)(M:Int)(B:Nat)(H H2:Hp)(a b d hd:Addr)(oh:Obj)(hs:List (Key×V))(A:Tb)(i:Nat)(ys:List (Key×V))(H':Hp):Prop where
 s:∀c u,H2 c=some u->c≠a->c≠b->H' c=some u
 f:H' hd=some (.frz oh (.dK hs))
 e:H' d=some (.dK ys)
 later:∀(j:Nat) (kv:Key×V) (x:Int×Rat),i<=j->hs[j]? = some kv->A[j]? = some x->EntH M B H2 H' hd kv x
 pr:Paired (EntQ K H') ys (A.take i)
theorem EF{α β:Type}{F:α->β->Prop}{l1:List α}{l2:List β}(h:Paired F l1 l2){i:Nat}{a:α}{b:β}(h1:l1[i]? = some a)(h2:l2[i]? = some b):F a b:=by
 obtain⟨y,hy,k⟩:=Paired.at h h1;rw[h2]at hy;cases hy;exact k
inductive M1I(H2:Hp)(a b d1 d2 hd:Addr)(o1:Obj)(j1 j2:List (Key×V))(M:Int)(T1 T2:Tb)(i:Nat):L2.St->Hp->Prop where
 | mk {u5 u6 u7 u8 u9 u10 u11 u12:Option V} {H':Hp} {hs:List (Key×V)} (s:B2 d1 d2 H2 H') (f1:H' d1=some (.frz o1 (.dK j1))) (r2:Rd H' d2 (.dK j2)) (I:HpI M (i*T2.length) H2 H' hd hs ((T1.take i).foldl (JK T2) [])):M1I H2 a b d1 d2 hd o1 j1 j2 M T1 T2 i [some (.ref a),some (.ref b),some (.ref d1),some (.ref d2),some (.ref hd),u5,u6,u7,u8,u9,u10,u11,u12] H'
inductive M2I(H2:Hp)(a b d1 d2 hd:Addr)(o1 o2:Obj)(j1 j2:List (Key×V))(M:Int)(i:Nat)(A:Tb)(T2:Tb)(e1:Int×Rat)(t1 C1:Int)(j:Nat):L2.St->Hp->Prop where
 | mk {u8 u9 u10 u11 u12:Option V} {H':Hp} {hs:List (Key×V)} (s:B2 d1 d2 H2 H') (f1:H' d1=some (.frz o1 (.dK j1))) (f2:H' d2=some (.frz o2 (.dK j2))) (I:HpI M (i*T2.length+j) H2 H' hd hs ((T2.take j).foldl (uG e1) A)):M2I H2 a b d1 d2 hd o1 o2 j1 j2 M i A T2 e1 t1 C1 j [some (.ref a),some (.ref b),some (.ref d1),some (.ref d2),some (.ref hd),some (.int e1.1),some (.int t1),some (.int C1),u8,u9,u10,u11,u12] H'
theorem scTm:FnScope ["one","other","first","second","heaps","key","top","bottom","more","over","under","heap","product"] ["one","other"] (jJ BQ):=⟨rfl,rfl,rfl,by decide +kernel,rfl,by decide +kernel,by decide +kernel⟩
theorem PU{fL fH:Addr}{fdL fdH:FuncData}(F:Fun K "tables_multiplied" "tables_multiplied" BQ f fd)(DL:Df K mg "levelled" MX ["table"] fL fdL)(GL:FnOk P w K mg base CX0 4 fL fdL ["table"] (spLev K))(DH:Df K mg "heap_total" HK ["heap"] fH fdH)(GH:FnOk P w K mg base CX0 4 fH fdH ["heap"] (SI K)):FnOk P w K mg base CX0 5 f fd ["one","other"] (IN K):=by
 refine F.ok scTm (λvs H Q E h=>?_) (λcdv A outer s H vs Q E hr h=>?_)
 ·obtain⟨a,b,k1,k2,T1,T2,D1,D2,rfl,_⟩:=h
  rfl
 ·obtain⟨a,b,k1,k2,T1,T2,D1,D2,rfl,ab,ra,rb,p1,p2,nd1,nd2,l1,l2,l12,D10,D1b,D20,D2b,v1,v2,b1,b2,y1,y2,go⟩:=h;have hu:_+1<cLine:=gD (Nat.add_le_add_left (by decide:1<=64) _) hr.units;refine⟨_,jC (jO (i:=2) scTm.nd rfl (Or.inl rfl) (jD GL hr rfl DL.m DL.F.kp DL.b .nil jK (jA (pv 0) jB))) (jC (jO (i:=3) scTm.nd rfl (Or.inl rfl) (jD GL hr rfl DL.m DL.F.kp DL.b .nil jK (jA (pv 1) jB))) (jC (jO (i:=4) scTm.nd rfl (Or.inl rfl) (JB)) (jC (qA PassesOwn.never rfl (vY (BV (pv 2))) (jY rfl (jG (jH (i:=5) scTm.nd rfl (Or.inl rfl)) (jG (jY rfl (jG (jH (i:=6) scTm.nd rfl (Or.inl rfl)) (jG (jH (i:=7) scTm.nd rfl (Or.inl rfl)) jV))) jV))) (jE (qA PassesOwn.never rfl (vY (BV (pv 3))) (jY rfl (jG (jH (i:=8) scTm.nd rfl (Or.inl rfl)) (jG (jY rfl (jG (jH (i:=9) scTm.nd rfl (Or.inl rfl)) (jG (jH (i:=10) scTm.nd rfl (Or.inl rfl)) jV))) jV))) (jC (jO (i:=11) scTm.nd rfl (Or.inl rfl) (TQ (pv 4) (jT qH (pv 5) (pv 8)) JB ⟨rfl,rfl,rfl,rfl⟩)) (jC (jO (i:=12) scTm.nd rfl (Or.inl rfl) (jT kO (pv 7) (pv 10))) (jE (NE hu (pv 11) (pv 12) (jT qH (EA hu (pv 11) (pv 12) jF ⟨rfl,rfl,rfl,rfl⟩) (jT kO (pv 6) (pv 9))) rfl))))))) (jE (jM (zR (own:=2) (idx:=[]) (N:=["key","heap"]) rfl rfl rfl (by decide +kernel) (by decide +kernel) (λ_ _ h=>nomatch h) (qN rfl) rfl (λ_ _ _ h=>nomatch h) (vY (BV (pv 4))) (λC fp s2 H2=>show PG (jN _ ["key","heap"] _ _ C fp s2 H2) _ (zK K 2 (kR (jS 0) (kR (jS 1) gNil)))from jY (X:=jN _ ["key","heap"] _ _ C fp s2 H2) rfl (jG (jH (i:=0) (show List.Nodup (["key","heap"]:List Str) by decide +kernel) rfl (Or.inl rfl) (Or.inr rfl)) (jG (jH (i:=1) (show List.Nodup (["key","heap"]:List Str) by decide +kernel) rfl (Or.inl rfl) (Or.inr rfl)) jV))) (λC fp s2 H2=>pv 0) (λC fp s2 H2=>jD GH hr rfl DH.m DH.F.kp DH.b .nil jK (jA (pv 1) jB)))))))), ?_⟩
  try dsimp only[cxK]
  have rne:∀{c:Addr} {kk:List (Key×V)},Rd H c (.dK kk)->∀{d:Addr},H d=none->d≠c:=fun {c kk} r {d} n z=>by
   rw[z]at n;rcases r with r | ⟨o,r⟩<;>rw[r]at n<;>cases n
  refine⟨_,rfl,a,k1,T1,D1,rfl,ra,p1,nd1,by omega,D10,D1b,v1,λe he=>jR (b1 e he) (by decide),λd1 j1 H1 n1 t1 ⟨oa,fa⟩ e1 r1=>?_⟩;have rb1:Rd H1 b (.dK k2):=by
   rcases rb with r | ⟨o,r⟩
   ·exact .inl (t1 _ _ r (Ne.symm ab))
   ·exact .inr ⟨o,t1 _ _ r (Ne.symm ab)⟩
  have d1b:d1≠b:=rne rb n1;refine⟨_,rfl,b,k2,T2,D2,rfl,rb1,Paired.to (λ_ _ h=>h.but ra t1) p2,nd2,by omega,D20,D2b,v2,λe he=>jR (b2 e he) (by decide),λd2 j2 H2 n2 t2 ⟨ob,fb⟩ e2 r2=>?_⟩;have d21:d2≠d1:=λz=>by rw[z,e1]at n2;cases n2
  have e1:H2 d1=some (.dK j1):=t2 _ _ e1 d1b;have r1:Paired (EntR (kN T1) H2) j1 T1:=Paired.to (λ_ _ h=>h.but rb1 t2) r1;have s02:∀c u,H c=some u->c≠a->c≠b->H2 c=some u:=λc u h na nb=>t2 _ _ (t1 _ _ h na) nb;have fr2:∀c,H2 c=none->H c=none:=λc n=>by
   cases q:H c with
   | none=>rfl
   | some u=>
    by_cases ca:c=a
    ·rw[ca,t2 _ _ fa ab]at n;cases n
    ·by_cases cb:c=b
     ·rw[cb,fb]at n;cases n
     ·rw[s02 c u q ca cb]at n;cases n
  have L1:j1.length=T1.length:=Paired.length r1;have L2':j2.length=T2.length:=Paired.length r2;have c1:0<kN T1/\(kN T1).natAbs<2^1400:=⟨zT _,gD (zZ (LW v1) D10) D1b⟩;have c2:0<kN T2/\(kN T2).natAbs<2^1400:=⟨zT _,gD (zZ (LW v2) D20) D2b⟩;have tb:∀{T:Tb} {e:Int×Rat},e∈T->0<kN T->(kN T).natAbs<2^1400->e.2.num.natAbs<2^2400->(e.2.num*(kN T/(e.2.den:Int))).natAbs<2^3800:=fun {T e} he h0 h1 h2=>by
   have dp:=e.2.den_pos;have q:=gD (LwM.zM (kN T) (e.2.den:Int) (by omega)) h1;exact AI (m:=2400) (n:=1400) h2 q
  intro hd nhd;have hd1:d1≠hd:=λz=>by rw[z,nhd]at e1;cases e1
  have hd2:d2≠hd:=λz=>by rw[z,nhd]at e2;cases e2
  refine⟨_,rfl,d1,j1,rfl,.inl (by rw[jL hd1];exact e1),λo1 H4 f1 b4 fr4=>⟨d1,o1,j1,rfl,f1, ?_⟩⟩;have h4:H4 hd=some (.dK []):=b4 _ _ jI (Ne.symm hd1);have s4:B2 d1 d2 H2 H4:=λc u h n1 n2=>b4 c u (by rw[jL (jU h nhd)];exact h) n1;have r24:Rd H4 d2 (.dK j2):=.inl (b4 _ _ (by rw[jL hd2];exact e2) d21);refine zV (M1I H2 a b d1 d2 hd o1 j1 j2 (kN T1*kN T2) T1 T2) (.mk (hs:=[]) s4 f1 r24 ⟨h4,.nil,mF,mF,mX _⟩) (λi σ H5 _ h=>?_) (λi k x p σ H5 hx hp h=>?_) (fun σ H5 h=>?_)
  ·obtain⟨_,f1,_,_⟩:=h;exact f1
  ·obtain⟨s5,f5,r5,I5⟩:=h;obtain⟨e,he,hk,c,hc,ec⟩:=Paired.at r1 hx;have hk:k=.inl e.1:=hk;have hc:x=.ref c:=hc;subst hk hc;have em:=uW he;have il:i<T1.length:=(uQ.mp he).1;have s6:Same H5 (upd H5 p (.tup [kV (.inl e.1),.ref c])):=kB _ hp;have e6:(upd H5 p (.tup [kV (.inl e.1),.ref c])) p=some (.tup [kV (.inl e.1),.ref c]):=jI;generalize upd H5 p (.tup [kV (.inl e.1),.ref c])=H6 at s6 e6;refine⟨p,_,rfl,SqT.of e6,rfl,_,_,rfl,_,_,rfl,c,_,rfl,SqT.of (s6 _ _ (s5.tup e1 e2 ec)),rfl,_,_,rfl,_,_,rfl,rfl,rfl, ?_⟩;refine⟨_,rfl,d2,j2,rfl,ND r5 s6,λo2 H7 f7 b7 fr7=>⟨d2,o2,j2,rfl,f7, ?_⟩⟩;have s7:B2 d1 d2 H2 H7:=λc u h n1 n2=>b7 _ _ (s6 _ _ (s5 c u h n1 n2)) n2;have f17:=b7 _ _ (s6 _ _ f5) (Ne.symm d21);have h57:∀{c:Addr} {kk:List (Key×V)},c≠d2->H5 c=some (.dK kk)->H7 c=some (.dK kk):=λn h=>b7 _ _ (s6 _ _ h) n;rename_i u5 u6 u7 u8 u9 u10 u11 u12 hs;have I7:HpI (kN T1*kN T2) (i*T2.length+0) H2 H7 hd hs ((T1.take i).foldl (JK T2) []):=I5.go (h57 (Ne.symm hd2) I5.e) λc n _ o ho=>b7 _ _ (s6 _ _ ho) (λz=>by rw[z,e2]at n;cases n);have tb1:=tb em c1.1 c1.2 (b1 e em);generalize ht1:e.2.num*(kN T1/(e.2.den:Int))=t1 at tb1;generalize hA:(T1.take i).foldl (JK T2) []=AA at I7;refine zV (M2I H2 a b d1 d2 hd o1 o2 j1 j2 (kN T1*kN T2) i AA T2 e t1 (kN T1)) (.mk s7 f17 f7 I7) (λj σ H8 _ h=>?_) (λj k' x' p' σ H8 hx' hp' h=>?_) (fun σ H8 h=>?_)
   ·obtain⟨_,_,f8,_⟩:=h;exact f8
   ·obtain⟨s8,f8,g8,I8⟩:=h;rename_i w8 w9 w10 w11 w12 hs';obtain⟨e',he',hk',c',hc',ec'⟩:=Paired.at r2 hx';have hk':k'=.inl e'.1:=hk';have hc':x'=.ref c':=hc';subst hk' hc';have em':=uW he';have jl:j<T2.length:=(uQ.mp he').1;have s9:Same H8 (upd H8 p' (.tup [kV (.inl e'.1),.ref c'])):=kB _ hp';have e9:(upd H8 p' (.tup [kV (.inl e'.1),.ref c'])) p'=some (.tup [kV (.inl e'.1),.ref c']):=jI;generalize upd H8 p' (.tup [kV (.inl e'.1),.ref c'])=H9 at s9 e9;refine⟨p',_,rfl,SqT.of e9,rfl,_,_,rfl,_,_,rfl,c',_,rfl,SqT.of (s9 _ _ (s8.tup e1 e2 ec')),rfl,_,_,rfl,_,_,rfl,rfl,rfl, ?_⟩;have tb2:=tb em' c2.1 c2.2 (b2 e' em');have mo:=UX em em';rw[ht1]at mo;generalize e'.2.num*(kN T2/(e'.2.den:Int))=t2 at tb2 mo;have bm:(t1*t2).natAbs<=2^7600:=mT (AI (m:=3800) (n:=3800) tb1 tb2);have st:(T2.take (j+1)).foldl (uG e) AA=xN ((T2.take j).foldl (uG e) AA) (e.1+e'.1) (tv ((T2.take j).foldl (uG e) AA) (e.1+e'.1)+e.2*e'.2):=AW he';have cnt:i*T2.length+j<1000:=by
     have:i*T2.length+T2.length<=T1.length*T2.length:=by
      rw[<-Nat.succ_mul];exact Nat.mul_le_mul_right _ il
     omega
    refine⟨_,rfl,hd,rfl,.inl ⟨_,.inl (s9 _ _ I8.e)⟩,_,rfl,_,rfl,_,_,rfl,rfl,λz nz=>?_⟩;have s10:Same H9 (upd H9 z (.dK [])):=kB _ nz;have e10:(upd H9 z (.dK [])) z=some (.dK []):=jI;generalize upd H9 z (.dK [])=H10 at s10 e10;have I10:=I8.go ((s9.trans s10) _ _ I8.e) λc _ _ o ho=>(s9.trans s10) _ _ ho;have lh:hs'.length=((T2.take j).foldl (uG e) AA).length:=Paired.length I10.pr;have ll:=I10.ln;have f10:=(s9.trans s10) _ _ f8;have g10:=(s9.trans s10) _ _ g8;have b10:B2 d1 d2 H2 H10:=λc u h n1 n2=>(s9.trans s10) _ _ (s8 c u h n1 n2);refine⟨hs',.inl (e.1+e'.1),I10.e,rfl,by rw[lh,sizeLine_eq];omega,λv hv=>?_,λhn=>?_⟩
    ·rcases EU (k:=e.1+e'.1) I10.pr with⟨ii,c,n,hi,ai,hvv,fc,ch,hcn,en,bn⟩ | ⟨hvv,_⟩
     ·rw[hvv]at hv;cases hv;dsimp only[jS];refine⟨_,rfl,_,rfl,_,_,rfl,rfl,⟨jR c1.2 (by decide),jR c2.2 (by decide)⟩, ?_⟩;refine⟨_,rfl,c,rfl,.inl ⟨_,.inl hcn⟩,_,rfl,_,DGet.k (k:=.inl (kN T1*kN T2)) hcn, ?_⟩;rw[ZM];refine⟨_,rfl,_,rfl,_,_,rfl,rfl,⟨jR tb1 (by decide),jR tb2 (by decide)⟩,_,_,rfl,rfl,_,rfl,_,rfl,c,_,rfl,DPut.k (k:=.inl (kN T1*kN T2)) hcn (by show 1<sizeLine;decide), ?_⟩;rw[XM];have cd:∀{d:Addr} {o:HO},H2 d=some o->c≠d:=λh z=>by rw[z,h]at fc;cases fc
      refine .mk (hs:=hs') (λx u h n1 n2=>by rw[jL (Ne.symm (cd h))];exact b10 x u h n1 n2) (by rw[jL (Ne.symm (cd e1))];exact f10) (by rw[jL (Ne.symm (cd e2))];exact g10) ?_;rw[st];exact I10.there hi ai fc ch en bn mo bm
     ·rw[hvv]at hv;cases hv
    ·rcases EU (k:=e.1+e'.1) I10.pr with⟨ii,c,n,hi,ai,hvv,_⟩ | ⟨hvv,nk,out⟩
     ·rw[hvv]at hn;cases hn
     ·rw[IW out];have zh:z≠hd:=λy=>by rw[y,s9 _ _ I8.e]at nz;cases nz
      have fz:H2 z=none:=by
       cases q:H2 z with
       | none=>rfl
       | some u=>
        by_cases y1:z=d1
        ·rw[y1,s9 _ _ f8]at nz;cases nz
        ·by_cases y2:z=d2
         ·rw[y2,s9 _ _ g8]at nz;cases nz
         ·rw[s9 _ _ (s8 z u q y1 y2)]at nz;cases nz
      have nzs:∀p∈hs',p.2≠.ref z:=λp hp y=>by
       obtain⟨ix,hix⟩:=uV.mp hp;obtain⟨ee,_,_,cc,nn,q1,_,_,q2,_⟩:=Paired.at I8.pr hix;rw[y]at q1;cases q1;rw[s9 _ _ q2]at nz;cases nz
      have ez:(upd H10 hd (.dK (hs'++[(.inl (e.1+e'.1),.ref z)]))) z=some (.dK []):=by rw[jL zh];exact e10
      dsimp only[jS];refine⟨_,rfl,_,rfl,_,_,rfl,rfl,⟨jR c1.2 (by decide),jR c2.2 (by decide)⟩, ?_⟩;refine⟨_,rfl,z,rfl,.inl ⟨_,.inl ez⟩,_,rfl,_,DGet.k (k:=.inl (kN T1*kN T2)) ez, ?_⟩;refine⟨_,rfl,_,rfl,_,_,rfl,rfl,⟨jR tb1 (by decide),jR tb2 (by decide)⟩,_,_,rfl,rfl,_,rfl,_,rfl,z,_,rfl,DPut.k (k:=.inl (kN T1*kN T2)) ez (by show 0<sizeLine;decide), ?_⟩;rw[XN,Int.zero_add];have cd:∀{d:Addr} {o:HO},H2 d=some o->d≠z/\d≠hd:=λh=>⟨(λy=>by rw[y,fz]at h;cases h),(λy=>by rw[y,nhd]at h;cases h)⟩;refine .mk (hs:=hs'++[(.inl (e.1+e'.1),.ref z)]) (λx u h n1 n2=>by rw[jL (cd h).1,jL (cd h).2];exact b10 x u h n1 n2) (by rw[jL (cd e1).1,jL (cd e1).2];exact f10) (by rw[jL (cd e2).1,jL (cd e2).2];exact g10) ?_;rw[st];exact I10.new nk fz zh nzs mo bm
   ·obtain⟨s8,f8,g8,I8⟩:=h;rename_i hs';rw[L2',gW,<-Nat.succ_mul]at I8;refine .mk (hs:=hs') s8 f8 (.inr ⟨o2,g8⟩) ?_;rw[AW he,hA];exact I8
  ·obtain⟨s5,f5,r5,I5⟩:=h;rw[L1,gW]at I5;rename_i u5 u6 u7 u8 u9 u10 u11 u12 hs;have I5:HpI (kN T1*kN T2) (T1.length*T2.length) H2 H5 hd hs (xD T1 T2):=I5;generalize hA:xD T1 T2=A at I5 go;have lA:hs.length=A.length:=Paired.length I5.pr;have ll:=I5.ln;have M0:0<kN T1*kN T2:=mY c1.1 c2.1;have Mb:(kN T1*kN T2).natAbs<2^7800:=jR (AI c1.2 c2.2) (by decide);have fr5:∀c,H5 c=none->H2 c=none:=λc n=>by
    cases q:H2 c with
    | none=>rfl
    | some u=>
     by_cases y1:c=d1
     ·rw[y1,f5]at n;cases n
     ·by_cases y2:c=d2
      ·rw[y2]at n;rcases r5 with r | ⟨o,r⟩<;>rw[r]at n<;>cases n
      ·rw[s5 c u q y1 y2]at n;cases n
   refine⟨_,rfl,hd,hs,rfl,.inl I5.e,λoh H6 f6 b6 fr6=>⟨hd,oh,hs,rfl,f6,λd H7 n7 s7 e7=>?_⟩⟩;have pr6:Paired (EntH (kN T1*kN T2) (T1.length*T2.length) H2 H6 hd) hs A:=Paired.to (λ_ _ h=>h.go (λc _ _ ch o ho=>b6 _ _ ho ch) uJ) I5.pr;have d2n:H2 d=none:=fr5 d (fr6 d n7);have dn:H d=none:=fr2 d d2n;have s26:∀c u,H2 c=some u->c≠d1->c≠d2->H6 c=some u:=λc u h y1 y2=>b6 _ _ (s5 c u h y1 y2) (λz=>by rw[z,nhd]at h;cases h);have nd2':H d2=none:=by
    cases q:H d2 with
    | none=>rfl
    | some u=>
     by_cases y1:d2=a
     ·rw[y1,fa]at n2;cases n2
     ·rw[t1 _ _ q y1]at n2;cases n2
   have dhd:hd≠d:=λz=>by rw[<-z,f6]at n7;cases n7
   refine xM (FnI K (kN T1*kN T2) (T1.length*T2.length) H H2 d1 d2 d hd oh hs A) (by rw[lA,sizeLine_eq];omega) ⟨λc u h na nb=>s7 _ _ (s26 c u h na nb),s7 _ _ f6,e7,λjj kv x _ h1 h2=>(EF pr6 h1 h2).go (λc _ _ _ o ho=>s7 _ _ ho) uJ,.nil⟩ (λi ys H8 h=>⟨h.f,h.e, ?_⟩) ?_ ?_
   ·have:=Paired.length h.pr;rw[this,gT];omega
   ·intro i m ys k x cp H8 hx hm h hcp;have il:i<A.length:=by rw[<-lA];exact(uQ.mp hx).1
    have hAi:A[i]? = some A[i]:=uR il;generalize A[i]=e at hAi;have E0:=h.later i _ e uJ hx hAi;have E6:=EF pr6 hx hAi;obtain⟨hk,c,n,hc,fc,ch,h8c,en,bn⟩:=E0;have hk:k=.inl e.1:=hk;have hc:x=.ref c:=hc;subst hk hc;have cd:c≠d:=λz=>by
     obtain⟨_,c6,_,q1,_,_,q2,_⟩:=E6;cases q1;rw[z,n7]at q2;cases q2
    have s9:Same H8 (upd H8 cp (.tup [kV (.inl e.1),.ref c])):=kB _ hcp;have e9:(upd H8 cp (.tup [kV (.inl e.1),.ref c])) cp=some (.tup [kV (.inl e.1),.ref c]):=jI;generalize upd H8 cp (.tup [kV (.inl e.1),.ref c])=H9 at s9 e9;have h9c:=s9 _ _ h8c;have nb:n.natAbs<2^7800:=gD bn (gD (Nat.mul_le_mul_right _ (show T1.length*T2.length<=2^10 from mN l12 (by decide))) (by rw[<-Nat.pow_add];exact uZ (by decide) (by decide)));refine⟨cp,_,rfl,SqT.of e9,rfl,_,_,rfl,_,_,rfl,rfl,BH,_,rfl,_,rfl,c,_,n,rfl,h9c,M0,Mb,nb,λv H10 b10 nv=>?_⟩;have hM:((kN T1*kN T2:Int):Rat)≠0:=λz=>by
     have:kN T1*kN T2=0:=Rat.intCast_inj.mp (by rw[z];rfl);omega
    have nv:NumH H10 v e.2:=by
     have:((n:Int):Rat)/((kN T1*kN T2:Int):Rat)=e.2:=by rw[en,Rat.mul_div_cancel hM]
     rw[this]at nv;exact nv
    have e10:=b10 _ _ (s9 _ _ h.e) (Ne.symm cd);refine⟨.inl e.1,rfl,e10,zY hx hm ⟨λx u hx' na nb=>?_, ?_,jI,λjj kv y hj h1 h2=>?_, ?_⟩⟩
    ·rw[jL (λz=>by rw[z,d2n]at hx';cases hx')];exact b10 _ _ (s9 _ _ (h.s x u hx' na nb)) (λz=>by rw[z,fc]at hx';cases hx')
    ·rw[jL dhd];exact b10 _ _ (s9 _ _ h.f) (Ne.symm ch)
    ·refine(h.later jj kv y (by omega) h1 h2).go (λc' hc' _ _ o ho=>?_) uJ ;have c'c:c'≠c:=λz=>by
      subst z;have j1:(hs.map (·.2))[jj]? = some (.ref c'):=by rw[gM,h1];exact congrArg some hc'
      have j2:(hs.map (·.2))[i]? = some (.ref c'):=by rw[gM,hx];rfl
      have:=(List.getElem?_inj (uQ.mp j1).1 I5.nd).mp (j1.trans j2.symm);omega
     have c'd:c'≠d:=λz=>by
      obtain⟨_,c6,_,q1,_,_,q2,_⟩:=EF pr6 h1 h2;rw[hc']at q1;cases q1;rw[z,n7]at q2;cases q2
     rw[jL c'd];exact b10 _ _ (s9 _ _ ho) c'c
    ·have k1:Paired (EntQ K H10) ys (A.take i):=Paired.to (λ_ _ q=>(q.same s9).but (.inl h9c) b10) h.pr;have k:=AB (k:=e.1) k1 nv;have eq:xN (A.take i) e.1 e.2=A.take (i+1):=by
      rw[zA (zH hAi I5.ndA),gO,hAi]
      rfl
     rw[eq]at k;exact Paired.to (λ_ _ q=>q.upd e10) k
   ·intro ys H8 h;have pr8:=h.pr;rw[lA,gW]at pr8;exact go d ys H8 dn (λc u hc na nb=>h.s c u (s02 c u hc na nb) (λz=>by rw[z,n1]at hc;cases hc) (λz=>by rw[z,nd2']at hc;cases hc)) (.inr ⟨ob,h.s b _ fb (Ne.symm d1b) (λz=>by rw[z,e2]at fb;cases fb)⟩) h.e pr8
structure MulA(T1 T2:Tb)(B:Nat)(A:Tb):Prop where
 nd:(A.map (·.1)).Nodup
 ks:∀k∈A.map (·.1),∃e1∈T1,∃e2∈T2,k=e1.1+e2.1
 ln:A.length<=B
theorem MulA.step{T1 T2 A:Tb}{B:Nat}{e1 e2:Int×Rat}(h:MulA T1 T2 B A)(h1:e1∈T1)(h2:e2∈T2):MulA T1 T2 (B+1) (uG e1 A e2):=by
 refine⟨yE h.nd,λk hk=>?_, ?_⟩
 ·unfold uG at hk;rw[zJ]at hk;split at hk
  ·exact h.ks k hk
  ·rcases mB.mp hk with hk | hk
   ·exact h.ks k hk
   ·exact⟨e1,h1,e2,h2,gH.mp hk⟩
 ·have l:=congrArg List.length (zJ A (e1.1+e2.1) (tv A (e1.1+e2.1)+e1.2*e2.2));rw[hU]at l;unfold uG;rw[l];have:=h.ln;split
  ·rw[hU];omega
  ·rw[gE,hU];show A.length+1<=B+1;omega
theorem NQ{T1 T2:Tb}{e1:Int×Rat}(h1:e1∈T1):∀(l:Tb) {A:Tb} {B:Nat},(∀e∈l,e∈T2)->MulA T1 T2 B A->MulA T1 T2 (B+l.length) (l.foldl (uG e1) A)
 | [],A,B,_,h=>h
 | e::l,A,B,sub,h=>by
  have:=NQ h1 l (λx hx=>sub x (uX _ hx)) (h.step h1 (sub e (gJ ..)));rw[gX,show B+(l.length+1)=B+1+l.length by omega];exact this
theorem NP{T1 T2:Tb} :∀(l:Tb) {A:Tb} {B:Nat},(∀e∈l,e∈T1)->MulA T1 T2 B A->MulA T1 T2 (B+l.length*T2.length) (l.foldl (JK T2) A)
 | [],A,B,_,h=>by rw[List.length_nil,Nat.zero_mul];exact h
 | e::l,A,B,sub,h=>by
  have:=NP l (λx hx=>sub x (uX _ hx)) (NQ (sub e (gJ ..)) T2 (λ_ h=>h) h);rw[gX,Nat.succ_mul,show B+(l.length*T2.length+T2.length)=B+T2.length+l.length*T2.length by omega];exact this
theorem FN(T1 T2:Tb):MulA T1 T2 (T1.length*T2.length) (xD T1 T2):=by
 have:=NP (T1:=T1) (T2:=T2) T1 (A:=[]) (B:=0) (λ_ h=>h) ⟨mF,(λ_ h=>nomatch h),mW _⟩;rw[Nat.zero_add]at this;exact this
def qC(a b:List Int):List Int:=List.zipWith (· + ·) a b
theorem LK:∀(n:Nat) {a b:List Int},a.length=n->b.length=n->pk (qC a b)=pk a+pk b
 | 0,a,b,h1,h2=>by rw[List.length_eq_zero_iff.mp h1,List.length_eq_zero_iff.mp h2];rfl
 | n+1,a,b,h1,h2=>by
  obtain⟨m,y,rfl,hm⟩:=yI h1;obtain⟨m',y',rfl,hm'⟩:=yI h2;unfold qC;rw[List.zipWith_append (by omega),zQ,zQ];show pk (qC m m'++[y+y'])=_;rw[zQ,LK n hm hm'];omega
theorem uD:∀{a b:List Int},a.length=b.length->(qC a b).sum=a.sum+b.sum
 | [],[],_=>rfl
 | x::a,y::b,h=>by
  have ih:=uD (a:=a) (b:=b) (by simpa using h);show x+y+(qC a b).sum=x+a.sum+(y+b.sum);omega
theorem HQ:∀{a b:List Int},(∀n∈a,0<=n)->(∀n∈b,0<=n)->∀n∈qC a b,0<=n
 | [],_,_,_,n,h=>by simp [qC]at h
 | _::_,[],_,_,n,h=>by simp [qC]at h
 | x::a,y::b,h1,h2,n,h=>by
  have h:n∈(x+y)::qC a b:=h;rcases mI.mp h with rfl | h
  ·have:=h1 x (gJ ..);have:=h2 y (gJ ..);omega
  ·exact HQ (λn hn=>h1 n (uX _ hn)) (λn hn=>h2 n (uX _ hn)) n h
theorem UY{aa:Nat}{P1 P2:Pl}(o1:PlOk aa P1)(o2:PlOk aa P2)(hd:vL P1+vL P2<=16):∀k∈(xD (jP P1) (jP P2)).map (·.1),KyP aa k:=λk hk=>by
 obtain⟨e1,h1,e2,h2,rfl⟩:=(FN _ _).ks k hk;obtain⟨x,hx,rfl⟩:=mP.mp h1;obtain⟨y,hy,rfl⟩:=mP.mp h2;have lx:=o1.len x hx;have ly:=o2.len y hy;have dx:x.1.sum<=vL P1:=uH (List.mem_map_of_mem (f:=λz=>z.1.sum) hx);have dy:y.1.sum<=vL P2:=uH (List.mem_map_of_mem (f:=λz=>z.1.sum) hy);refine⟨qC x.1 y.1,by unfold qC;rw[List.length_zipWith];omega,HQ (o1.nn x hx) (o2.nn y hy), ?_,(LK aa lx ly).symm⟩;rw[uD (by omega)];omega
structure PlB(P:Pl)(D:Int):Prop where
 pos:0<D
 sd:D.natAbs<2^1400
 dv:∀x∈P,(x.2.den:Int)∣D
 nb:∀x∈P,x.2.num.natAbs<2^2400
def yH(K:nI):Sp:=λvs H Q _=>∃(p1 p2:Addr) (aa:Nat) (P1 P2:Pl) (D1 D2:Int),vs=[.ref p1,.ref p2]/\SumQ K H p1 aa P1/\SumQ K H p2 aa P2/\PlOk aa P1/\PlOk aa P2/\P1.length*P2.length<=60/\vL P1+vL P2<=16/\PlB P1 D1/\PlB P2 D2/\
 ∀(p:Addr) (P:Pl) (H':Hp),H p=none->Same H H'->SumQ K H' p aa P->SumT aa (xD (jP P1) (jP P2)) P->Q (.ref p) H'
theorem scTi:FnScope ["one","other","reached"] ["one","other"] (jJ yX):=⟨rfl,rfl,rfl,by decide +kernel,rfl,by decide +kernel,by decide +kernel⟩
theorem UD{fD fT fM fS:Addr}{fdD fdT fdM fdS:FuncData}(F:Fun K "times" "times" yX f fd)(T:Txt mg)(DD:Df K mg "degree" yJ ["one"] fD fdD)(GD:FnOk P w K mg base CX0 1 fD fdD ["one"] (CS K))(DT:Df K mg "table_of" yY ["one"] fT fdT)(GT:FnOk P w K mg base CX0 2 fT fdT ["one"] (BP K))(DM:Df K mg "tables_multiplied" BQ ["one","other"] fM fdM)(GM:FnOk P w K mg base CX0 5 fM fdM ["one","other"] (IN K))(DS:Df K mg "sum_of" wJ ["many","table"] fS fdS)(GS:FnOk P w K mg base CX0 2 fS fdS ["many","table"] (wV K)):FnOk P w K mg base CX0 6 f fd ["one","other"] (yH K):=by
 obtain⟨td,hd⟩:=T.degree;refine F.ok scTi (λvs H Q E h=>?_) (λcdv A outer s H vs Q E hr h=>?_)
 ·obtain⟨p1,p2,aa,P1,P2,D1,D2,rfl,_⟩:=h
  rfl
 ·obtain⟨p1,p2,aa,P1,P2,D1,D2,rfl,q1,q2,o1,o2,ln,dg,B1,B2',go⟩:=h;have hr1:Room 1 _:=hr.mono (by decide);have hr2:Room 2 _:=hr.mono (by decide);refine⟨_,jC (jO (i:=2) scTi.nd rfl (Or.inl rfl) (jT qH (jD GD hr1 rfl DD.m DD.F.kp DD.b .nil jK (jA (pv 0) jB)) (jD GD hr1 rfl DD.m DD.F.kp DD.b .nil jK (jA (pv 1) jB)))) (jC (kT (kI uE (pv 2) (kL (v:=.int 16) (by rfl) hd ⟨_,rfl⟩) (kD _)) (jE (yD)) kC) (jE (jM (jD GS hr2 rfl DS.m DS.F.kp DS.b .nil jK (jA (kG kJ (pv 0) jF (λ_ _=>rfl)) (jA (jD GM hr rfl DM.m DM.F.kp DM.b .nil jK (jA (jD GT hr2 rfl DT.m DT.F.kp DT.b .nil jK (jA (pv 0) jB)) (jA (jD GT hr2 rfl DT.m DT.F.kp DT.b .nil jK (jA (pv 1) jB)) jB))) jB)))))), ?_⟩;try dsimp only[cxK]
  have f1:=o1.few;have f2:=o2.few;refine⟨_,rfl,p1,aa,16,P1,rfl,q1,o1.pd,o1.m4,by decide,by omega,λH1 s1=>⟨_,rfl,p2,aa,16,P2,rfl,q2.same s1,o2.pd,o2.m4,by decide,by omega,λH2 s2=>⟨_,_,rfl,rfl, ?_⟩⟩⟩;dsimp only[jS];refine⟨_,rfl,_,_,rfl,rfl,_,rfl,xE (hW (by omega)) ?_⟩;have s02:=s1.trans s2;obtain⟨qq,xs,e1,_⟩:=(q1.same s02).ex;refine⟨_,rfl,p1,_,_,_,rfl,rfl,SqT.of e1,rfl,_,rfl,p1,aa,P1,rfl,q1.same s02,o1,λda k1 H3 n3 s3 ea pa=>?_⟩;refine⟨_,rfl,p2,aa,P2,rfl,q2.same (s02.trans s3),o2,λdb k2 H4 n4 s4 eb pb=>?_⟩;have dab:da≠db:=λz=>by rw[<-z,ea]at n4;cases n4
  have sm:∀{P:Pl},PlOk aa P->∀e∈jP P,e.1.natAbs<2^40:=fun {P} o e he=>by
   obtain⟨x,hx,rfl⟩:=mP.mp he;exact jR (DK (o.byt hx) (by rw[o.len x hx];exact o.m4)) (by decide)
  have tE:∀{P:Pl} {D:Int},PlB P D->(∀e∈jP P,(e.2.den:Int)∣D)/\(∀e∈jP P,e.2.num.natAbs<2^2400):=fun {P D} B=>⟨λe he=>by obtain⟨x,hx,rfl⟩:=mP.mp he;exact B.dv x hx,λe he=>by obtain⟨x,hx,rfl⟩:=mP.mp he;exact B.nb x hx⟩;refine⟨da,db,k1,k2,jP P1,jP P2,D1,D2,rfl,dab,.inl (s4 _ _ ea),.inl eb,Paired.to (λ_ _ h=>h.same s4) pa,pb,o1.nd,o2.nd,by rw[qF];exact f1,by rw[qF];exact f2,by rw[qF,qF];omega,B1.pos,B1.sd,B2'.pos,B2'.sd,(tE B1).1,(tE B2').1,(tE B1).2,(tE B2').2,sm o1,sm o2,λd ks H5 n5 b5 _ e5 p5=>?_⟩;have s05:Same H H5:=λc u h=>b5 c u ((s02.trans (s3.trans s4)) _ _ h) (λz=>by rw[z,s02.free n3]at h;cases h) (λz=>by rw[z,(s02.trans s3).free n4]at h;cases h);have ma:=FN (jP P1) (jP P2);refine⟨d,aa,ks,_,rfl,.inl e5,p5,ma.nd,by have:=ma.ln;rw[qF,qF]at this;omega,UY o1 o2 dg,o1.m1,o1.m4,λp PP H6 n6 s6 SQ ST=>go p PP H6 (s05.free n6) (s05.trans s6) SQ ST⟩
theorem add_ok{T1 T2:Tb}(n1:(T1.map (·.1)).Nodup)(n2:(T2.map (·.1)).Nodup):AddT T1 T2 (addT T1 T2):=by
 have key:∀i,i<=T2.length->AddT T1 (T2.take i) ((T2.take i).foldl RE T1):=by
  intro i;induction i with
  | zero=>exact λ_=>⟨n1,λk hk=>.inl hk,Nat.le_add_right ..,λk=>(mR _).symm⟩
  | succ i ih=>
   intro h;have he:T2[i]? = some T2[i]:=uR (by omega);have:=(ih (by omega)).step he n2;rw[AW he];exact this
 have:=key T2.length uJ ;rw[gW]at this;exact this
theorem Ov.mul{D E:Int}{n m:Nat}{x y:Rat}(h:Ov D n x)(k:Ov E m y)(hD:0<D)(hE:0<E):Ov (D*E) (n+m) (x*y):=by
 obtain⟨a,rfl,ha⟩:=h.ex;obtain⟨b,rfl,hb⟩:=k.ex;refine⟨a*b, ?_, ?_⟩
 ·unfold fv;have h1:((D:Int):Rat)≠0:=λz=>by have:D=0:=Rat.intCast_inj.mp (by rw[z];rfl);omega
  have h2:((E:Int):Rat)≠0:=λz=>by have:E=0:=Rat.intCast_inj.mp (by rw[z];rfl);omega
  rw[Rat.intCast_mul,Rat.intCast_mul,Rat.div_def,Rat.div_def,Rat.div_def,Rat.inv_mul_rev]
  grind
 ·rw[mD,Nat.pow_add];exact mE ha hb
theorem uF{α:Type} [BEq α] [LawfulBEq α]:∀{l m:List α},l.Nodup->(∀x∈l,x∈m)->l.length<=m.length
 | [],_,_,_=>mX _
 | a::l,m,nd,h=>by
  rw[List.nodup_cons]at nd;have ha:=h a (gJ ..);have ih:=uF (l:=l) (m:=m.erase a) nd.2 λx hx=>(List.mem_erase_of_ne (λz:x=a=>nd.1 (z▸hx))).mpr (h x (uX _ hx));rw[List.length_erase_of_mem ha]at ih;have:=List.length_pos_of_mem ha;rw[gX];omega
theorem Ov.dn{D:Int}{n m:Nat}{x:Rat}(h:Ov D n x)(hD:0<D)(k:n<m):(x.den:Int)∣D/\x.num.natAbs<2^m:=by
 obtain⟨z,e,hz⟩:=h.ex;have q:=AC hD e;exact⟨q.1,gD (mN q.2 hz) (uZ (by decide) k)⟩
def lf(m:Int->Rat):Tb->Rat
 | []=>0
 | e::T=>e.2*m e.1+lf m T
theorem kQ(m:Int->Rat)(e:Int×Rat)(T:Tb):lf m (e::T)=e.2*m e.1+lf m T:=rfl
theorem VG(m:Int->Rat):∀A B:Tb,lf m (A++B)=lf m A+lf m B
 | [],B=>(mQ _).symm
 | e::A,B=>by rw[List.cons_append,kQ,kQ,VG m A B,Rat.add_assoc]
theorem EL{m m':Int->Rat} :∀{T:Tb},(∀e∈T,m e.1=m' e.1)->lf m T=lf m' T
 | [],_=>rfl
 | e::T,h=>by rw[kQ,kQ,h e (gJ ..),EL λe' he=>h e' (uX _ he)]
theorem VE{m:Int->Rat}{k:Int}{x:Rat} :∀{T:Tb},k∈T.map (·.1)->(T.map (·.1)).Nodup->lf m (T.map λe=>if e.1=k then(e.1,x)else e)=lf m T+(x-tv T k)*m k
 | [],h,_=>nomatch h
 | e::T,h,nd=>by
  rw[mH,List.nodup_cons]at nd;rw[mH,kQ,kQ,kP];by_cases q:e.1=k
  ·rw[nH q,nH q];have:T.map (λe=>if e.1=k then(e.1,x)else e)=T:=by
    conv=>rhs;rw[<-List.map_id T]
    refine List.map_congr_left λa ha=>?_;rw[nG (λz=>nd.1 (by rw[q,<-z];exact List.mem_map_of_mem ha))]
    rfl
   rw[this];show x*m e.1+_=_;rw[q]
   grind
  ·rw[nG q,nG q];have r:k∈T.map (·.1):=by
    rcases mP.mp h with⟨a,ha,e1⟩
    rcases mI.mp ha with rfl | ha
    ·exact absurd e1 q
    ·exact e1▸List.mem_map_of_mem ha
   rw[VE r nd.2]
   grind
theorem VC{m:Int->Rat}{T:Tb}(nd:(T.map (·.1)).Nodup)(k:Int)(x:Rat):lf m (xN T k x)=lf m T+(x-tv T k)*m k:=by
 by_cases h:k∈T.map (·.1)
 ·unfold xN;rw[nH (any_key.mpr h)];exact VE h nd
 ·rw[zA h,VG,qL h];show lf m T+(x*m k+0)=_
  grind
theorem OE(m:Int->Rat):∀(T2:Tb) {A:Tb},(A.map (·.1)).Nodup->lf m (T2.foldl RE A)=lf m A+lf m T2
 | [],A,_=>(mR _).symm
 | e::T,A,nd=>by
  rw[List.foldl_cons,OE m T (show((RE A e).map (·.1)).Nodup from yE nd),kQ];unfold RE;rw[VC nd]
  grind
theorem lf_add(m:Int->Rat){A:Tb}(B:Tb)(nd:(A.map (·.1)).Nodup):lf m (addT A B)=lf m A+lf m B:=OE m B nd
theorem OC(m:Int->Rat)(e1:Int×Rat):∀(T2:Tb) {A:Tb},(A.map (·.1)).Nodup->lf m (T2.foldl (uG e1) A)=lf m A+e1.2*lf (λb=>m (e1.1+b)) T2/\((T2.foldl (uG e1) A).map (·.1)).Nodup
 | [],A,nd=>⟨by show _=_+e1.2*0;grind,nd⟩
 | e::T,A,nd=>by
  have n2:((uG e1 A e).map (·.1)).Nodup:=yE nd;have ih:=OC m e1 T n2;rw[List.foldl_cons];refine⟨?_,ih.2⟩;rw[ih.1,kQ];unfold uG;rw[VC nd]
  grind
theorem OD(m:Int->Rat)(T2:Tb):∀(T1:Tb) {A:Tb},(A.map (·.1)).Nodup->lf m (T1.foldl (JK T2) A)=lf m A+lf (λa=>lf (λb=>m (a+b)) T2) T1
 | [],A,nd=>by show _=_+(0:Rat);grind
 | e::T,A,nd=>by
  have h:=OC m e T2 nd;rw[List.foldl_cons,OD m T2 T (show((JK T2 A e).map (·.1)).Nodup from h.2),kQ];unfold JK;rw[h.1]
  grind
theorem VD(m:Int->Rat)(A B:Tb):lf m (xD A B)=lf (λa=>lf (λb=>m (a+b)) B) A:=by
 unfold xD;rw[OD m B A (A:=[]) mF];exact mQ _
theorem OA(m m':Int->Rat):∀T:Tb,lf (λk=>m k+m' k) T=lf m T+lf m' T
 | []=>(mQ _).symm
 | e::T=>by rw[kQ,kQ,kQ,OA m m' T];grind
theorem OB(m:Int->Rat)(c:Rat):∀T:Tb,lf (λk=>m k*c) T=lf m T*c
 | []=>(mS _).symm
 | e::T=>by rw[kQ,kQ,OB m c T];grind
theorem NY:∀T:Tb,lf (λ_=>0) T=0
 | []=>rfl
 | e::T=>by rw[kQ,NY T];grind
theorem NZ(m:Int->Int->Rat)(B:Tb):∀A:Tb,lf (λa=>lf (λb=>m a b) B) A=lf (λb=>lf (λa=>m a b) A) B
 | []=>(NY B).symm
 | e::A=>by
  rw[kQ,NZ m B A];have:(λb=>lf (λa=>m a b) (e::A))=λb=>m e.1 b*e.2+lf (λa=>m a b) A:=by funext b;rw[kQ,mU]
  rw[this,OA,OB,mU]
def dl(k j:Int):Rat:=if j=k then 1 else 0
theorem VF{k:Int} :∀{T:Tb},(T.map (·.1)).Nodup->lf (dl k) T=tv T k
 | [],_=>rfl
 | e::T,nd=>by
  rw[mH,List.nodup_cons]at nd;rw[kQ,kP,VF nd.2];unfold dl;by_cases q:e.1=k
  ·rw[nH q,nH q,qL (by rw[<-q];exact nd.1)]
   grind
  ·rw[nG q,nG q]
   grind
def sk(f:Int->Rat):List Int->Rat
 | []=>0
 | k::K=>f k+sk f K
theorem MP(f g:Int->Rat):∀K,sk (λk=>f k+g k) K=sk f K+sk g K
 | []=>(mQ _).symm
 | k::K=>by show f k+g k+sk _ K=f k+sk f K+(g k+sk g K);rw[MP f g K];grind
theorem SN{f:Int->Rat}{j:Int} :∀{K:List Int},j∈K->K.Nodup->(∀k,k≠j->f k=0)->sk f K=f j
 | [],h,_,_=>nomatch h
 | k::K,h,nd,z=>by
  rw[List.nodup_cons]at nd;show f k+sk f K=_;by_cases q:k=j
  ·subst q;have:∀{K:List Int},k∉K->sk f K=0:=fun {K} =>by
    induction K with
    | nil=>exact λ_=>rfl
    | cons a K ih=>intro h;show f a+sk f K=0;rw[ih λy=>h (uX _ y),z a (λy=>h (y▸gJ ..)),mQ]
   rw[this nd.1,mR]
  ·rw[z k q,mQ];exact SN ((mI.mp h).resolve_left (Ne.symm q)) nd.2 z
theorem MO{f:Int->Rat}(z:∀k,f k=0):∀K:List Int,sk f K=0
 | []=>rfl
 | k::K=>by show f k+sk f K=0;rw[z,MO z K,mQ]
theorem HV{m:Int->Rat}{K:List Int}(nK:K.Nodup):∀{T:Tb},(T.map (·.1)).Nodup->(∀e∈T,e.1∈K)->lf m T=sk (λk=>tv T k*m k) K
 | [],_,_=>(MO (λk=>mS _) K).symm
 | e::T,nd,h=>by
  rw[mH,List.nodup_cons]at nd;have ih:=HV (m:=m) nK nd.2 λe' he=>h e' (uX _ he);have:(λk=>tv (e::T) k*m k)=λk=>(if k=e.1 then e.2*m k else 0)+tv T k*m k:=by
   funext k
   rw[kP];by_cases q:e.1=k
   ·rw[nH q,nH q.symm,qL (T:=T) (by rw[<-q];exact nd.1)]
    grind
   ·rw[nG q,nG (Ne.symm q)]
    grind
  rw[kQ,ih,this,MP,SN (h e (gJ ..)) nK λk q=>nG q,nH rfl]
theorem LO{m:Int->Rat}{A B:Tb}(nA:(A.map (·.1)).Nodup)(nB:(B.map (·.1)).Nodup)(h:∀k,tv A k=tv B k):lf m A=lf m B:=by
 have nK:(A.map (·.1)++(B.map (·.1)).filter λk=>decide (k∉A.map (·.1))).Nodup:=by
  rw[List.nodup_append];refine⟨nA,nB.filter _,λa ha b hb=>?_⟩;rintro rfl;exact gP (List.mem_filter.mp hb).2 ha
 rw[HV nK nA λe he=>List.mem_append_left _ (List.mem_map_of_mem he),HV nK nB λe he=>?_]
 ·congr 1
  funext k
  rw[h]
 ·by_cases q:e.1∈A.map (·.1)
  ·exact List.mem_append_left _ q
  ·exact uT _ (List.mem_filter.mpr ⟨List.mem_map_of_mem he,mC q⟩)
theorem lf_ov{m:Int->Rat}{D:Int}{n:Nat}(hD:0<D):∀{T:Tb},(∀e∈T,Ov D n (e.2*m e.1))->∃z:Int,lf m T=fv z D/\z.natAbs<=T.length*2^n
 | [],_=>⟨0,(show(0:Rat)=_ by unfold fv;rw[show((0:Int):Rat)=0 from rfl,Rat.div_def,mS]),mX _⟩
 | e::T,h=>by
  obtain⟨z,e1,h1⟩:=lf_ov hD λe' he=>h e' (uX _ he);obtain⟨y,e2,h2⟩:=(h e (gJ ..)).ex;refine⟨y+z,by rw[kQ,e1,e2,IB hD], ?_⟩;rw[gX,Nat.succ_mul];omega
theorem lf_ov2{m:Int->Rat}{D:Int}{n c:Nat}(hD:0<D){T:Tb}(h:∀e∈T,Ov D n (e.2*m e.1))(l:T.length<=2^c):Ov D (n+c) (lf m T):=by
 obtain⟨z,e,hz⟩:=lf_ov hD h;refine⟨z,e,mN hz ?_⟩;rw[Nat.add_comm,Nat.pow_add];exact Nat.mul_le_mul_right _ l
theorem tv_mul{A B:Tb}(nA:(A.map (·.1)).Nodup)(k:Int):tv (xD A B) k=lf (λb=>tv A (k-b)) B:=by
 rw[<-VF (FN A B).nd,VD,NZ];refine EL λb _=>?_;rw[<-VF nA];refine EL λa _=>?_;unfold dl;by_cases q:a.1+b.1=k
 ·rw[nH q,nH (by omega)]
 ·rw[nG q,nG (by omega)]
theorem ov_tv{D:Int}{n:Nat}{T:Tb}(h:∀e∈T,Ov D n e.2)(k:Int):Ov D n (tv T k):=by
 rcases RK (T:=T) (k:=k)with z | ⟨e,he,z⟩
 ·rw[z];exact .zero _ _
 ·rw[<-z];exact h e he
theorem ov_mul{A B:Tb}{D E:Int}{n m c:Nat}(nA:(A.map (·.1)).Nodup)(hD:0<D)(hE:0<E)(hA:∀e∈A,Ov D n e.2)(hB:∀e∈B,Ov E m e.2)(l:B.length<=2^c)(k:Int):Ov (D*E) (n+m+c) (tv (xD A B) k):=by
 rw[tv_mul nA];refine lf_ov2 (mY hD hE) (λe he=>?_) l;rw[mU];exact(ov_tv hA _).mul (hB e he) hD hE
def el(μ:List Int->Rat):Pl->Rat
 | []=>0
 | x::P=>x.2*μ x.1+el μ P
theorem xL(μ:List Int->Rat)(x:List Int×Rat)(P:Pl):el μ (x::P)=x.2*μ x.1+el μ P:=rfl
theorem xS{μ ν:List Int->Rat} :∀{P:Pl},(∀x∈P,μ x.1=ν x.1)->el μ P=el ν P
 | [],_=>rfl
 | x::P,h=>by rw[xL,xL,h x (gJ ..),xS λy hy=>h y (uX _ hy)]
theorem OK(μ ν:List Int->Rat):∀P:Pl,el (λn=>μ n+ν n) P=el μ P+el ν P
 | []=>(mQ _).symm
 | x::P=>by rw[xL,xL,xL,OK μ ν P];grind
theorem CA(μ:List Int->Rat)(c:Rat):∀P:Pl,el (λn=>μ n*c) P=el μ P*c
 | []=>(mS _).symm
 | x::P=>by rw[xL,xL,CA μ c P];grind
theorem VW(ns:List Int):∀P:Pl,cf P ns=el (λm=>if m=ns then 1 else 0) P
 | []=>rfl
 | x::P=>by
  rw[CG,xL,VW ns P];by_cases q:x.1=ns
  ·rw[nH q,nH q,Rat.mul_one]
  ·rw[nG q,nG q,Rat.mul_zero]
theorem HU(m:Int->Rat):∀P:Pl,lf m (jP P)=el (λn=>m (pk n)) P
 | []=>rfl
 | x::P=>by show x.2*m (pk x.1)+lf m (jP P)=_;rw[HU m P];rfl
theorem byt_of{ns:List Int}(h:∀n∈ns,0<=n)(h2:ns.sum<=255):Byt ns:=λn hn=>by
 have h3:=(yO h hn).1;have h4:=h n hn;omega
theorem AX{aa:Nat}{P:Pl}(ok:PlOk aa P)(μ:List Int->Rat):el μ P=lf (λk=>μ (unp aa k)) (jP P):=by
 rw[HU];exact xS λx hx=>by rw[wG aa (ok.len x hx) (ok.byt hx)]
theorem WW{aa:Nat}{T:Tb}{P:Pl}(h:SumT aa T P)(ky:∀k∈T.map (·.1),KyP aa k)(k:Int):tv (jP P) k=tv T k:=by
 by_cases q:KyP aa k
 ·obtain⟨ns,hl,hn,hs,rfl⟩:=q;rw[h.ok.tv hl (wS hn hs),h.vl ns hl (wS hn hs)]
 ·rw[qL λz=>q (h.ok.ky k z),qL λz=>q (ky k z)]
theorem SumT.el{aa:Nat}{T:Tb}{P:Pl}(h:SumT aa T P)(nd:(T.map (·.1)).Nodup)(ky:∀k∈T.map (·.1),KyP aa k)(μ:List Int->Rat):Lw.el μ P=lf (λk=>μ (unp aa k)) T:=by
 rw[AX h.ok];exact LO h.ok.nd nd (WW h ky)
theorem TZ{aa:Nat}{a b:List Int}(la:a.length=aa)(lb:b.length=aa)(na:∀n∈a,0<=n)(nb:∀n∈b,0<=n)(s:a.sum+b.sum<=255):unp aa (pk a+pk b)=qC a b:=by
 rw[<-LK aa la lb];refine wG aa (by unfold qC;rw[List.length_zipWith];omega) (byt_of (HQ na nb) ?_);rw[uD (by omega)];exact s
theorem PlOk.padd{aa:Nat}{P Q:Pl}(o1:PlOk aa P)(o2:PlOk aa Q){x y:List Int×Rat}(hx:x∈P)(hy:y∈Q):unp aa (pk x.1+pk y.1)=qC x.1 y.1:=by
 have:=o1.deg x hx;have:=o2.deg y hy;exact TZ (o1.len x hx) (o2.len y hy) (o1.nn x hx) (o2.nn y hy) (by omega)
theorem vK{aa:Nat}{P1 P2 P:Pl}(o1:PlOk aa P1)(o2:PlOk aa P2)(hd:vL P1+vL P2<=16)(h:SumT aa (xD (jP P1) (jP P2)) P)(μ:List Int->Rat):el μ P=el (λa=>el (λb=>μ (qC a b)) P2) P1:=by
 rw[h.el (FN _ _).nd (UY o1 o2 hd),VD,HU];refine xS λx hx=>?_;rw[HU];exact xS λy hy=>by rw[o1.padd o2 hx hy]
theorem LS{aa:Nat}{P Q:Pl}(o1:PlOk aa P)(o2:PlOk aa Q)(h:∀μ,el μ P=el μ Q):P=Q:=XQ o1 o2 λns _ _=>by rw[VW,VW,h]
theorem ky_byt{aa:Nat}{k:Int}(h:KyP aa k):∃ns:List Int,ns.length=aa/\Byt ns/\k=pk ns:=let ⟨ns,h1,h2,h3,h4⟩:=h;⟨ns,h1,wS h2 h3,h4⟩
theorem RT{aa:Nat}{P:Pl}(o:PlOk aa P){g:Int->Rat}(h:∀ns:List Int,ns.length=aa->Byt ns->cf P ns=g (pk ns))(h0:∀k,¬KyP aa k->g k=0)(k:Int):tv (jP P) k=g k:=by
 by_cases q:KyP aa k
 ·obtain⟨ns,hl,hb,rfl⟩:=ky_byt q;rw[o.tv hl hb,h ns hl hb]
 ·rw[qL λz=>q (o.ky k z),h0 k q]
theorem wO{aa:Nat}{P1 P2 P:Pl}(o1:PlOk aa P1)(o2:PlOk aa P2)(o:PlOk aa P)(h:∀ns:List Int,ns.length=aa->Byt ns->cf P ns=cf P1 ns+cf P2 ns)(μ:List Int->Rat):el μ P=el μ P1+el μ P2:=by
 have a:=add_ok o1.nd o2.nd;rw[AX o,AX o1,AX o2,<-lf_add _ _ o1.nd];refine LO o.nd a.nd λk=>?_;rw[a.vl];refine RT (g:=λk=>tv (jP P1) k+tv (jP P2) k) o (λns hl hb=>?_) (λk q=>?_) k
 ·rw[h ns hl hb,o1.tv hl hb,o2.tv hl hb]
 ·show tv (jP P1) k+tv (jP P2) k=0;rw[qL λz=>q (o1.ky k z),qL λz=>q (o2.ky k z),mQ]
theorem JQ(m:Int->Rat)(y:Rat):∀T:Tb,lf m (T.map λe=>(e.1,e.2*y))=lf m T*y
 | []=>(mS _).symm
 | e::T=>by rw[mH,kQ,kQ,JQ m y T];grind
theorem zX{aa:Nat}{P1 P:Pl}{y:Rat}(o1:PlOk aa P1)(o:PlOk aa P)(h:∀ns:List Int,ns.length=aa->Byt ns->cf P ns=cf P1 ns*y)(μ:List Int->Rat):el μ P=el μ P1*y:=by
 have ks:((jP P1).map λe=>(e.1,e.2*y)).map (·.1)=(jP P1).map (·.1):=by rw[List.map_map];rfl
 rw[AX o,AX o1,<-JQ];refine LO o.nd (by rw[ks];exact o1.nd) λk=>?_;rw[CL];refine RT (g:=λk=>tv (jP P1) k*y) o (λns hl hb=>?_) (λk q=>?_) k
 ·rw[h ns hl hb,o1.tv hl hb]
 ·show tv (jP P1) k*y=0;rw[qL λz=>q (o1.ky k z),mS]
structure Bnd(P:Pl)(s n:Nat):Prop where
 ex:∃D:Int,0<D/\D.natAbs<=2^s/\∀x∈P,Ov D n x.2
theorem Bnd.sz{P:Pl}{s n:Nat}(h:Bnd P s n)(hs:s<7900)(hn:n<7900):∀x∈P,SzR 7900 x.2:=λx hx=>by
 obtain⟨D,h0,h1,h2⟩:=h.ex;exact(h2 x hx).sz h0 h1 hn hs
theorem Bnd.plb{P:Pl}{s n:Nat}(h:Bnd P s n)(hs:s<1400)(hn:n<2400):∃D,PlB P D:=by
 obtain⟨D,h0,h1,h2⟩:=h.ex;exact⟨D,h0,gD h1 (uZ (by decide) hs),λx hx=>((h2 x hx).dn h0 (hJ _)).1,λx hx=>((h2 x hx).dn h0 hn).2⟩
theorem WH{P:Pl}{D:Int}{n:Nat}(nd:(P.map (·.1)).Nodup)(h:∀x∈P,Ov D n x.2)(ns:List Int):Ov D n (cf P ns):=by
 by_cases q:∃x∈P,x.1=ns
 ·obtain⟨x,hx,rfl⟩:=q;rw[yA nd hx];exact h x hx
 ·rw[wQ λx hx z=>q ⟨x,hx,z⟩];exact .zero _ _
theorem Bnd.plus{aa:Nat}{P1 P2 P:Pl}{s1 n1 s2 n2 n:Nat}(b1:Bnd P1 s1 n1)(b2:Bnd P2 s2 n2)(o1:PlOk aa P1)(o2:PlOk aa P2)(o:PlOk aa P)(h:∀ns:List Int,ns.length=aa->Byt ns->cf P ns=cf P1 ns+cf P2 ns)(h1:n1+s2<=n)(h2:n2+s1<=n):Bnd P (s1+s2) (n+1):=by
 obtain⟨D1,p1,l1,v1⟩:=b1.ex;obtain⟨D2,p2,l2,v2⟩:=b2.ex;refine⟨D1*D2,mY p1 p2,by rw[mD,Nat.pow_add];exact mE l1 l2,λx hx=>?_⟩;rw[<-yA o.ndn hx,h x.1 (o.len x hx) (o.byt hx)];have w1:=((WH o1.ndn v1 x.1).scale p1 p2 l2).up h1;have w2:=((WH o2.ndn v2 x.1).scale p2 p1 l1).up h2;rw[mV]at w2;exact w1.add w2 (mY p1 p2)
theorem RS{P:Pl}{D:Int}{n:Nat}(h:∀x∈P,Ov D n x.2):∀e∈jP P,Ov D n e.2:=λe he=>by
 obtain⟨x,hx,rfl⟩:=mP.mp he;exact h x hx
theorem Bnd.times{aa:Nat}{P1 P2 P:Pl}{s1 n1 s2 n2 c:Nat}(b1:Bnd P1 s1 n1)(b2:Bnd P2 s2 n2)(o1:PlOk aa P1)(l:P2.length<=2^c)(h:SumT aa (xD (jP P1) (jP P2)) P):Bnd P (s1+s2) (n1+n2+c):=by
 obtain⟨D1,p1,l1,v1⟩:=b1.ex;obtain⟨D2,p2,l2,v2⟩:=b2.ex;refine⟨D1*D2,mY p1 p2,by rw[mD,Nat.pow_add];exact mE l1 l2,λx hx=>?_⟩;rw[h.at' x hx];exact ov_mul o1.nd p1 p2 (RS v1) (RS v2) (by rw[qF];exact l) _
theorem Bnd.scaled{aa:Nat}{P1 P:Pl}{s1 n1 s2 n2:Nat}{y:Rat}{D2:Int}(b1:Bnd P1 s1 n1)(o1:PlOk aa P1)(o:PlOk aa P)(p2:0<D2)(l2:D2.natAbs<=2^s2)(v2:Ov D2 n2 y)(h:∀ns:List Int,ns.length=aa->Byt ns->cf P ns=cf P1 ns*y):Bnd P (s1+s2) (n1+n2):=by
 obtain⟨D1,p1,l1,v1⟩:=b1.ex;refine⟨D1*D2,mY p1 p2,by rw[mD,Nat.pow_add];exact mE l1 l2,λx hx=>?_⟩;rw[<-yA o.ndn hx,h x.1 (o.len x hx) (o.byt hx)];exact(WH o1.ndn v1 x.1).mul v2 p1 p2
theorem SumT.len{aa:Nat}{T:Tb}{P:Pl}(h:SumT aa T P):P.length<=T.length:=by
 have:=uF (l:=(jP P).map (·.1)) (m:=T.map (·.1)) h.ok.nd λk hk=>by
  rw[vW]at hk;obtain⟨x,hx,rfl⟩:=mP.mp hk;refine uP λz=>h.ok.nz x hx ?_;rw[h.at' x hx,qL z]
 rwa [hU,hU,qF]at this
theorem qM{aa:Nat}{P1 P2 P:Pl}{g1 g2:Nat}(o1:PlOk aa P1)(o2:PlOk aa P2)(h:SumT aa (xD (jP P1) (jP P2)) P)(d1:∀x∈P1,x.1.sum<=g1)(d2:∀x∈P2,x.1.sum<=g2):∀x∈P,x.1.sum<=(g1+g2:Nat):=λx hx=>by
 have km:pk x.1∈(xD (jP P1) (jP P2)).map (·.1):=uP λz=>h.ok.nz x hx (by rw[h.at' x hx,qL z]);obtain⟨f1,h1,f2,h2,ee⟩:=(FN _ _).ks _ km;obtain⟨u,hu,rfl⟩:=mP.mp h1;obtain⟨v,hv,rfl⟩:=mP.mp h2;have ee:pk x.1=pk u.1+pk v.1:=ee;have uv:=o1.padd o2 hu hv;rw[<-ee,wG aa (h.ok.len x hx) (h.ok.byt hx)]at uv;rw[uv,uD (by rw[o1.len u hu,o2.len v hv])];have:=d1 u hu;have:=d2 v hv;omega
theorem NG{aa:Nat}{P1 P2 P:Pl}{g:Nat}(o:PlOk aa P)(h:∀ns:List Int,ns.length=aa->Byt ns->cf P ns=cf P1 ns+cf P2 ns)(d1:∀x∈P1,x.1.sum<=g)(d2:∀x∈P2,x.1.sum<=g):∀x∈P,x.1.sum<=g:=λx hx=>by
 have e:=h x.1 (o.len x hx) (o.byt hx);rw[yA o.ndn hx]at e;by_cases c:cf P1 x.1=0
 ·have:cf P2 x.1≠0:=λz=>o.nz x hx (by rw[e,c,z,mR]);obtain⟨y,hy,ey⟩:=mP.mp (WI this);rw[<-ey];exact d2 y hy
 ·obtain⟨y,hy,ey⟩:=mP.mp (WI c);rw[<-ey];exact d1 y hy
theorem PD{aa:Nat}{P1 P:Pl}{g:Nat}{y:Rat}(o:PlOk aa P)(h:∀ns:List Int,ns.length=aa->Byt ns->cf P ns=cf P1 ns*y)(d1:∀x∈P1,x.1.sum<=g):∀x∈P,x.1.sum<=g:=λx hx=>by
 have e:=h x.1 (o.len x hx) (o.byt hx);rw[yA o.ndn hx]at e;by_cases c:cf P1 x.1=0
 ·exact absurd (by rw[e,c,mS]) (o.nz x hx)
 ·obtain⟨y,hy,ey⟩:=mP.mp (WI c);rw[<-ey];exact d1 y hy
theorem TK{aa:Nat}{P1 P2 P:Pl}(o:PlOk aa P)(h:∀ns:List Int,ns.length=aa->Byt ns->cf P ns=cf P1 ns+cf P2 ns):P.length<=P1.length+P2.length:=by
 have:=uF (l:=P.map (·.1)) (m:=P1.map (·.1)++P2.map (·.1)) o.ndn λk hk=>by
  obtain⟨x,hx,rfl⟩:=mP.mp hk;refine uP λz=>o.nz x hx ?_;have c1:cf P1 x.1=0:=wQ λy hy e=>z (List.mem_append_left _ (by rw[<-e];exact List.mem_map_of_mem hy));have c2:cf P2 x.1=0:=wQ λy hy e=>z (uT _ (by rw[<-e];exact List.mem_map_of_mem hy));rw[<-yA o.ndn hx,h x.1 (o.len x hx) (o.byt hx),c1,c2,mQ]
 rwa [gE,hU,hU,hU]at this
theorem LD{aa:Nat}{P1 P:Pl}{y:Rat}(o:PlOk aa P)(h:∀ns:List Int,ns.length=aa->Byt ns->cf P ns=cf P1 ns*y):P.length<=P1.length:=by
 have:=uF (l:=P.map (·.1)) (m:=P1.map (·.1)) o.ndn λk hk=>by
  obtain⟨x,hx,rfl⟩:=mP.mp hk;refine uP λz=>o.nz x hx ?_;have c1:cf P1 x.1=0:=wQ λy hy e=>z (by rw[<-e];exact List.mem_map_of_mem hy);rw[<-yA o.ndn hx,h x.1 (o.len x hx) (o.byt hx),c1,mS]
 rwa [hU,hU]at this
structure SmB(K:nI)(H:Hp)(p:Addr)(aa:Nat)(P:Pl)(g s n l:Nat):Prop where
 q:SumQ K H p aa P
 o:PlOk aa P
 b:Bnd P s n
 d:∀x∈P,x.1.sum<=g
 l:P.length<=l
theorem SmB.same{K:nI}{H H':Hp}{p:Addr}{aa:Nat}{P:Pl}{g s n l:Nat}(h:SmB K H p aa P g s n l)(k:Same H H'):SmB K H' p aa P g s n l:=⟨h.q.same k,h.o,h.b,h.d,h.l⟩
theorem SmB.dq{K:nI}{H:Hp}{p:Addr}{aa:Nat}{P:Pl}{g s n l:Nat}(h:SmB K H p aa P g s n l):vL P<=g:=vE h.d (by omega)
section
variable{K:nI}{H:Hp}{Q:VK}{p1 p2:Addr}{aa g1 s1 n1 l1 g2 s2 n2 l2:Nat}{P1 P2:Pl}{S:List Rat}
theorem ON(h1:SmB K H p1 aa P1 g1 s1 n1 l1)(h2:SmB K H p2 aa P2 g1 s2 n2 l2)(n:Nat)(hl:l1+l2<=60)(a1:s1<7900/\n1<7900/\s2<7900/\n2<7900)(a2:n1+s2<=n/\n2+s1<=n)
  (go:∀p P H',H p=none->Same H H'->SmB K H' p aa P g1 (s1+s2) (n+1) (l1+l2)->(∀ns:List Int,ns.length=aa->Byt ns->cf P ns=cf P1 ns+cf P2 ns)->Q (.ref p) H'):zO K [.ref p1,.ref p2] H Q E0:=
 ⟨p1,p2,aa,P1,P2,rfl,h1.q,h2.q,h1.o,h2.o,by have:=h1.l;have:=h2.l;omega,h1.b.sz a1.1 a1.2.1,h2.b.sz a1.2.2.1 a1.2.2.2,λp P H' n0 s q o h=>go p P H' n0 s ⟨q,o,h1.b.plus h2.b h1.o h2.o o h a2.1 a2.2,NG o h h1.d h2.d,mN (TK o h) (Nat.add_le_add h1.l h2.l)⟩ h⟩
theorem AY(h1:SmB K H p1 aa P1 g1 s1 n1 l1)(h2:SmB K H p2 aa P2 g2 s2 n2 l2)(hl:l1*l2<=60)(c:Nat)(hc:l2<=2^c)(hg:g1+g2<=16)(a1:s1<1400/\n1<2400/\s2<1400/\n2<2400)
  (go:∀p P H',H p=none->Same H H'->SmB K H' p aa P (g1+g2) (s1+s2) (n1+n2+c) (l1*l2)->SumT aa (xD (jP P1) (jP P2)) P->Q (.ref p) H'):yH K [.ref p1,.ref p2] H Q E0:=by
 obtain⟨D1,b1⟩:=h1.b.plb a1.1 a1.2.1;obtain⟨D2,b2⟩:=h2.b.plb a1.2.2.1 a1.2.2.2;have l:=mE h1.l h2.l;refine⟨p1,p2,aa,P1,P2,D1,D2,rfl,h1.q,h2.q,h1.o,h2.o,by omega,by have:=h1.dq;have:=h2.dq;omega,b1,b2,λp P H' n0 s q ST=>go p P H' n0 s ⟨q,ST.ok,h1.b.times h2.b h1.o (mN h2.l hc) ST,qM h1.o h2.o ST h1.d h2.d, ?_⟩ ST⟩;have:=(FN (jP P1) (jP P2)).ln;rw[qF,qF]at this;exact mN ST.len (mN this l)
theorem CF{v:V}{y:Rat}{D2:Int}(h1:SmB K H p1 aa P1 g1 s1 n1 l1)(hv:NumK K H v y)(p2:0<D2)(b2:D2.natAbs<=2^s2)(o2:Ov D2 n2 y)(a1:s1<7900/\n1<7900/\s2<7900/\n2<7900)
  (go:∀p P H',H p=none->Same H H'->SmB K H' p aa P g1 (s1+s2) (n1+n2) l1->(∀ns:List Int,ns.length=aa->Byt ns->cf P ns=cf P1 ns*y)->Q (.ref p) H'):yW K [.ref p1,v] H Q E0:=
 ⟨p1,v,aa,P1,y,rfl,h1.q,h1.o,hv,h1.b.sz a1.1 a1.2.1,o2.sz p2 b2 a1.2.2.2 a1.2.2.1,λp P H' n0 s q o h=>go p P H' n0 s ⟨q,o,h1.b.scaled h1.o o p2 b2 o2 h,PD o h h1.d,mN (LD o h) h1.l⟩ h⟩
end
def EZ(n:Nat):List V:=(List.range n).map λ(i:Nat)=>V.int (0+(i:Int))
theorem wR(n:Nat):(EZ n).length=n:=by simp [EZ]
theorem CJ{n i:Nat}{x:V}(h:(EZ n)[i]? = some x):x=.int (0+(i:Int))/\i<n:=by
 unfold EZ at h;rw[gM]at h;cases e:(List.range n)[i]? with
 | none=>rw[e]at h;cases h
 | some j=>
  rw[e]at h;obtain⟨h1,h2⟩:=uQ.mp e;rw[List.getElem_range]at h2;subst h2;rw[gQ]at h1;exact⟨(Option.some.inj h).symm,h1⟩
theorem BL{n:Nat}{σ0:L2.St}{g:TG}{te:TE}{Q:VK}{p:Addr}{H':Hp}(Pv:Nat->List V->Hp->Prop)(hz:n<sizeLine)(h0:Pv 0 [] H')(hl:∀i ys H2,Pv i ys H2->H2 p=some (.lst ys))
  (hs:∀i m ys x H2,(EZ n)[i]? = some x->m=(EZ n).length-i->ys.length=i->Pv i ys H2->g (.int (0+(i:Int))) σ0 H2 fun σ4 H4=>Keep σ0 σ4/\te σ4 H4 λy H5=>H5 p=some (.lst ys)/\∃m',m'<m/\CompW (EZ n) Pv (i+1) m' (ys++[y]) (upd H5 p (.lst (ys++[y]))))
  (hd:∀ys H2,ys.length=n->Pv n ys H2->Q (.ref p) H2):CompGoF σ0 (Itr 0 n) g te Q p H':=by
 refine IE (xs:=EZ n) Pv (by rw[wR];exact hz) h0 (λi ys H2 _ hi=>?_) (λys H2 _=>by rw[wR];exact mW n) hl (λi m ys x H2 hx hm hy hp=>?_) (λys H2 hy hp=>?_)
 ·rw[wR]at hi;refine⟨hi, ?_⟩;rintro x H3 ⟨rfl,rfl⟩;exact⟨rfl,by unfold EZ;rw[gM,List.getElem?_range hi];rfl⟩
 ·obtain⟨e,_⟩:=CJ hx;subst e;exact hs i m ys _ H2 hx hm hy hp
 ·rw[wR]at hy hp;exact hd ys H2 hy hp
structure TapeN(H:Hp)(tp:Addr):Prop where
 ex:∃n:Int,H tp=some (.lst [.int n])/\0<=n/\n<2147483647
theorem sm31{n:Int}(h0:0<=n)(h1:n<2147483647):n.natAbs<2^100000:=jR (show n.natAbs<2^31 by have:(2:Nat)^31=2147483648:=rfl;omega) (by decide)
def RZ(K:nI):Sp:=λvs H Q _=>∃(a:Addr) (ns:List Int),vs=[.ref a]/\SqL K H a (ns.map V.int)/\ns.length<=63/\∀(p:Addr) (H':Hp),H p=none->Same H H'->TapeN H' p->Q (.ref p) H'
inductive TaN(H:Hp)(a:Addr):L2.St->Hp->Prop where
 | mk {n:Int} {u:Option V} (h0:0<=n) (h1:n<2147483647):TaN H a [some (.ref a),some (.int n),u] H
def spPick:Sp:=λvs H Q _=>∃(tp:Addr) (k:Int),vs=[.ref tp,.int k]/\TapeN H tp/\0<k/\k<1000/\∀(m:Int) (H':Hp),0<=m->m<k->But tp H H'->TapeN H' tp->Q (.int m) H'
def spLeast:Sp:=λvs H Q _=>∃x y:Int,vs=[.int x,.int y]/\0<y/\x.natAbs<2^100/\y.natAbs<2^100/\∀(r:Addr) (H':Hp),H r=none->Same H H'->At2 H' r (fv x y).num (fv x y).den->Q (.ref r) H'
structure SmF(x:Rat):Prop where
 ex:∃t b:Int,x=fv t b/\-6<=t/\t<=6/\1<=b/\b<=5
def spFrac:Sp:=λvs H Q _=>∃tp:Addr,vs=[.ref tp]/\TapeN H tp/\∀(r:Addr) (x:Rat) (H':Hp),H r=none->But tp H H'->TapeN H' tp->At2 H' r x.num x.den->SmF x->Q (.ref r) H'
theorem scTape:FnScope ["script","number_here","cell"] ["script"] (jJ MT):=⟨rfl,rfl,rfl,by decide +kernel,rfl,by decide +kernel,by decide +kernel⟩
theorem cut63(xs:List V):wC xs none (some 63)=xs.take 63:=by
 show wC xs none (some ((63:Nat):Int))=_;unfold wC;rw[HT.sIx_nat,HT.sIx_none,List.drop_zero,Nat.sub_zero,List.take_eq_take_iff];omega
theorem YE(F:Fun K "_law_tape" "_law_tape" MT f fd):FnOk P w K mg base CX0 1 f fd ["script"] (RZ K):=by
 refine F.ok scTape (λvs H Q E h=>?_) (λcdv A outer s H vs Q E hr h=>?_)
 ·obtain⟨a,ns,rfl,_⟩:=h
  rfl
 ·obtain⟨a,ns,rfl,ha,l63,go⟩:=h;refine⟨_,jC (jO (i:=1) scTape.nd rfl (Or.inl rfl) (jF)) (jC (qA PassesOwn.never rfl (xI (zD CU (pv 0) uB (yK jF))) (jH (i:=2) scTape.nd rfl (Or.inl rfl)) (jE (jO (i:=1) scTape.nd rfl (Or.inl rfl) (jT AS (jT qH (jT kO (pv 1) jF) (pv 2)) jF)))) (jE (jM (kH (jA (pv 1) jB))))), ?_⟩;try dsimp only[cxK]
  refine⟨_,rfl,63,rfl,a,_,rfl,ha,λl H1 n1 s1 e1=>?_⟩;rw[cut63,<-List.map_take]at e1;refine⟨l,rfl,⟨_,SqL.of e1⟩,zL (K:=K) (a:=l) (xs:=(ns.take 63).map V.int) (λ_=>TaN H1 a) (.mk (by decide) (by decide)) (λi σ H2 _ h=>by obtain⟨_,_⟩:=h;exact SqL.of e1) (λi x σ H2 hx h=>?_) (fun σ H2 h=>?_)⟩
  ·obtain⟨h0,h1⟩:=h;rename_i n u;rw[gM]at hx;cases hn:(ns.take 63)[i]? with
   | none=>rw[hn]at hx;cases hx
   | some c=>
    rw[hn]at hx;cases hx;refine⟨_,rfl,_,_,rfl,rfl,⟨sm31 h0 h1,by decide +kernel⟩,_,rfl,_,_,rfl,rfl,_,_,rfl,rfl,(by show(0:Int)<2147483647;decide), ?_⟩;exact .mk (Int.emod_nonneg _ (by decide)) (Int.emod_lt_of_pos _ (by decide))
  ·obtain⟨h0,h1⟩:=h;rename_i n u;exact⟨_,rfl,uL,λp H3 n3 s3 e3=>go p H3 (s1.free n3) (s1.trans s3) ⟨n,e3,h0,h1⟩⟩
theorem scPick:FnScope ["tape","share"] ["tape","share"] (jJ FK):=⟨rfl,rfl,rfl,by decide +kernel,rfl,by decide +kernel,by decide +kernel⟩
theorem YM(F:Fun K "_law_pick" "_law_pick" FK f fd):FnOk P w K mg base CX0 1 f fd ["tape","share"] spPick:=by
 refine F.ok scPick (λvs H Q E h=>?_) (λcdv A outer s H vs Q E hr h=>?_)
 ·obtain⟨tp,k,rfl,_⟩:=h
  rfl
 ·obtain⟨tp,k,rfl,⟨n,et,h0,h1⟩,k0,k1,go⟩:=h;refine⟨_,jC (vC (jT AS (jT qH (jT kO (kG qG (pv 0) jF (λ_ _=>rfl)) (kG qG (pv 0) jF (λ_ _=>rfl))) jF) jF) (pg_sub (pv 0) jF CV)) (jE (jM (jT AS (jT LwD.zG (kG qG (pv 0) jF (λ_ _=>rfl)) jF) (pv 1)))), ?_⟩;try dsimp only[cxK]
  have r0:∀{H:Hp} {m:Int},H tp=some (.lst [.int m])->SqL K H tp [.int m]:=λh=>SqL.of h;refine rvL rfl (r0 et) rfl (rvL rfl (r0 et) rfl ⟨_,_,rfl,rfl,⟨sm31 h0 h1,sm31 h0 h1⟩,_,_,rfl,rfl,_,_,rfl,rfl,(by show(0:Int)<2147483647;decide), ?_⟩);dsimp only;have m0:=Int.emod_nonneg (n*n+7919) (b:=2147483647) (by decide);have m1:=Int.emod_lt_of_pos (n*n+7919) (b:=2147483647) (by decide);generalize (n*n+7919)%2147483647=m at m0 m1;refine gSet (j:=0) rfl et rfl ?_;have e2:(upd H tp (.lst ([V.int n].set 0 (.int m)))) tp=some (.lst [.int m]):=jI;have b2:But tp H (upd H tp (.lst ([V.int n].set 0 (.int m)))):=λc u h n=>by rw[jL n];exact h
  generalize upd H tp (.lst ([V.int n].set 0 (.int m)))=H2 at e2 b2;refine rvL rfl (r0 e2) rfl ⟨_,_,rfl,rfl,LwD.xT (m:=31) (by decide) (by decide) (by have:(2:Nat)^31=2147483648:=rfl;omega),_,rfl,_,_,rfl,rfl,k0, ?_⟩;exact go _ _ (Int.emod_nonneg _ (by omega)) (Int.emod_lt_of_pos _ k0) b2 ⟨m,e2,m0,m1⟩
theorem scLeast:FnScope ["x","y","a","b"] ["x","y"] (jJ AL):=⟨rfl,rfl,rfl,by decide +kernel,rfl,by decide +kernel,by decide +kernel⟩
inductive LeI(H:Hp)(x y:Int):L2.St->Hp->Prop where
 | mk {p q:Int} (h0:0<=p) (h1:0<q) (h2:Int.gcd q p=Int.gcd x y):LeI H x y [some (.int x),some (.int y),some (.int p),some (.int q)] H
theorem UL(F:Fun K "_law_least" "_law_least" AL f fd)(T:Txt mg):FnOk P w K mg base CX0 1 f fd ["x","y"] spLeast:=by
 refine F.ok scLeast (λvs H Q E h=>?_) (λcdv A outer s H vs Q E hr h=>?_)
 ·obtain⟨x,y,rfl,_⟩:=h
  rfl
 ·obtain⟨x,y,rfl,y0,xb,yb,go⟩:=h;refine⟨_,jC (jO (i:=2) scLeast.nd rfl (Or.inl rfl) (jX KJ (by rfl) T.abs boot_abs (jA (pv 0) jB))) (jC (jO (i:=3) scLeast.nd rfl (Or.inl rfl) (pv 1)) (jC (IY PassesOwn.never (kI uE (pv 2) jF (kD _)) (jE (TJ (i:=2) (j:=3) rfl scLeast.nd rfl rfl (by decide) rfl rfl (jA (jT AS (pv 3) (pv 2)) (jA (pv 2) jB)) rfl))) (jE (jM (jQ (jA (jT LwD.zG (pv 0) (pv 3)) (jA (jT LwD.zG (pv 1) (pv 3)) jB))))))), ?_⟩;try dsimp only[cxK]
  refine⟨_,rfl,_,rfl,_,rfl, ?_⟩;refine IJ (LeI H x y) (fun σ _=>match σ with | [_,_,some (.int p),_]=>p.toNat | _=>0) (.mk (by split<;>omega) y0 ?_) ?_ ?_
  ·rw[Int.gcd_comm x];split
   ·exact Int.gcd_neg
   ·rfl
  ·rintro σ H1 ⟨h0,h1,h2⟩;rename_i p q;refine⟨_,rfl,_,_,rfl,rfl,_,rfl, ?_⟩;refine QL (λe=>?_) (λe=>?_)
   ·have hp:0<p:=gP e;refine⟨_,rfl,_,rfl,_,_,rfl,rfl,hp,_,rfl,_,_,rfl, ?_⟩;have m1:=Int.emod_nonneg q (b:=p) (by omega);have m2:=Int.emod_lt_of_pos q hp;refine⟨.mk m1 hp ((LwM.JU q p).trans h2), ?_⟩;show(q%p).toNat<p.toNat;omega
   ·have hp:p=0:=by
     have:¬0<p:=λz=>e (mC z);omega
    subst hp;have hq:q=((Int.gcd x y:Nat):Int):=by
     rw[<-h2,Int.gcd_zero_right];omega
    refine⟨_,rfl,_,rfl,_,_,rfl,rfl,LwD.xT (m:=100) h1 (by decide) xb,_,rfl,_,rfl,_,_,rfl,rfl,LwD.xT (m:=100) h1 (by decide) yb,uM,λr H2 n2 s2 e2=>?_⟩;refine go r H2 n2 s2 (BA (N:=x) (D:=y) ?_ y0 rfl);rw[qW y0,xR y0,<-hq];exact e2
  ·rintro σ H1 Q1 Q2 hQ ⟨v,e,i,j,e1,e2,k',ek,q⟩;exact⟨v,e,i,j,e1,e2,k',ek,hQ _ _ q⟩
theorem scFrac:FnScope ["tape"] ["tape"] (jJ MZ):=⟨rfl,rfl,rfl,by decide +kernel,rfl,by decide +kernel,by decide +kernel⟩
theorem YS{fP fL:Addr}{fdP fdL:FuncData}(F:Fun K "_law_fraction" "_law_fraction" MZ f fd)(DP:Df K mg "_law_pick" FK ["tape","share"] fP fdP)(GP:FnOk P w K mg base CX0 1 fP fdP ["tape","share"] spPick)(DL:Df K mg "_law_least" AL ["x","y"] fL fdL)(GL:FnOk P w K mg base CX0 1 fL fdL ["x","y"] spLeast):FnOk P w K mg base CX0 2 f fd ["tape"] spFrac:=by
 refine F.ok scFrac (λvs H Q E h=>?_) (λcdv A outer s H vs Q E hr h=>?_)
 ·obtain⟨tp,rfl,_⟩:=h
  rfl
 ·obtain⟨tp,rfl,T0,go⟩:=h;refine⟨_,jE (jM (jD GL hr rfl DL.m DL.F.kp DL.b .nil jK (jA (jT xY (jD GP hr rfl DP.m DP.F.kp DP.b .nil jK (jA (pv 0) (jA jF jB))) jF) (jA (jT qH jF (jD GP hr rfl DP.m DP.F.kp DP.b .nil jK (jA (pv 0) (jA jF jB)))) jB)))), ?_⟩;try dsimp only[cxK]
  refine⟨_,rfl,tp,13,rfl,T0,by decide,by decide,λm H1 m0 m1 b1 T1=>?_⟩;refine⟨_,_,rfl,rfl,_,rfl,tp,5,rfl,T1,by decide,by decide,λk H2 k0 k1 b2 T2=>?_⟩;refine⟨_,_,rfl,rfl,_,_,rfl,by omega, ?_, ?_,λr H3 n3 s3 e3=>?_⟩
  ·exact jR (show(m-6).natAbs<2^5 by have:(2:Nat)^5=32:=rfl;omega) (by decide)
  ·exact jR (show(1+k).natAbs<2^5 by have:(2:Nat)^5=32:=rfl;omega) (by decide)
  obtain⟨n,et,h0,h1⟩:=T2.ex;have b13:But tp H H3:=λc u h n=>s3 _ _ (b2 c u (b1 c u h n) n);refine go r _ H3 ?_ b13 ⟨n,s3 _ _ et,h0,h1⟩ e3 ⟨m-6,1+k,rfl,by omega,by omega,by omega,by omega⟩;cases q:H r with
  | none=>rfl
  | some u=>
   by_cases z:r=tp
   ·rw[z,et]at n3;cases n3
   ·rw[b2 r u (b1 r u q z) z]at n3;cases n3
theorem TapeN.same{H H':Hp}{tp:Addr}(t:TapeN H tp)(s:Same H H'):TapeN H' tp:=let ⟨n,e,h⟩:=t.ex;⟨n,s _ _ e,h⟩
theorem RB{X:Cx} :CallR X (.type "int") (λxs H Q=>∃b:Bool,xs=[.bl b]/\Q (.int (if b=true then 1 else 0)) H):=by
 intro ac s σ H xs us Q I r h;obtain⟨b,rfl,q⟩:=h;obtain⟨u,rfl,ru⟩:=xG r;cases ru;exact call_int_bool ⟨.int (if b=true then 1 else 0),H,I.tok _,⟨_,rfl⟩,q⟩
def pwU(L k a:Nat):Int:=if (decide (0<k)&&decide ((a:Int)=(L:Int)-(k:Int)))=true then 1 else 0
def pwL(L k:Nat):List Int:=(List.range L).map (pwU L k)
theorem HM(L k:Nat):(pwL L k).length=L:=by unfold pwL;rw[hU,gQ]
theorem pwU_nn(L k a:Nat):0<=pwU L k a:=by unfold pwU;split<;>decide
theorem TH(L k:Nat):∀n∈pwL L k,0<=n:=λn hn=>by
 obtain⟨a,_,rfl⟩:=mP.mp hn;exact pwU_nn L k a
theorem yZ:∀L:Nat,L<5->∀k,k<5->k<=L->(pwL L k).sum<=1/\∀j,j<k->pk (pwL L j)<pk (pwL L k)/\LwD.xU (pwL L j) (pwL L k)=true:=by decide +kernel
abbrev JL:=List (Nat×Rat)
structure JI(L k:Nat)(J:JL):Prop where
 up:J.Pairwise λa b=>a.1<b.1
 lt:∀a∈J,a.1<k
 nz:∀a∈J,a.2≠0
 sm:∀a∈J,SmF a.2
 ln:J.length<=k
def plJ(L:Nat)(J:JL):Pl:=J.map λa=>(pwL L a.1,a.2)
def tmJ(L:Nat)(J:JL):List LwS.Trm:=J.map λa=>⟨pwL L a.1,a.2.num,a.2.den⟩
theorem SmF.ov{x:Rat}(h:SmF x):Ov 60 9 x:=by
 obtain⟨t,b,rfl,t0,t1,b0,b1⟩:=h.ex;obtain⟨c,hc,hb⟩:∃c:Int,b*c=60/\c.natAbs<=60:=by
  rcases(show b=1∨b=2∨b=3∨b=4∨b=5 by omega)with rfl | rfl | rfl | rfl | rfl
  ·exact⟨60,rfl,by decide⟩
  ·exact⟨30,rfl,by decide⟩
  ·exact⟨20,rfl,by decide⟩
  ·exact⟨15,rfl,by decide⟩
  ·exact⟨12,rfl,by decide⟩
 refine⟨t*c,OI (by omega) (by decide) (by rw[<-hc];grind), ?_⟩;rw[mD];exact mN (mE (show t.natAbs<=6 by omega) hb) (by decide)
theorem SmF.dn{x:Rat}(h:SmF x):x.num.natAbs<=6/\x.den<=5:=by
 obtain⟨t,b,e,t0,t1,b0,b1⟩:=h.ex;have q:=AC (by omega) e;have l:x.den<=b.natAbs:=by
  have:=Int.natAbs_dvd_natAbs.mpr q.1;rw[gI]at this;exact Nat.le_of_dvd (by omega) this
 exact⟨mN q.2 (by omega),by omega⟩
theorem JI.ok{L:Nat}{J:JL}(h:JI L (L+1) J)(l1:1<=L)(l4:L<=4):PlOk L (plJ L J):=by
 have mem:∀x∈plJ L J,∃a∈J,x=(pwL L a.1,a.2):=λx hx=>by obtain⟨a,ha,e⟩:=mP.mp hx;exact⟨a,ha,e.symm⟩
 refine⟨λx hx=>?_,λx hx=>?_,λx hx=>?_, ?_,λx hx=>?_, ?_,l1,l4⟩
 ·obtain⟨a,ha,rfl⟩:=mem x hx;exact HM _ _
 ·obtain⟨a,ha,rfl⟩:=mem x hx;exact TH _ _
 ·obtain⟨a,ha,rfl⟩:=mem x hx;have:=h.lt a ha;exact Int.le_trans (yZ L (by omega) a.1 (by omega) (by omega)).1 (by decide)
 ·unfold plJ;rw[List.map_map,List.pairwise_map];refine h.up.imp_of_mem fun {a b} ha hb k=>?_;have:=h.lt b hb;exact((yZ L (by omega) b.1 (by omega) (by omega)).2 a.1 k).1
 ·obtain⟨a,ha,rfl⟩:=mem x hx;exact h.nz a ha
 ·unfold plJ;rw[hU];have:=h.ln;omega
theorem JI.bnd{L:Nat}{J:JL}(h:JI L (L+1) J)(l4:L<=4):Bnd (plJ L J) 6 9/\(∀x∈plJ L J,x.1.sum<=(1:Nat))/\(plJ L J).length<=L+1:=by
 have mem:∀x∈plJ L J,∃a∈J,x=(pwL L a.1,a.2):=λx hx=>by obtain⟨a,ha,e⟩:=mP.mp hx;exact⟨a,ha,e.symm⟩
 refine⟨⟨60,by decide,by decide,λx hx=>?_⟩,λx hx=>?_, ?_⟩
 ·obtain⟨a,ha,rfl⟩:=mem x hx;exact(h.sm a ha).ov
 ·obtain⟨a,ha,rfl⟩:=mem x hx;have:=h.lt a ha;exact(yZ L (by omega) a.1 (by omega) (by omega)).1
 ·unfold plJ;rw[hU];exact h.ln
theorem Poly.sq{K:nI}{H:Hp}{p:Addr}{L:Nat}{J:JL}(h:Poly H p L (tmJ L J)):SumQ K H p L (plJ L J):=by
 obtain⟨q,xs,e1,e2,pr⟩:=h.ex;refine⟨q,xs,e1,e2, ?_⟩;have key:∀{xs:List V} {J:JL},Paired (TrmV H) xs (tmJ L J)->Paired (TmQ K H) xs (plJ L J):=by
  intro xs J;induction J generalizing xs with
  | nil=>intro h;cases h;exact .nil
  | cons a J ih=>
   intro h;cases h with
   | cons h t=>
    obtain⟨r,b,c,e1,e2,e3⟩:=h.ex;exact .cons ⟨r,b,c,e1,e2,e3.pw,c,rfl,e3.nb⟩ (ih t)
 exact key pr
def spStr:Sp:=λvs H Q _=>∃(tp:Addr) (L:Nat),vs=[.ref tp,.int L]/\TapeN H tp/\1<=L/\L<=4/\∀(p:Addr) (J:JL) (H':Hp),H p=none->But tp H H'->TapeN H' tp->Poly H' p L (tmJ L J)->JI L (L+1) J->Q (.ref p) H'
inductive StI(H:Hp)(tp l:Addr)(L k:Nat):L2.St->Hp->Prop where
 | mk {u3 u4 u5:Option V} {H':Hp} {xs:List V} {J:JL} (b:But tp H H') (t:TapeN H' tp) (e:H' l=some (.lst xs)) (p:Paired (TrmV H') xs (tmJ L J)) (j:JI L k J):StI H tp l L k [some (.ref tp),some (.int L),some (.ref l),u3,u4,u5] H'
theorem scStr:FnScope ["tape","letters","terms","k","powers","share"] ["tape","letters"] (jJ SR):=⟨rfl,rfl,rfl,by decide +kernel,rfl,by decide +kernel,by decide +kernel⟩
theorem ok_str{fF:Addr}{fdF:FuncData}(F:Fun K "_law_straight" "_law_straight" SR f fd)(T:Txt mg)(DF:Df K mg "_law_fraction" MZ ["tape"] fF fdF)(GF:FnOk P w K mg base CX0 2 fF fdF ["tape"] spFrac):FnOk P w K mg base CX0 3 f fd ["tape","letters"] spStr:=by
 refine F.ok scStr (λvs H Q E h=>?_) (λcdv A outer s H vs Q E hr h=>?_)
 ·obtain⟨tp,L,rfl,_⟩:=h
  rfl
 ·obtain⟨tp,L,rfl,T0,l1,l4,go⟩:=h;refine⟨_,jC (jO (i:=2) scStr.nd rfl (Or.inl rfl) (kH jB)) (jC (qA PassesOwn.never rfl (qR (by rfl) T.rng (jA (jT qH (pv 1) jF) jB)) (jH (i:=3) scStr.nd rfl (Or.inr rfl)) (jC (jO (i:=4) scStr.nd rfl (Or.inl rfl) (qS vV (by rfl) T.tup boot_tuple (jA (vZ (own:=1) (idx:=[3,1]) (N:=["at","k","letters"]) rfl rfl rfl (by decide +kernel) (by decide +kernel) (yV (by intro y hy;simp only[mI,gU,or_false]at hy;rcases hy with rfl | rfl<;>rfl)) (qN rfl) rfl (FY rfl rfl ⟨rfl,rfl,rfl,rfl⟩ ⟨rfl,rfl,rfl,rfl⟩) (qR (by rfl) T.rng (jA (pv 1) jB)) (λC fp s2 H2=>(jH (i:=0) (show List.Nodup (["at","k","letters"]:List Str) by decide +kernel) rfl (Or.inl rfl) (Or.inr rfl))) (λC fp s2 H2=>qS RB (by rfl) T.int boot_int (jA (yL (qZ uE (pv 1) jF (kD _)) (wM (qZ JE (pv 0) (jT xY (pv 2) (pv 1)) (kD _)))) jB))) jB))) (jC (jO (i:=5) scStr.nd rfl (Or.inl rfl) (jD GF hr rfl DF.m DF.F.kp DF.b .nil jK (jA (pv 0) jB))) (jE (kT (kI zF (kG kJ (pv 5) jF (λ_ _=>rfl)) jF (kD _)) (jE (qQ (uC PySem.F.plainAttrs_list PySem.F.slot_list_append PySem.F.type_list_append qE (pv 2) (jA (jQ (jA (pv 4) (jA (pv 5) jB))) jB)))) kC))))) (jE (jM (jQ (jA (pv 1) (jA (qS vV (by rfl) T.tup boot_tuple (jA (pv 2) jB)) jB)))))), ?_⟩
  try dsimp only[cxK]
  have bt:∀{H1 H2:Hp},TapeN H1 tp->But tp H1 H2->∀a xs,H1 a=some (.tup xs)->H2 a=some (.tup xs):=λt b a xs h=>b a _ h λz=>by
   obtain⟨n,et,_⟩:=t.ex;rw[z,et]at h;cases h
  refine⟨uK,λl H1 n1 s1 e1=>?_⟩;have ltp:l≠tp:=λz=>by
   obtain⟨n,et,_⟩:=T0.ex;rw[z,et]at n1;cases n1
  dsimp only[jS];refine⟨_,rfl,_,_,rfl,rfl,L+1,rfl,by omega,by omega,vH (n:=L+1) (StI H tp l L) (.mk (xs:=[]) (J:=[]) (λc u h _=>s1 _ _ h) (T0.same s1) e1 .nil ⟨.nil,λ_ h=>(nomatch h),λ_ h=>(nomatch h),λ_ h=>(nomatch h),mW _⟩) (λi σ H2 hi h=>?_) (fun σ H2 h=>?_)⟩
  ·obtain⟨b,t,e,p,j⟩:=h;rename_i u3 u4 u5 xs J;refine⟨_,rfl,L,rfl,by omega,by omega,λl2 H3 n3 s3 e3=>?_⟩;refine BL (n:=L) (CmI (λm=>((pwL L i).take m).map V.int) l2 H2) (by rw[sizeLine_eq];omega) ⟨s3,e3,rfl⟩ (λm ys H4 h=>h.e) ?_ ?_
   ·rintro m mm ys x H4 hx hm hy ⟨s4,e4,ey⟩;have mL:=(CJ hx).2;refine⟨EQ, ?_⟩;have pm:(pwL L i)[m]? = some (pwU L i m):=by unfold pwL;rw[gM,List.getElem?_range mL];rfl
    have fin:∀v:Int,v=pwU L i m->H4 l2=some (.lst ys)/\∃m',m'<mm/\CompW (EZ L) (CmI (λm=>((pwL L i).take m).map V.int) l2 H2) (m+1) m' (ys++[.int v]) (upd H4 l2 (.lst (ys++[.int v]))):=λv hv=>by
     refine kY hx hm hy e4 ⟨kF s4 n3,jI, ?_⟩;rw[ey,gO,pm,hV,hv]
     rfl
    refine⟨_,rfl,_,_,rfl,rfl,_,rfl, ?_⟩;refine QL (λc=>?_) (λc=>?_)
    ·have c:(0:Int)<0+(i:Int):=gP c;refine⟨_,rfl,_,rfl,_,rfl,_,_,rfl,rfl,rfl,_,rfl,fin _ ?_⟩;unfold pwU;have e:decide (V.int (0+(m:Int))=V.int ((L:Int)-(0+(i:Int))))=(decide (0<i)&&decide ((m:Int)=(L:Int)-(i:Int))):=by
      rw[CC,mC (show 0<i by omega),Bool.true_and,Int.zero_add,Int.zero_add]
      rfl
     rw[e]
    ·refine⟨_,rfl,fin _ ?_⟩;unfold pwU;have z:¬0<i:=λz=>c (mC (by omega));rw[hW z]
     rfl
   ·rintro ys H4 hl ⟨s4,e4,ey⟩;rw[show(pwL L i).take L=pwL L i from List.take_of_length_le (by rw[HM];exact mW _)]at ey;refine⟨l2,ys,rfl,.inl ⟨SqL.of e4,λpb npb=>?_⟩⟩;have s5:Same H4 (upd H4 pb (.tup ys)):=kB _ npb;have e5:(upd H4 pb (.tup ys)) pb=some (.tup ys):=jI;generalize upd H4 pb (.tup ys)=H5 at s5 e5;rw[ey]at e5;have s25:=s4.trans s5;refine⟨_,rfl,tp,rfl,t.same s25,λr x H6 n6 b6 t6 e6 sm=>?_⟩;have k26:∀a zs,H2 a=some (.tup zs)->H6 a=some (.tup zs):=λa zs h=>bt (t.same s25) b6 _ _ (s25 _ _ h);have e56:=bt (t.same s25) b6 _ _ e5;have el6:H6 l=some (.lst xs):=b6 _ _ (s25 _ _ e) ltp;have p6:Paired (TrmV H6) xs (tmJ L J):=Paired.to (λ_ _ h=>h.map k26) p;have b06:But tp H H6:=λc u h n=>b6 _ _ (s25 _ _ (b c u h n)) n;have lx:xs.length=J.length:=by rw[Paired.length p];unfold tmJ;rw[hU]
    have lJ:=j.ln;dsimp only[jS];refine⟨_,rfl,r,_,_,_,rfl,rfl,SqT.of e6,rfl,rfl,_,rfl, ?_⟩;refine QL (λc=>?_) (λc=>?_)
    ·have xn:x≠0:=λz=>by rw[z]at c;exact absurd c (by decide)
     refine⟨_,rfl,.inl ⟨rfl,_,SqL.of el6⟩,_,rfl,_,rfl,uM,λpz H7 n7 s7 e7=>⟨l,_,_,rfl,rfl,s7 _ _ el6,by rw[sizeLine_eq];omega, ?_⟩⟩;have nu:∀a zs,H7 a=some (.tup zs)->upd H7 l (.lst (xs++[.ref pz])) a=some (.tup zs):=λa zs h=>by
      rw[jL (λz=>by rw[z,s7 _ _ el6]at h;cases h)];exact h
     refine .mk (xs:=xs++[.ref pz]) (J:=J++[(i,x)]) (λc u h n=>by rw[jL (λz=>by rw[z,n1]at h;cases h)];exact s7 _ _ (b06 c u h n)) ?_ jI ?_ ?_
     ·obtain⟨n,et,h0,h1⟩:=t6.ex;exact⟨n,by rw[jL (Ne.symm ltp)];exact s7 _ _ et,h0,h1⟩
     ·have e:tmJ L (J++[(i,x)])=tmJ L J++[LwS.Trm.mk (pwL L i) x.num x.den]:=by unfold tmJ;rw[hV];rfl
      rw[e];exact Paired.snoc (Paired.to (λ_ _ h=>(h.map λ_ _ z=>s7 _ _ z).map nu) p6) ⟨pz,pb,r,rfl,nu _ _ e7,nu _ _ (s7 _ _ e56),nu _ _ (s7 _ _ e6)⟩
     ·refine⟨?_,λa ha=>?_,λa ha=>?_,λa ha=>?_,by rw[gE];show _+1<=_;omega⟩
      ·rw[List.pairwise_append];refine⟨j.up,List.pairwise_singleton ..,λa ha c hc=>?_⟩;rw[gH.mp hc];exact j.lt a ha
      ·rcases mB.mp ha with ha | ha
       ·exact Nat.lt_succ_of_lt (j.lt a ha)
       ·rw[gH.mp ha];exact hJ _
      ·rcases mB.mp ha with ha | ha
       ·exact j.nz a ha
       ·rw[gH.mp ha];exact xn
      ·rcases mB.mp ha with ha | ha
       ·exact j.sm a ha
       ·rw[gH.mp ha];exact sm
    ·exact .mk (xs:=xs) (J:=J) b06 t6 el6 p6 ⟨j.up,λa ha=>Nat.lt_succ_of_lt (j.lt a ha),j.nz,j.sm,by omega⟩
  ·obtain⟨b,t,e,p,j⟩:=h;rename_i u3 u4 u5 xs J;refine⟨_,rfl,_,rfl,l,xs,rfl,.inl ⟨SqL.of e,λq nq=>?_⟩⟩;have s3:Same H2 (upd H2 q (.tup xs)):=kB _ nq;have e3:(upd H2 q (.tup xs)) q=some (.tup xs):=jI;generalize upd H2 q (.tup xs)=H3 at s3 e3;refine⟨uM,λpp H4 n4 s4 e4=>?_⟩;refine go pp J H4 ?_ (λc u h n=>(s3.trans s4) _ _ (b c u h n)) (t.same (s3.trans s4)) ⟨q,xs,e4,s4 _ _ e3,Paired.to (λ_ _ h=>h.map λ_ _ z=>(s3.trans s4) _ _ z) p⟩ j;have n2:=s3.free n4;cases q:H pp with
   | none=>rfl
   | some u=>
    by_cases z:pp=tp
    ·obtain⟨n,et,_⟩:=t.ex;rw[z,et]at n2;cases n2
    ·rw[b pp u q z]at n2;cases n2
open LwS
def yU(x:Trm):PyData:=.tuple [.tuple (x.ns.map PyData.int),.tuple [.int x.t,.int x.b]]
def xH(aa:Nat)(ts:List Trm):PyData:=.tuple [.int aa,.tuple (ts.map yU)]
theorem KB{H:Hp} :∀ns:List Int,DecVs H (ns.map V.int) (ns.map PyData.int)
 | []=>.nil
 | n::r=>.cons (.int n) (KB r)
theorem TrmV.dec{H:Hp}{v:V}{x:Trm}(h:TrmV H v x):DecV H v (yU x):=by
 obtain⟨r,b,c,rfl,e2,e3⟩:=h.ex;exact .tup e2 (.cons (.tup e3.pw (KB _)) (.cons (.tup e3.nb (.cons (.int _) (.cons (.int _) .nil))) .nil))
theorem KA{H:Hp} :∀{xs:List V} {ts:List Trm},Paired (TrmV H) xs ts->DecVs H xs (ts.map yU)
 | _,_,.nil=>.nil
 | _,_,.cons h t=>.cons h.dec (KA t)
theorem Poly.dec{H:Hp}{p:Addr}{aa:Nat}{ts:List Trm}(h:Poly H p aa ts):DecV H (.ref p) (xH aa ts):=by
 obtain⟨q,xs,e1,e2,e3⟩:=h.ex;exact .tup e1 (.cons (.int _) (.cons (.tup e2 (KA e3)) .nil))
theorem JR:∀ns:List Int,PyData.canLayAll0 (ns.map PyData.int)=true/\PyData.depthAll (ns.map PyData.int)<=5
 | []=>⟨by simp [PyData.canLayAll0],by simp [PyData.depthAll]⟩
 | n::r=>by
  have:=JR r;exact⟨by simp [PyData.canLayAll0,PyData.canLay0,this.1],by simp [PyData.depthAll,PyData.depth];omega⟩
theorem EM:∀ts:List Trm,PyData.canLayAll0 (ts.map yU)=true/\PyData.depthAll (ts.map yU)<=20
 | []=>⟨by simp [PyData.canLayAll0],by simp [PyData.depthAll]⟩
 | x::r=>by
  have h1:=EM r;have h2:=JR x.ns;exact⟨by simp [PyData.canLayAll0,PyData.canLay0,yU,h1.1,h2.1],by simp [PyData.depthAll,PyData.depth,yU];omega⟩
structure Good(aa:Nat)(ts:List Trm):Prop where
 each:∀x∈ts,TmOk aa x
 few:ts.length<=60
 m1:1<=aa
 m4:aa<=4
 up:ts.Pairwise λx y=>LwD.xU x.ns y.ns=true
theorem ltOf:∀{a b:List Int},LwD.xU a b=true->LwT.lexLt a b=true
 | [],[],h=>by simp [LwD.xU]at h
 | [],_::_,_=>by rfl
 | _::_,[],h=>by simp [LwD.xU]at h
 | x::xs,y::ys,h=>by
  unfold LwD.xU at h;show(if x=y then LwT.lexLt xs ys else decide (x<y))=true;split
  ·rename_i e;rw[nH e]at h;exact ltOf h
  ·rename_i e;rw[nG e]at h;exact h
theorem zU:∀ns:List Int,xB (ns.map PyData.int)=ns
 | []=>rfl
 | n::r=>by show n::xB (r.map PyData.int)=_;rw[zU r]
theorem RQ{aa:Nat}{x:Trm}(h:TmOk aa x):vG (yU x) aa=true:=by
 show((decide (((x.ns.map PyData.int).length:Int)=aa)&&((x.ns.map PyData.int).all λd=>whF d 0)&&decide ((xB (x.ns.map PyData.int)).sum<=16))&&((decide (1<=x.b)&&decide (Int.gcd x.t x.b=1))&&!decide ([x.t,x.b]=[0,1])))=true;have e1:decide (((x.ns.map PyData.int).length:Int)=aa)=true:=mC (by rw[hU,h.len]);have e2:((x.ns.map PyData.int).all λd=>whF d 0)=true:=List.all_eq_true.mpr λd hd=>by
  obtain⟨n,hn,rfl⟩:=mP.mp hd;exact mC (h.nn n hn)
 have e3:decide ((xB (x.ns.map PyData.int)).sum<=16)=true:=by rw[zU];exact mC h.deg
 have e4:decide (1<=x.b)=true:=mC h.pos;have e5:decide (Int.gcd x.t x.b=1)=true:=mC h.low;have e6:decide ([x.t,x.b]=[0,1])=false:=hW λz=>by injection z with z _;exact h.nz z
 rw[e1,e2,e3,e4,e5,e6]
 rfl
theorem TB{ts:List Trm}(h:ts.Pairwise λx y=>LwD.xU x.ns y.ns=true):FM (ts.map yU)=true:=by
 unfold FM;refine List.all_eq_true.mpr λq hq=>?_;obtain⟨j,hj⟩:=uV.mp hq;obtain⟨h1,h2⟩:=List.getElem?_zip_eq_some.mp hj;rw[List.getElem?_drop,gM]at h2;rw[gM]at h1;cases e1:ts[j]? with
 | none=>rw[e1]at h1;cases h1
 | some a=>
  cases e2:ts[1+j]? with
  | none=>rw[e2]at h2;cases h2
  | some b=>
   rw[e1]at h1;rw[e2]at h2;have a1:yU a=q.1:=Option.some.inj h1;have a2:yU b=q.2:=Option.some.inj h2;rw[<-a1,<-a2];show LwT.lexLt (xB (a.ns.map PyData.int)) (xB (b.ns.map PyData.int))=true;rw[zU,zU];obtain⟨i1,g1⟩:=uQ.mp e1;obtain⟨i2,g2⟩:=uQ.mp e2;have:=List.pairwise_iff_getElem.mp h j (1+j) i1 i2 (by omega);rw[g1,g2]at this;exact ltOf this
theorem MH{aa:Nat}{ts:List Trm}(h:Good aa ts):FZ (xH aa ts)=true:=by
 show((decide (1<=(aa:Int))&&decide ((aa:Int)<=4))&&(decide ((ts.map yU).length<=500)&&(((ts.map yU).all λt=>vG t aa)&&FM (ts.map yU))))=true;have e1:decide (1<=(aa:Int))=true:=mC (by have:=h.m1;omega);have e2:decide ((aa:Int)<=4)=true:=mC (by have:=h.m4;omega);have e3:decide ((ts.map yU).length<=500)=true:=mC (by rw[hU];have:=h.few;omega);have e4:((ts.map yU).all λt=>vG t aa)=true:=List.all_eq_true.mpr λd hd=>by
  obtain⟨x,hx,rfl⟩:=mP.mp hd;exact RQ (h.each x hx)
 rw[e1,e2,e3,e4,TB h.up]
 rfl
theorem MJ{aa:Nat}{ts:List Trm}(h:Good aa ts):suOk (xH aa ts):=by
 show ∀t∈ts.map yU,tmOk t;intro d hd;obtain⟨x,hx,rfl⟩:=mP.mp hd;have ok:=h.each x hx;refine⟨⟨?_,λi hi=>?_⟩,λz hz=>?_⟩
 ·rw[hU,ok.len];exact mN h.m4 (by decide)
 ·obtain⟨n,hn,e⟩:=mP.mp hi;injection e with e
  rw[<-e];exact Int.le_trans (ok.le hn).2 (by decide)
 ·rcases mI.mp hz with rfl | hz
  ·exact Nat.lt_trans ok.st (uZ (by decide) (by decide))
  ·rw[gH]at hz;subst hz;exact Nat.lt_trans ok.sb (uZ (by decide) (by decide))
theorem JI.good{L:Nat}{J:JL}(h:JI L (L+1) J)(l1:1<=L)(l4:L<=4):Good L (tmJ L J):=by
 have mem:∀x∈tmJ L J,∃a∈J,x=LwS.Trm.mk (pwL L a.1) a.2.num a.2.den:=λx hx=>by obtain⟨a,ha,e⟩:=mP.mp hx;exact⟨a,ha,e.symm⟩
 refine⟨λx hx=>?_, ?_,l1,l4, ?_⟩
 ·obtain⟨a,ha,rfl⟩:=mem x hx;have:=h.lt a ha;have pf:=(yZ L (by omega) a.1 (by omega) (by omega)).1;have sd:=(h.sm a ha).dn;have nl:=kS a.2;exact⟨HM _ _,TH _ _,Int.le_trans pf (by decide),nl.1,nl.2,λz=>h.nz a ha (Rat.num_eq_zero.mp z),jR (show a.2.num.natAbs<2^5 by have:(2:Nat)^5=32:=rfl;omega) (by decide),jR (show((a.2.den:Int)).natAbs<2^5 by have:(2:Nat)^5=32:=rfl;omega) (by decide)⟩
 ·unfold tmJ;rw[hU];have:=h.ln;omega
 ·unfold tmJ;rw[List.pairwise_map];refine h.up.imp_of_mem fun {a b} ha hb k=>?_;have:=h.lt b hb;exact((yZ L (by omega) b.1 (by omega) (by omega)).2 a.1 k).2
def AN(x:List Int×Rat):Trm:=⟨x.1,x.2.num,x.2.den⟩
theorem TmQ.trm{K:nI}{H:Hp}{v:V}{x:List Int×Rat}(h:TmQ K H v x):TrmV H v (AN x):=by
 obtain⟨r,b,c,h1,h2,h3,pc,h4,h5⟩:=h;cases h4;exact⟨r,b,c,h1,h2,h3,h5⟩
theorem BC{α β γ:Type}{F:α->β->Prop}{G:α->γ->Prop}{g:β->γ}(h:∀a b,F a b->G a (g b)):∀{l:List α} {m:List β},Paired F l m->Paired G l (m.map g)
 | _,_,.nil=>.nil
 | _,_,.cons k t=>.cons (h _ _ k) (BC h t)
theorem SumQ.poly{K:nI}{H:Hp}{p:Addr}{aa:Nat}{P:Pl}(h:SumQ K H p aa P):Poly H p aa (P.map AN):=by
 obtain⟨q,xs,e1,e2,pr⟩:=h.ex;exact⟨q,xs,e1,e2,BC (λ_ _ k=>k.trm) pr⟩
theorem qTrm_J(L:Nat)(J:JL):(plJ L J).map AN=tmJ L J:=by
 unfold plJ tmJ;rw[List.map_map]
 rfl
def SqOk(aa:Nat)(P:Pl):Prop:=suOk (xH aa (P.map AN))/\FZ (xH aa (P.map AN))=true
theorem JI.sq{L:Nat}{J:JL}(h:JI L (L+1) J)(l1:1<=L)(l4:L<=4):SqOk L (plJ L J):=by
 unfold SqOk;rw[qTrm_J];exact⟨MJ (h.good l1 l4),MH (h.good l1 l4)⟩
end Lw
namespace Lw
open PySem PySem.Spec PyProof.Rows L2 LwQ LwV
inductive RowA where
 | rim (i:Nat)
 | num (x:Rat)
 | sq (P:Pl)
 | plus (i j:Nat)
 | times (i j:Nat)
def RowV(K:nI)(aa:Nat)(H:Hp)(v:V):RowA->Prop
 | .rim i=>∃a,v=.ref a/\H a=some (.tup [.str (Str.ofString "rim"),.int (i:Int)])
 | .num x=>∃(a:Addr) (c:V),v=.ref a/\H a=some (.tup [.str (Str.ofString "number"),c])/\NumK K H c x
 | .sq P=>∃a p,v=.ref a/\H a=some (.tup [.str (Str.ofString "square"),.ref p])/\SumQ K H p aa P
 | .plus i j=>∃a,v=.ref a/\H a=some (.tup [.str (Str.ofString "plus"),.int (i:Int),.int (j:Int)])
 | .times i j=>∃a,v=.ref a/\H a=some (.tup [.str (Str.ofString "times"),.int (i:Int),.int (j:Int)])
theorem lst_ne{H:Hp}{l a:Addr}{xs ys:List V}(e:H l=some (.lst xs))(h:H a=some (.tup ys)):a≠l:=λz=>by rw[z,e]at h;cases h
theorem qX{H H':Hp}{l a:Addr}{xs ys:List V}(e:H l=some (.lst xs))(b:But l H H')(h:H a=some (.tup ys)):H' a=some (.tup ys):=b _ _ h (lst_ne e h)
theorem RY{K:nI}{H H':Hp}{l a:Addr}{xs ys:List V}(e:H l=some (.lst xs))(b:But l H H')(h:SqT K H a ys):SqT K H' a ys:=by
 rcases h with(h | ⟨u,h⟩) | h
 ·exact .inl (.inl (qX e b h))
 ·exact .inl (.inr ⟨u,b _ _ h λz=>by rw[z,e]at h;cases h⟩)
 ·exact .inr h
theorem NumK.but{K:nI}{H H':Hp}{l:Addr}{xs:List V}{v:V}{x:Rat}(h:NumK K H v x)(e:H l=some (.lst xs))(b:But l H H'):NumK K H' v x:=let ⟨p,q,r⟩:=h;⟨p,q,RY e b r⟩
theorem SumQ.but{K:nI}{H H':Hp}{l p:Addr}{xs:List V}{aa:Nat}{P:Pl}(h:SumQ K H p aa P)(e:H l=some (.lst xs))(b:But l H H'):SumQ K H' p aa P:=by
 obtain⟨q,ys,e1,e2,pr⟩:=h.ex;refine⟨q,ys,qX e b e1,qX e b e2,Paired.to (λv x t=>?_) pr⟩;obtain⟨r,u,c,h1,h2,h3,pc,h4,h5⟩:=t;exact⟨r,u,c,h1,qX e b h2,qX e b h3,pc,h4,qX e b h5⟩
theorem SmB.but{K:nI}{H H':Hp}{l p:Addr}{xs:List V}{aa:Nat}{P:Pl}{g s n m:Nat}(h:SmB K H p aa P g s n m)(e:H l=some (.lst xs))(b:But l H H'):SmB K H' p aa P g s n m:=⟨h.q.but e b,h.o,h.b,h.d,h.l⟩
theorem RowV.but{K:nI}{aa:Nat}{H H':Hp}{l:Addr}{xs:List V}(e:H l=some (.lst xs))(b:But l H H'):∀{v:V} {r:RowA},RowV K aa H v r->RowV K aa H' v r
 | _,.rim _,⟨a,h1,h2⟩=>⟨a,h1,qX e b h2⟩
 | _,.num _,⟨a,c,h1,h2,h3⟩=>⟨a,c,h1,qX e b h2,h3.but e b⟩
 | _,.sq _,⟨a,p,h1,h2,h3⟩=>⟨a,p,h1,qX e b h2,h3.but e b⟩
 | _,.plus _ _,⟨a,h1,h2⟩=>⟨a,h1,qX e b h2⟩
 | _,.times _ _,⟨a,h1,h2⟩=>⟨a,h1,qX e b h2⟩
theorem RowV.same{K:nI}{aa:Nat}{H H':Hp}(s:Same H H'):∀{v:V} {r:RowA},RowV K aa H v r->RowV K aa H' v r
 | _,.rim _,⟨a,h1,h2⟩=>⟨a,h1,s _ _ h2⟩
 | _,.num _,⟨a,c,h1,h2,h3⟩=>⟨a,c,h1,s _ _ h2,h3.same s⟩
 | _,.sq _,⟨a,p,h1,h2,h3⟩=>⟨a,p,h1,s _ _ h2,h3.same s⟩
 | _,.plus _ _,⟨a,h1,h2⟩=>⟨a,h1,s _ _ h2⟩
 | _,.times _ _,⟨a,h1,h2⟩=>⟨a,h1,s _ _ h2⟩
structure RowsAt(K:nI)(aa:Nat)(H:Hp)(l:Addr)(rs:List RowA):Prop where
 ex:∃xs,H l=some (.lst xs)/\Paired (RowV K aa H) xs rs
theorem RowsAt.same{K:nI}{aa:Nat}{H H':Hp}{l:Addr}{rs:List RowA}(h:RowsAt K aa H l rs)(s:Same H H'):RowsAt K aa H' l rs:=let ⟨xs,e,p⟩:=h.ex;⟨xs,s _ _ e,Paired.to (λ_ _ k=>k.same s) p⟩
theorem qT{H:Hp}{l:Addr}{o:HO} :But l H (upd H l o):=λc u h n=>by rw[jL n];exact h
theorem RowsAt.app{K:nI}{aa:Nat}{H:Hp}{l:Addr}{rs:List RowA}{xs:List V}{v:V}{r:RowA}(e:H l=some (.lst xs))(p:Paired (RowV K aa H) xs rs)(h:RowV K aa H v r):RowsAt K aa (upd H l (.lst (xs++[v]))) l (rs++[r]):=
 ⟨xs++[v],jI,Paired.snoc (Paired.to (λ_ _ k=>k.but e qT) p) (h.but e qT)⟩
def spPutR:Sp:=λvs H Q _=>∃(l:Addr) (v:V) (xs:List V),vs=[.ref l,v]/\H l=some (.lst xs)/\xs.length<=900/\Q (.int (xs.length:Int)) (upd H l (.lst (xs++[v])))
theorem zN{K:nI}{aa:Nat}{H:Hp}{Q:VK}{l:Addr}{v:V}{rs:List RowA}(r:RowA)(R:RowsAt K aa H l rs)(ln:rs.length<=900)(h:RowV K aa H v r)(go:∀H',But l H H'->RowsAt K aa H' l (rs++[r])->Q (.int (rs.length:Int)) H'):spPutR [.ref l,v] H Q E0:=by
 obtain⟨xs,e,p⟩:=R.ex;have lx:xs.length=rs.length:=Paired.length p;refine⟨l,v,xs,rfl,e,by omega, ?_⟩;rw[lx];exact go _ qT (RowsAt.app e p h)
def CO(K:nI):Sp:=λvs H Q _=>∃(l:Addr) (p aa:Nat) (c:V) (x:Rat) (rs:List RowA),vs=[.ref l,.int (p:Int),c]/\RowsAt K aa H l rs/\NumK K H c x/\rs.length<=800/\
 ∀H',But l H H'->RowsAt K aa H' l (rs++[.num x,.times p rs.length])->Q (.int ((rs.length+1:Nat):Int)) H'
def wH:Nat->Nat->List Nat->List RowA
 | _,_,[]=>[]
 | n,t,p::ps=>.plus t p::wH (n+1) n ps
def GB(K:nI):Sp:=λvs H Q _=>∃(l q:Addr) (aa t:Nat) (ps:List Nat) (rs:List RowA),vs=[.ref l,.ref q]/\l≠q/\RowsAt K aa H l rs/\H q=some (.lst ((t::ps).map λ(p:Nat)=>V.int (p:Int)))/\rs.length+ps.length<=800/\
 ∀H',But l H H'->RowsAt K aa H' l (rs++wH rs.length t ps)->Q .non H'
inductive PtI(K:nI)(H:Hp)(l q:Addr)(aa:Nat)(rs:List RowA)(t:Nat)(ps:List Nat)(i:Nat):L2.St->Hp->Prop where
 | mk {u:Option V} {H':Hp} (b:But l H H') (R:RowsAt K aa H' l (rs++wH rs.length t (ps.take i))):PtI K H l q aa rs t ps i [some (.ref l),some (.ref q),some (.int ((if i=0 then t else rs.length+i-1:Nat):Int)),u] H'
theorem FE:∀(n t:Nat) (ps:List Nat) (p:Nat),wH n t (ps++[p])=wH n t ps++[.plus (if ps.length=0 then t else n+ps.length-1) p]
 | n,t,[],p=>rfl
 | n,t,[a],p=>rfl
 | n,t,a::b::ps,p=>by
  have ih:=FE (n+1) n (b::ps) p;rw[nG (by simp)]at ih;show .plus t a::wH (n+1) n (b::ps++[p])=.plus t a::(wH (n+1) n (b::ps)++_);rw[ih,nG (by simp)];show RowA.plus t a::(wH (n+1) n (b::ps)++[RowA.plus (n+1+(ps.length+1)-1) p])=RowA.plus t a::(wH (n+1) n (b::ps)++[RowA.plus (n+(ps.length+1+1)-1) p]);rw[show n+1+(ps.length+1)-1=n+(ps.length+1+1)-1 by omega]
theorem IL:∀(n t:Nat) (ps:List Nat),(wH n t ps).length=ps.length
 | _,_,[]=>rfl
 | n,t,a::ps=>by show(wH (n+1) n ps).length+1=_;rw[IL];rfl
variable{P:Program}{w:World}{K:nI}{mg:Str->Option Value}{base:Heap}{f fd:_}
theorem scPutR:FnScope ["rows","row"] ["rows","row"] (jJ wD):=⟨rfl,rfl,rfl,by decide +kernel,rfl,by decide +kernel,by decide +kernel⟩
theorem YK(F:Fun K "put" "put" wD f fd)(T:Txt mg):FnOk P w K mg base CX0 1 f fd ["rows","row"] spPutR:=by
 refine F.ok scPutR (λvs H Q E h=>?_) (λcdv A outer s H vs Q E hr h=>?_)
 ·obtain⟨l,v,xs,rfl,_⟩:=h
  rfl
 ·obtain⟨l,v,xs,rfl,e,ln,go⟩:=h;refine⟨_,jC (qQ (uC PySem.F.plainAttrs_list PySem.F.slot_list_append PySem.F.type_list_append qE (pv 0) (jA (pv 1) jB))) (jE (jM (jT xY (jX jW (by rfl) T.len PySem.boot_len (jA (pv 0) jB)) jF))), ?_⟩;try dsimp only[cxK]
  refine⟨_,rfl,.inl ⟨rfl,_,SqL.of e⟩,_,rfl,l,xs,_,rfl,rfl,e,by rw[sizeLine_eq];omega, ?_⟩;refine⟨_,rfl,l,_,rfl,.inl (SqL.of jI),_,_,rfl,rfl, ?_⟩;show Q (.int (((xs++[v]).length:Int)-1)) _;rw[show(((xs++[v]).length:Nat):Int)-1=(xs.length:Int) by rw[gE,List.length_singleton];omega];exact go
theorem scPutW:FnScope ["rows","place","weight"] ["rows","place","weight"] (jJ CY):=⟨rfl,rfl,rfl,by decide +kernel,rfl,by decide +kernel,by decide +kernel⟩
theorem YI{fP:Addr}{fdP:FuncData}(F:Fun K "put_weighted" "put_weighted" CY f fd)(DP:Df K mg "put" wD ["rows","row"] fP fdP)(GP:FnOk P w K mg base CX0 1 fP fdP ["rows","row"] spPutR):FnOk P w K mg base CX0 2 f fd ["rows","place","weight"] (CO K):=by
 refine F.ok scPutW (λvs H Q E h=>?_) (λcdv A outer s H vs Q E hr h=>?_)
 ·obtain⟨l,p,aa,c,x,rs,rfl,_⟩:=h
  rfl
 ·obtain⟨l,p,aa,c,x,rs,rfl,R,nx,ln,go⟩:=h;refine⟨_,jE (jM (jD GP hr rfl DP.m DP.F.kp DP.b .nil jK (jA (pv 0) (jA (jQ (jA vO (jA (pv 1) (jA (jD GP hr rfl DP.m DP.F.kp DP.b .nil jK (jA (pv 0) (jA (jQ (jA vO (jA (pv 2) jB))) jB))) jB)))) jB)))), ?_⟩;try dsimp only[cxK]
  refine⟨_,rfl,_,rfl,_,rfl,_,rfl,uM,λp1 H1 n1 s1 e1=>?_⟩;dsimp only[tNil];refine zN (.num x) (R.same s1) (by omega) ⟨p1,c,rfl,e1,nx.same s1⟩ λH2 b2 R2=>?_;refine⟨uN,λp2 H3 n3 s3 e3=>?_⟩;dsimp only[tNil];refine zN (.times p rs.length) (R2.same s3) (by rw[gE];show _+1<=_;omega) ⟨p2,rfl,e3⟩ λH4 b4 R4=>?_;rw[List.append_assoc]at R4;rw[show(((rs++[RowA.num x]).length:Nat):Int)=((rs.length+1:Nat):Int) by rw[gE];rfl];exact go H4 (λa u h n=>b4 _ _ (s3 _ _ (b2 _ _ (s1 _ _ h) n)) n) R4
theorem scPutT:FnScope ["rows","places","total","place"] ["rows","places"] (jJ FJ):=⟨rfl,rfl,rfl,by decide +kernel,rfl,by decide +kernel,by decide +kernel⟩
theorem YJ{fP:Addr}{fdP:FuncData}(F:Fun K "put_total" "put_total" FJ f fd)(DP:Df K mg "put" wD ["rows","row"] fP fdP)(GP:FnOk P w K mg base CX0 1 fP fdP ["rows","row"] spPutR):FnOk P w K mg base CX0 2 f fd ["rows","places"] (GB K):=by
 refine F.ok scPutT (λvs H Q E h=>?_) (λcdv A outer s H vs Q E hr h=>?_)
 ·obtain⟨l,q,aa,t,ps,rs,rfl,_⟩:=h
  rfl
 ·obtain⟨l,q,aa,t,ps,rs,rfl,lq,R,eq,ln,go⟩:=h;refine⟨_,jC (jO (i:=2) scPutT.nd rfl (Or.inl rfl) (kG qG (pv 1) jF (λ_ _=>rfl))) (jE (qA PassesOwn.never rfl (xI (zD CU (pv 1) (yK jF) uB)) (jH (i:=3) scPutT.nd rfl (Or.inl rfl)) (jE (jO (i:=2) scPutT.nd rfl (Or.inl rfl) (jD GP hr rfl DP.m DP.F.kp DP.b .nil jK (jA (pv 0) (jA (jQ (jA vO (jA (pv 2) (jA (pv 3) jB)))) jB))))))), ?_⟩;try dsimp only[cxK]
  refine⟨_,rfl,q,_,0,_,rfl,rfl,SqL.of eq,vM (j:=0) rfl, ?_⟩;dsimp only[jS];have ec:wC ((t::ps).map λ(p:Nat)=>V.int (p:Int)) (some 1) none=ps.map λ(p:Nat)=>V.int (p:Int):=by rw[EX];rfl
  refine⟨_,rfl,_,rfl,q,_,rfl,SqL.of eq,λl2 H1 n1 s1 e1=>?_⟩;rw[ec]at e1;obtain⟨xs0,el,_⟩:=R.ex;have ll2:l2≠l:=λz=>by rw[z,el]at n1;cases n1
  refine⟨l2,rfl,⟨_,SqL.of e1⟩,zL (K:=K) (a:=l2) (xs:=ps.map λ(p:Nat)=>V.int (p:Int)) (PtI K H1 l q aa rs t ps) (.mk (But.refl _ _) (by rw[List.take_zero];show RowsAt K aa H1 l (rs++[]);rw[List.append_nil];exact R.same s1)) (λi σ H2 _ h=>?_) (λi x σ H2 hx h=>?_) (fun σ H2 h=>?_)⟩
  ·obtain⟨b,_⟩:=h;exact SqL.of (b _ _ e1 ll2)
  ·obtain⟨b,R2⟩:=h;rw[gM]at hx;cases hp:ps[i]? with
   | none=>rw[hp]at hx;cases hx
   | some p=>
    rw[hp]at hx;cases hx;have il:=(uQ.mp hp).1;have ll:(rs++wH rs.length t (ps.take i)).length=rs.length+i:=by rw[gE,IL,gT];omega
    refine⟨_,rfl,_,rfl,_,rfl,uN,λp1 H3 n3 s3 e3=>?_⟩;dsimp only[tNil];refine zN (.plus (if i=0 then t else rs.length+i-1) p) (R2.same s3) (by omega) ⟨p1,rfl,e3⟩ λH4 b4 R4=>?_;rw[ll];refine .mk (λa u h n=>b4 _ _ (s3 _ _ (b a u h n)) n) ?_;rw[gO,hp];show RowsAt K aa H4 l (rs++wH rs.length t (ps.take i++[p]));rw[FE,<-List.append_assoc,gT,Nat.min_eq_left (mT il)];exact R4
  ·obtain⟨b,R2⟩:=h;rw[hU,gW]at R2;exact go H2 (λa u h n=>b _ _ (s1 _ _ h) n) R2
open LwS
def Cst(K:nI)(mg:Str->Option Value)(x:Str)(i j:Int):Prop:=∃a,mg x=some (.ref a)/\∀H,SqT K H a [.int i,.int j]
abbrev NgtT(K:nI)(mg:Str->Option Value):Prop:=Cst K mg "NOUGHT_turned" 0 1
abbrev OneT(K:nI)(mg:Str->Option Value):Prop:=Cst K mg "ONE_turned" 1 1
abbrev NgtP(K:nI)(mg:Str->Option Value):Prop:=Cst K mg "NOUGHT_pieces" 0 1
abbrev OneW(K:nI)(mg:Str->Option Value):Prop:=Cst K mg "ONE_rows" 1 1
def blk:Nat->List (RowA×Rat)->List RowA
 | _,[]=>[]
 | n,(h,x)::r=>h::.num x::.times n (n+1)::blk (n+3) r
theorem EY:∀(n:Nat) (r:List (RowA×Rat)) (h:RowA) (x:Rat),blk n (r++[(h,x)])=blk n r++[h,.num x,.times (n+3*r.length) (n+3*r.length+1)]
 | n,[],h,x=>rfl
 | n,(a,b)::r,h,x=>by
  show a::.num b::.times n (n+1)::blk (n+3) (r++[(h,x)])=_;rw[EY (n+3) r h x,gX,show n+3+3*r.length=n+3*(r.length+1) by omega]
  rfl
theorem AH:∀(n:Nat) (r:List (RowA×Rat)),(blk n r).length=3*r.length
 | _,[]=>rfl
 | n,(a,b)::r=>by
  show(blk (n+3) r).length+3=_;rw[AH (n+3) r,gX];omega
def plc(n k:Nat):List Nat:=(List.range k).map λi=>n+3*i+2
theorem JA(n k:Nat):plc n (k+1)=plc n k++[n+3*k+2]:=by
 unfold plc;rw[List.range_succ,hV]
 rfl
abbrev nV(ps:List Nat):List V:=ps.map λ(p:Nat)=>V.int (p:Int)
theorem BW(ps:List Nat)(p:Nat):nV (ps++[p])=nV ps++[.int (p:Int)]:=hV
def PairV(K:nI)(aa:Nat)(H:Hp)(v:V)(e:Rat×Pl):Prop:=∃t c p:Addr,v=.ref t/\H t=some (.tup [.ref c,.ref p])/\At2 H c e.1.num e.1.den/\SumQ K H p aa e.2
def BE(aa:Nat)(e:Rat×Pl):PyData:=.tuple [.tuple [.int e.1.num,.int e.1.den],xH aa (e.2.map AN)]
theorem PairV.dec{K:nI}{aa:Nat}{H:Hp}{v:V}{e:Rat×Pl}(h:PairV K aa H v e):DecV H v (BE aa e):=by
 obtain⟨t,c,p,rfl,h1,h2,h3⟩:=h;exact .tup h1 (.cons (.tup h2 (.cons (.int _) (.cons (.int _) .nil))) (.cons h3.poly.dec .nil))
theorem PairV.same{K:nI}{aa:Nat}{H H':Hp}{v:V}{e:Rat×Pl}(h:PairV K aa H v e)(s:Same H H'):PairV K aa H' v e:=let ⟨t,c,p,h0,h1,h2,h3⟩:=h;⟨t,c,p,h0,s _ _ h1,s _ _ h2,h3.same s⟩
theorem FS{K:nI}{aa:Nat}{H:Hp} :∀{xs:List V} {es:List (Rat×Pl)},Paired (PairV K aa H) xs es->DecVs H xs (es.map (BE aa))
 | _,_,.nil=>.nil
 | _,_,.cons h t=>.cons h.dec (FS t)
theorem FO(aa:Nat):∀es:List (Rat×Pl),PyData.canLayAll0 (es.map (BE aa))=true/\PyData.depthAll (es.map (BE aa))<=40
 | []=>⟨by simp [PyData.canLayAll0],by simp [PyData.depthAll]⟩
 | e::r=>by
  have h1:=FO aa r;have h2:=EM (e.2.map AN);exact⟨by simp [-List.map_map,PyData.canLayAll0,PyData.canLay0,BE,xH,h1.1,h2.1],by simp [-List.map_map,PyData.depthAll,PyData.depth,BE,xH];omega⟩
theorem TW(aa:Nat)(es:List (Rat×Pl)):DataOk (.list (es.map (BE aa))):=by
 have h1:=FO aa es;exact⟨by simp [PyData.canLay0,h1.1],by simp [PyData.depth];omega⟩
theorem ZI:DataOk (.list []):=⟨by simp [PyData.canLay0,PyData.canLayAll0],by simp [PyData.depth,PyData.depthAll]⟩
def sqH(es:List (Rat×Pl)):List (RowA×Rat):=es.map λe=>(.sq e.2,e.1)
def sqR(es:List (Rat×Pl)):List RowA:=blk 0 (sqH es)++wH (3*es.length) 2 ((plc 0 es.length).drop 1)
def SD(K:nI):Sp:=λvs H Q _=>∃(a:Addr) (aa:Nat) (xs:List V) (es:List (Rat×Pl)),vs=[.ref a]/\H a=some (.lst xs)/\Paired (PairV K aa H) xs es/\0<es.length/\es.length<=100/\
 ∀(l:Addr) (H':Hp),H l=none->Same H H'->RowsAt K aa H' l (sqR es)->Q (.ref l) H'
structure Two(K:nI)(aa:Nat)(H H':Hp)(l q:Addr)(rs:List RowA)(ps:List Nat):Prop where
 s:Same H H'
 r:RowsAt K aa H' l rs
 p:H' q=some (.lst (nV ps))
theorem Two.next{K:nI}{aa:Nat}{H H1 H2:Hp}{l q:Addr}{rs rs2:List RowA}{ps:List Nat}{p:Nat}(h:Two K aa H H1 l q rs ps)(lq:l≠q)(nl:H l=none)(nq:H q=none)(b:But l H1 H2)(R:RowsAt K aa H2 l rs2):Two K aa H (upd H2 q (.lst (nV (ps++[p])))) l q rs2 (ps++[p]):=by
 have e2:=b _ _ h.p (Ne.symm lq);obtain⟨xs,el,pr⟩:=R.ex;refine⟨λa u ha=>?_,⟨xs,by rw[jL lq];exact el,Paired.to (λ_ _ k=>k.but e2 qT) pr⟩,jI⟩;rw[jL (jU ha nq)];exact b _ _ (h.s _ _ ha) (jU ha nl)
inductive SqI(K:nI)(aa:Nat)(H:Hp)(a l q:Addr)(es:List (Rat×Pl))(i:Nat):L2.St->Hp->Prop where
 | mk {u v:Option V} {H':Hp} (h:Two K aa H H' l q (blk 0 (sqH (es.take i))) (plc 0 i)):SqI K aa H a l q es i [some (.ref a),some (.ref l),some (.ref q),u,v] H'
def wtP(ys:List Rat)(i:Nat):List (RowA×Rat):=(List.range i).map λj=>(.rim j,ys.getD j 0)
def wtR(x:Rat)(ys:List Rat):List RowA:=.num x::blk 1 (wtP ys ys.length)++wH (1+3*ys.length) 0 (plc 1 ys.length)
def SC(K:nI):Sp:=λvs H Q _=>∃(v:V) (a b:Addr) (aa:Nat) (x:Rat) (xs ws:List V) (ys:List Rat),vs=[v,.ref a,.ref b]/\NumK K H v x/\H a=some (.lst xs)/\H b=some (.lst ws)/\Paired (NumK K H) ws ys/\xs.length=ys.length/\ys.length<=100/\
 ∀(l:Addr) (H':Hp),H l=none->Same H H'->RowsAt K aa H' l (wtR x ys)->Q (.ref l) H'
inductive WtI(K:nI)(aa:Nat)(H:Hp)(v:V)(a b l q:Addr)(x:Rat)(ys:List Rat)(i:Nat):L2.St->Hp->Prop where
 | mk {u:Option V} {H':Hp} (h:Two K aa H H' l q ([.num x]++blk 1 (wtP ys i)) (0::plc 1 i)):WtI K aa H v a b l q x ys i [some v,some (.ref a),some (.ref b),some (.ref l),some (.ref q),u] H'
theorem Paired.at'{α β:Type}{F:α->β->Prop} :∀{l:List α} {m:List β} {i:Nat},Paired F l m->i<m.length->∃x,l[i]? = some x/\∀{d:β},F x (m.getD i d)
 | _,_,_,.nil,h=>by simp at h
 | _,_,0,.cons h _,_=>⟨_,rfl,h⟩
 | _,_,i+1,.cons _ t,h=>Paired.at' t (i:=i) (by simpa using h)
theorem RowsAt.nil{K:nI}{aa:Nat}{H:Hp}{l:Addr}(e:H l=some (.lst [])):RowsAt K aa H l []:=⟨[],e,.nil⟩
theorem TL{n k:Nat}(h:0<k):plc n k=(n+2)::(plc n k).drop 1:=by
 obtain⟨j,rfl⟩:∃j,k=j+1:=⟨k-1,by omega⟩;unfold plc;rw[List.range_succ_eq_map]
 rfl
theorem scRSq:FnScope ["some","rows","places","weight","root"] ["some"] (jJ SV):=⟨rfl,rfl,rfl,by decide +kernel,rfl,by decide +kernel,by decide +kernel⟩
theorem ok_rsq{fP fW fT:Addr}{fdP fdW fdT:FuncData}(F:Fun K "rows_of_squares" "rows_of_squares" SV f fd)(N:NgtT K mg)(DP:Df K mg "put" wD ["rows","row"] fP fdP)(GP:FnOk P w K mg base CX0 1 fP fdP ["rows","row"] spPutR)(DW:Df K mg "put_weighted" CY ["rows","place","weight"] fW fdW)(GW:FnOk P w K mg base CX0 2 fW fdW ["rows","place","weight"] (CO K))(DT:Df K mg "put_total" FJ ["rows","places"] fT fdT)(GT:FnOk P w K mg base CX0 2 fT fdT ["rows","places"] (GB K)):FnOk P w K mg base CX0 3 f fd ["some"] (SD K):=by
 obtain⟨nA,hn,hN⟩:=N;refine F.ok scRSq (λvs H Q E h=>?_) (λcdv A outer s H vs Q E hr h=>?_)
 ·obtain⟨a,aa,xs,es,rfl,_⟩:=h
  rfl
 ·obtain⟨a,aa,xs,es,rfl,ea,pr,h0,h1,go⟩:=h;have hr1:Room 1 _:=hr.mono (by decide);refine⟨_,jC (kT (kI (UB hr.units) (pv 0) (kH jB) (kD _)) (jE (jM (kH (jA (jQ (jA vO (jA (kL (v:=.ref nA) (by rfl) hn rfl) jB))) jB)))) kC) (jC (jO (i:=1) scRSq.nd rfl (Or.inl rfl) (kH jB)) (jC (jO (i:=2) scRSq.nd rfl (Or.inl rfl) (kH jB)) (jC (qA PassesOwn.never rfl (xI (pv 0)) (jY rfl (jG (jH (i:=3) scRSq.nd rfl (Or.inl rfl)) (jG (jH (i:=4) scRSq.nd rfl (Or.inl rfl)) jV))) (jE (qQ (uC PySem.F.plainAttrs_list PySem.F.slot_list_append PySem.F.type_list_append qE (pv 2) (jA (jD GW hr rfl DW.m DW.F.kp DW.b .nil jK (jA (pv 1) (jA (jD GP hr1 rfl DP.m DP.F.kp DP.b .nil jK (jA (pv 1) (jA (jQ (jA vO (jA (pv 4) jB))) jB))) (jA (pv 3) jB)))) jB))))) (jC (qQ (jD GT hr rfl DT.m DT.F.kp DT.b .nil jK (jA (pv 1) (jA (pv 2) jB)))) (jE (jM (pv 1))))))), ?_⟩;try dsimp only[cxK]
  have ene:PyData.eqv (.list (es.map (BE aa))) (.list [])=false:=by
   cases es with
   | nil=>exact absurd h0 (by simp)
   | cons e r=>simp [PyData.eqv,PyData.eqvAll]
  refine⟨_,rfl,uK,λz1 H1 n1 s1 e1=>⟨_,_,.lst (s1 _ _ ea) (FS (Paired.to (λ_ _ k=>k.same s1) pr)),.lst e1 .nil,TW aa es,ZI,_,rfl,xE ene ?_⟩⟩;refine⟨uK,λl H2 n2 s2 e2=>⟨uK,λq H3 n3 s3 e3=>?_⟩⟩;dsimp only[jS];have s03:=s1.trans (s2.trans s3);have nl:H l=none:=s1.free n2;have nq:H q=none:=(s1.trans s2).free n3;have lq:l≠q:=λz=>by rw[<-z,e2]at n3;cases n3
  have lx:xs.length=es.length:=Paired.length pr;refine⟨_,rfl,a,rfl,⟨_,SqL.of (s03 _ _ ea)⟩,zL (K:=K) (a:=a) (xs:=xs) (SqI K aa H a l q es) (.mk ⟨s03,.nil (s3 _ _ e2),e3⟩) (λi σ H4 _ h=>?_) (λi x σ H4 hx h=>?_) (fun σ H4 h=>?_)⟩
  ·obtain⟨h⟩:=h;exact SqL.of (h.s _ _ ea)
  ·obtain⟨h⟩:=h;obtain⟨e,he,t,c,p,rfl,t1,t2,t3⟩:=Paired.at pr hx;have il:=(uQ.mp he).1;refine gT2 (SqT.of (h.s _ _ t1)) rfl ?_;have bl:(blk 0 (sqH (es.take i))).length=3*i:=by rw[AH];unfold sqH;rw[hU,gT];omega
   refine⟨_,rfl,.inl ⟨rfl,_,SqL.of h.p⟩,_,rfl,_,rfl,_,rfl,uM,λp1 H5 n5 s5 e5=>?_⟩;dsimp only[tNil];have t3':=t3.same (h.s.trans s5);refine zN (.sq e.2) (h.r.same s5) (by omega) ⟨p1,p,rfl,e5,t3'⟩ λH6 b6 R6=>?_;obtain⟨ys,el,_⟩:=(h.r.same s5).ex;refine⟨_,rfl,l,3*i,aa,.ref c,e.1,_,by rw[bl];rfl,R6,NumK.of (qX el b6 ((h.s.trans s5) _ _ t2)),by rw[gE];show _+1<=_;omega,λH7 b7 R7=>?_⟩;have b47:But l H4 H7:=λa u ha n=>b7 _ _ (b6 _ _ (s5 _ _ ha) n) n;have e7:=b47 _ _ h.p (Ne.symm lq);refine⟨q,_,_,rfl,rfl,e7,by rw[hU];unfold plc;rw[hU,gQ,sizeLine_eq];omega, ?_⟩;have N:=h.next (p:=3*i+2) lq nl nq b47 R7;rw[gE,bl]at N ⊢;rw[BW]at N;refine .mk ?_;rw[show plc 0 (i+1)=plc 0 i++[3*i+2] by rw[JA,Nat.zero_add]];have eb:blk 0 (sqH (es.take (i+1)))=blk 0 (sqH (es.take i))++[.sq e.2]++[.num e.1,.times (3*i) (3*i+1)]:=by
    rw[gO,he];show blk 0 (sqH (es.take i++[e]))=_;unfold sqH;rw[hV];show blk 0 (_++[(RowA.sq e.2,e.1)])=_;rw[EY,hU,gT,Nat.min_eq_left (mT il),Nat.zero_add,List.append_assoc]
    rfl
   rw[eb];exact N
  ·obtain⟨h⟩:=h;rw[lx,gW]at h;have pc:=TL (n:=0) h0;have bl:(blk 0 (sqH es)).length=3*es.length:=by rw[AH];unfold sqH;rw[hU]
   have pl:((plc 0 es.length).drop 1).length=es.length-1:=by unfold plc;rw[List.length_drop,hU,gQ]
   refine⟨_,rfl,_,rfl,l,q,aa,2,(plc 0 es.length).drop 1,_,rfl,lq,h.r,by rw[h.p];show some (HO.lst (nV (plc 0 es.length)))=_;rw[pc];rfl,by omega,λH5 b5 R5=>⟨_,rfl, ?_⟩⟩;rw[bl]at R5;exact go l H5 nl (λa u ha=>b5 _ _ (h.s _ _ ha) (jU ha nl)) R5
theorem scRWt:FnScope ["number","rims","weights","rows","places","at"] ["number","rims","weights"] (jJ SU):=⟨rfl,rfl,rfl,by decide +kernel,rfl,by decide +kernel,by decide +kernel⟩
theorem ok_rwt{fP fW fT:Addr}{fdP fdW fdT:FuncData}(F:Fun K "rows_of_weights" "rows_of_weights" SU f fd)(T:Txt mg)(DP:Df K mg "put" wD ["rows","row"] fP fdP)(GP:FnOk P w K mg base CX0 1 fP fdP ["rows","row"] spPutR)(DW:Df K mg "put_weighted" CY ["rows","place","weight"] fW fdW)(GW:FnOk P w K mg base CX0 2 fW fdW ["rows","place","weight"] (CO K))(DT:Df K mg "put_total" FJ ["rows","places"] fT fdT)(GT:FnOk P w K mg base CX0 2 fT fdT ["rows","places"] (GB K)):FnOk P w K mg base CX0 3 f fd ["number","rims","weights"] (SC K):=by
 refine F.ok scRWt (λvs H Q E h=>?_) (λcdv A outer s H vs Q E hr h=>?_)
 ·obtain⟨v,a,b,aa,x,xs,ws,ys,rfl,_⟩:=h
  rfl
 ·obtain⟨v,a,b,aa,x,xs,ws,ys,rfl,nx,ea,eb,pr,lx,h1,go⟩:=h;have hr1:Room 1 _:=hr.mono (by decide);refine⟨_,jC (jO (i:=3) scRWt.nd rfl (Or.inl rfl) (kH (jA (jQ (jA vO (jA (pv 0) jB))) jB))) (jC (jO (i:=4) scRWt.nd rfl (Or.inl rfl) (kH (jA jF jB))) (jC (qA PassesOwn.never rfl (qR (by rfl) T.rng (jA (jX jW (by rfl) T.len PySem.boot_len (jA (pv 1) jB)) jB)) (jH (i:=5) scRWt.nd rfl (Or.inl rfl)) (jE (qQ (uC PySem.F.plainAttrs_list PySem.F.slot_list_append PySem.F.type_list_append qE (pv 4) (jA (jD GW hr rfl DW.m DW.F.kp DW.b .nil jK (jA (pv 3) (jA (jD GP hr1 rfl DP.m DP.F.kp DP.b .nil jK (jA (pv 3) (jA (jQ (jA vO (jA (pv 5) jB))) jB))) (jA (kG qG (pv 2) (pv 5) (λ_ _=>rfl)) jB)))) jB))))) (jC (qQ (jD GT hr rfl DT.m DT.F.kp DT.b .nil jK (jA (pv 3) (jA (pv 4) jB)))) (jE (jM (pv 3)))))), ?_⟩;try dsimp only[cxK]
  have lw:ws.length=ys.length:=Paired.length pr;refine⟨_,rfl,uM,λp0 H1 n1 s1 e1=>⟨uL,λl H2 n2 s2 e2=>⟨uL,λq H3 n3 s3 e3=>?_⟩⟩⟩;dsimp only[jS];have s03:=s1.trans (s2.trans s3);have nl:H l=none:=s1.free n2;have nq:H q=none:=(s1.trans s2).free n3;have lq:l≠q:=λz=>by rw[<-z,e2]at n3;cases n3
  have R0:RowsAt K aa H3 l ([.num x]++blk 1 (wtP ys 0)):=⟨_,s3 _ _ e2,.cons ⟨p0,v,rfl,(s2.trans s3) _ _ e1,nx.same s03⟩ .nil⟩;refine⟨_,rfl,a,_,rfl,.inl (SqL.of (s03 _ _ ea)),xs.length,rfl,by omega,by omega,vH (n:=xs.length) (WtI K aa H v a b l q x ys) (.mk ⟨s03,R0,e3⟩) (λi σ H4 il h=>?_) (fun σ H4 h=>?_)⟩
  ·obtain⟨h⟩:=h;rw[lx]at il;have bl:([RowA.num x]++blk 1 (wtP ys i)).length=1+3*i:=by rw[gE,AH];unfold wtP;rw[hU,gQ];rfl
   obtain⟨z,hz,nz⟩:=Paired.at' pr (i:=i) (by omega);have hz2:ys[i]? = some (ys.getD i 0):=by rw[uO,uR il];rfl
   refine⟨_,rfl,.inl ⟨rfl,_,SqL.of h.p⟩,_,rfl,_,rfl,_,rfl,uM,λp1 H5 n5 s5 e5=>?_⟩;dsimp only[tNil];refine zN (.rim i) (h.r.same s5) (by omega) ⟨p1,rfl,by rw[e5,Int.zero_add]⟩ λH6 b6 R6=>?_;obtain⟨ys',el,_⟩:=(h.r.same s5).ex;have nb:=((nz (d:=0)).same (h.s.trans s5)).but el b6;have eb6:=b6 _ _ ((h.s.trans s5) _ _ eb) (λy=>by rw[y,nl]at eb;cases eb);refine⟨_,rfl,_,rfl,b,_,_,_,rfl,rfl,SqL.of eb6,by rw[Int.zero_add];exact vM hz,l,1+3*i,aa,_,ys.getD i 0,_,by rw[bl];rfl,R6,nb,by rw[gE,bl];show _+1<=_;omega,λH7 b7 R7=>?_⟩;have b47:But l H4 H7:=λc u ha n=>b7 _ _ (b6 _ _ (s5 _ _ ha) n) n;have e7:=b47 _ _ h.p (Ne.symm lq);refine⟨q,_,_,rfl,rfl,e7,by rw[hU,gX];unfold plc;rw[hU,gQ,sizeLine_eq];omega, ?_⟩;have N:=h.next (p:=1+3*i+2) lq nl nq b47 R7;rw[gE,bl]at N ⊢;rw[BW]at N;refine .mk ?_;rw[show(0::plc 1 (i+1))=(0::plc 1 i)++[1+3*i+2] by rw[JA];rfl];have eb:[RowA.num x]++blk 1 (wtP ys (i+1))=[RowA.num x]++blk 1 (wtP ys i)++[.rim i]++[.num (ys.getD i 0),.times (1+3*i) (1+3*i+1)]:=by
    rw[show wtP ys (i+1)=wtP ys i++[(.rim i,ys.getD i 0)] by unfold wtP;rw[List.range_succ,hV];rfl,EY,show(wtP ys i).length=i by unfold wtP;rw[hU,gQ],List.append_assoc,List.append_assoc]
    rfl
   rw[eb];exact N
  ·obtain⟨h⟩:=h;rw[lx]at h;have bl:([RowA.num x]++blk 1 (wtP ys ys.length)).length=1+3*ys.length:=by rw[gE,AH];unfold wtP;rw[hU,gQ];rfl
   have pl:(plc 1 ys.length).length=ys.length:=by unfold plc;rw[hU,gQ]
   refine⟨_,rfl,_,rfl,l,q,aa,0,plc 1 ys.length,_,rfl,lq,h.r,h.p,by omega,λH5 b5 R5=>⟨_,rfl, ?_⟩⟩;rw[bl]at R5;exact go l H5 nl (λc u ha=>b5 _ _ (h.s _ _ ha) (jU ha nl)) R5
def LC(K:nI):Sp:=λvs H Q _=>∃(l:Addr) (r aa:Nat) (rs:List RowA),vs=[.ref l,.int (r:Int),.int 1]/\RowsAt K aa H l rs/\rs.length<=100/\
 ∀(q:Addr) (H':Hp),H q=none->But l H H'->RowsAt K aa H' l (rs++[.rim r,.num 1,.times (rs.length+1) rs.length])->H' q=some (.lst (nV [rs.length+1,rs.length+2]))->Q (.ref q) H'
inductive PpI(K:nI)(H:Hp)(l q:Addr)(r aa:Nat)(rs:List RowA)(i:Nat):L2.St->Hp->Prop where
 | mk {u:Option V} {H':Hp} (b:But l H H') (R:RowsAt K aa H' l (rs++[.rim r,.num 1]++(if i=0 then []else [.times (rs.length+1) rs.length]))) (e:H' q=some (.lst (nV ((rs.length+1)::(if i=0 then []else [rs.length+2]))))):PpI K H l q r aa rs i [some (.ref l),some (.int (r:Int)),some (.int 1),some (.int (rs.length:Int)),some (.ref q),u] H'
def spWays:Sp:=λvs H Q _=>∃k:Nat,vs=[.int 1,.int (k:Int)]/\k<=1/\Q (.int 1) H
inductive WyI(H:Hp)(k:Nat)(_i:Nat):L2.St->Hp->Prop where
 | mk {u:Option V} :WyI H k _i [some (.int 1),some (.int (k:Int)),some (.int 1),u] H
theorem scPutP:FnScope ["rows","rim","most","base","places","turn"] ["rows","rim","most"] (jJ IR):=⟨rfl,rfl,rfl,by decide +kernel,rfl,by decide +kernel,by decide +kernel⟩
theorem YL{fP:Addr}{fdP:FuncData}(F:Fun K "put_powers" "put_powers" IR f fd)(T:Txt mg)(O:OneT K mg)(DP:Df K mg "put" wD ["rows","row"] fP fdP)(GP:FnOk P w K mg base CX0 1 fP fdP ["rows","row"] spPutR):FnOk P w K mg base CX0 2 f fd ["rows","rim","most"] (LC K):=by
 obtain⟨oA,ho,hO⟩:=O;refine F.ok scPutP (λvs H Q E h=>?_) (λcdv A outer s H vs Q E hr h=>?_)
 ·obtain⟨l,r,aa,rs,rfl,_⟩:=h
  rfl
 ·obtain⟨l,r,aa,rs,rfl,R,ln,go⟩:=h;refine⟨_,jC (jO (i:=3) scPutP.nd rfl (Or.inl rfl) (jD GP hr rfl DP.m DP.F.kp DP.b .nil jK (jA (pv 0) (jA (jQ (jA vO (jA (pv 1) jB))) jB)))) (jC (jO (i:=4) scPutP.nd rfl (Or.inl rfl) (kH (jA (jD GP hr rfl DP.m DP.F.kp DP.b .nil jK (jA (pv 0) (jA (jQ (jA vO (jA (kL (v:=.ref oA) (by rfl) ho rfl) jB))) jB))) jB))) (jC (qA PassesOwn.never rfl (qR (by rfl) T.rng (jA (pv 2) jB)) (jH (i:=5) scPutP.nd rfl (Or.inl rfl)) (jE (qQ (uC PySem.F.plainAttrs_list PySem.F.slot_list_append PySem.F.type_list_append qE (pv 4) (jA (jD GP hr rfl DP.m DP.F.kp DP.b .nil jK (jA (pv 0) (jA (jQ (jA vO (jA (kG qG (pv 4) (yS xC jF) (λ_ _=>rfl)) (jA (pv 3) jB)))) jB))) jB))))) (jE (jM (pv 4))))), ?_⟩;try dsimp only[cxK]
  refine⟨_,rfl,_,rfl,uM,λp1 H1 n1 s1 e1=>?_⟩;dsimp only[tNil];refine zN (.rim r) (R.same s1) (by omega) ⟨p1,rfl,e1⟩ λH2 b2 R2=>?_;dsimp only[jS];refine⟨_,rfl,uM,λp3 H3 n3 s3 e3=>?_⟩;dsimp only[tNil];refine zN (.num 1) (R2.same s3) (by rw[gE];show _+1<=_;omega) ⟨p3,_,rfl,e3,⟨oA,rfl,hO _⟩⟩ λH4 b4 R4=>?_;refine⟨uL,λq H5 n5 s5 e5=>?_⟩;obtain⟨xs,el,_⟩:=R.ex;have b05:But l H H5:=λa u h n=>s5 _ _ (b4 _ _ (s3 _ _ (b2 _ _ (s1 _ _ h) n)) n);have nq:H q=none:=by
   cases c:H q with
   | none=>rfl
   | some u=>
    by_cases ql:q=l
    ·obtain⟨ys,e4,_⟩:=R4.ex;rw[ql,e4]at n5;cases n5
    ·rw[b4 _ _ (s3 _ _ (b2 _ _ (s1 _ _ c) ql)) ql]at n5;cases n5
  have lq:l≠q:=λz=>by rw[z,nq]at el;cases el
  dsimp only[jS];refine⟨_,rfl,1,rfl,by decide,by decide,vH (n:=1) (PpI K H l q r aa rs) (.mk b05 (by have:=R4.same s5;rw[List.append_assoc]at this;rw[nH rfl,List.append_nil];exact this) (by rw[e5,gE];rfl)) (λi σ H6 hi h=>?_) (fun σ H6 h=>?_)⟩
  ·obtain⟨b,R6,e6⟩:=h;obtain rfl:i=0:=by omega
   rw[nH rfl,List.append_nil]at R6;rw[nH rfl]at e6;refine⟨_,rfl,.inl ⟨rfl,_,SqL.of e6⟩,_,rfl,_,rfl,1,rfl,q,_,_,_,rfl,rfl,SqL.of e6,rfl,_,rfl,uN,λp7 H7 n7 s7 e7=>?_⟩;dsimp only[tNil];refine zN (.times (rs.length+1) rs.length) (R6.same s7) (by rw[gE];show _+2<=_;omega) ⟨p7,rfl,e7⟩ λH8 b8 R8=>?_;have e8:=b8 _ _ (s7 _ _ e6) (Ne.symm lq);refine⟨q,_,_,rfl,rfl,e8,by show 1<sizeLine;decide, ?_⟩;obtain⟨ys,el8,p8⟩:=R8.ex;refine .mk (λa u h n=>by rw[jL (jU h nq)];exact b8 _ _ (s7 _ _ (b a u h n)) n) ?_ ?_
   ·rw[nG (by decide)];exact⟨ys,by rw[jL lq];exact el8,Paired.to (λ_ _ k=>k.but e8 qT) p8⟩
   ·rw[jI,nG (by decide),gE]
    rfl
  ·obtain⟨b,R6,e6⟩:=h;rw[nG (by decide),List.append_assoc]at R6;rw[nG (by decide)]at e6;exact⟨_,rfl,go q H6 nq b R6 e6⟩
theorem scWays:FnScope ["most","chosen","product","turn"] ["most","chosen"] (jJ MQ):=⟨rfl,rfl,rfl,by decide +kernel,rfl,by decide +kernel,by decide +kernel⟩
theorem YC(F:Fun K "ways" "ways" MQ f fd)(T:Txt mg):FnOk P w K mg base CX0 1 f fd ["most","chosen"] spWays:=by
 refine F.ok scWays (λvs H Q E h=>?_) (λcdv A outer s H vs Q E hr h=>?_)
 ·obtain⟨k,rfl,_⟩:=h
  rfl
 ·obtain⟨k,rfl,hk,go⟩:=h;refine⟨_,jC (jO (i:=2) scWays.nd rfl (Or.inl rfl) (jF)) (jC (qA PassesOwn.never rfl (qR (by rfl) T.rng (jA (pv 1) jB)) (jH (i:=3) scWays.nd rfl (Or.inl rfl)) (jE (jO (i:=2) scWays.nd rfl (Or.inl rfl) (jT YA (jT op_mul (pv 2) (jT xY (pv 0) (pv 3))) (jT qH (pv 3) jF))))) (jE (jM (pv 2)))), ?_⟩;try dsimp only[cxK]
  refine⟨_,rfl,k,rfl,by omega,by omega,vH (n:=k) (WyI H k) .mk (λi σ H6 hi h=>?_) (fun σ H6 h=>?_)⟩
  ·obtain⟨_⟩:=h;obtain rfl:i=0:=by omega
   exact⟨_,rfl,_,rfl,_,rfl,_,_,rfl,rfl,_,_,rfl,rfl,.inl ⟨by decide,by decide⟩,_,rfl,_,_,rfl,rfl,_,_,rfl,rfl,⟨by decide,by decide⟩,.mk⟩
  ·obtain⟨_⟩:=h;exact⟨_,rfl,go⟩
def prA:List RowA:=[.rim 0,.num 1,.times 1 0,.rim 1,.num 1,.times 4 3]
def prB:List RowA:=[.times 1 5,.num 1,.times 6 7]
def prC:List RowA:=[.times 2 4,.num 1,.times 9 10]
def prI:Nat->List RowA
 | 0=>prA
 | 1=>prA++prB
 | _=>prA++prB++prC
def prP:Nat->List Nat
 | 0=>[]
 | 1=>[8]
 | _=>[8,11]
def MK(K:nI):Sp:=λvs H Q _=>∃(l:Addr) (aa:Nat),vs=[.ref l,.int 1]/\H l=some (.lst [])/\
 ∀(q:Addr) (H':Hp),H q=none->But l H H'->RowsAt K aa H' l (prI 2)->H' q=some (.lst (nV [8,11]))->Q (.ref q) H'
inductive PrI(K:nI)(H:Hp)(l a b q:Addr)(aa:Nat)(i:Nat):L2.St->Hp->Prop where
 | mk {u v x:Option V} {H':Hp} (k:But l H H') (R:RowsAt K aa H' l (prI i)) (ea:H' a=some (.lst (nV [1,2]))) (eb:H' b=some (.lst (nV [4,5]))) (eq:H' q=some (.lst (nV (prP i)))):PrI K H l a b q aa i [some (.ref l),some (.int 1),some (.ref a),some (.ref b),some (.ref q),u,v,x] H'
theorem WM{H H':Hp}{l q:Addr}(b:But l H H')(n:H' q=none)(e:H' l≠none):H q=none:=by
 cases c:H q with
 | none=>rfl
 | some u=>
  by_cases ql:q=l
  ·rw[ql]at n;exact absurd n e
  ·rw[b _ _ c ql]at n;cases n
theorem RowsAt.there{K:nI}{aa:Nat}{H:Hp}{l:Addr}{rs:List RowA}(R:RowsAt K aa H l rs):H l≠none:=by
 obtain⟨xs,e,_⟩:=R.ex;rw[e];exact λz=>by cases z
theorem scPairs:FnScope ["rows","most","lower","upper","places","power","place","pair"] ["rows","most"] (jJ GZ):=⟨rfl,rfl,rfl,by decide +kernel,rfl,by decide +kernel,by decide +kernel⟩
theorem UH{fP fW fU fY:Addr}{fdP fdW fdU fdY:FuncData}(F:Fun K "put_pairs" "put_pairs" GZ f fd)(T:Txt mg)(DP:Df K mg "put" wD ["rows","row"] fP fdP)(GP:FnOk P w K mg base CX0 1 fP fdP ["rows","row"] spPutR)(DW:Df K mg "put_weighted" CY ["rows","place","weight"] fW fdW)(GW:FnOk P w K mg base CX0 2 fW fdW ["rows","place","weight"] (CO K))(DU:Df K mg "put_powers" IR ["rows","rim","most"] fU fdU)(GU:FnOk P w K mg base CX0 2 fU fdU ["rows","rim","most"] (LC K))(DY:Df K mg "ways" MQ ["most","chosen"] fY fdY)(GY:FnOk P w K mg base CX0 1 fY fdY ["most","chosen"] spWays):FnOk P w K mg base CX0 3 f fd ["rows","most"] (MK K):=by
 refine F.ok scPairs (λvs H Q E h=>?_) (λcdv A outer s H vs Q E hr h=>?_)
 ·obtain⟨l,aa,rfl,_⟩:=h
  rfl
 ·obtain⟨l,aa,rfl,e0,go⟩:=h;have hr1:Room 1 _:=hr.mono (by decide);refine⟨_,jC (jO (i:=2) scPairs.nd rfl (Or.inl rfl) (jD GU hr rfl DU.m DU.F.kp DU.b .nil jK (jA (pv 0) (jA jF (jA (pv 1) jB))))) (jC (jO (i:=3) scPairs.nd rfl (Or.inl rfl) (jD GU hr rfl DU.m DU.F.kp DU.b .nil jK (jA (pv 0) (jA jF (jA (pv 1) jB))))) (jC (jO (i:=4) scPairs.nd rfl (Or.inl rfl) (kH jB)) (jC (qA PassesOwn.never rfl (DZ (by rfl) T.enum (jA (pv 2) jB)) (jY rfl (jG (jH (i:=5) scPairs.nd rfl (Or.inl rfl)) (jG (jH (i:=6) scPairs.nd rfl (Or.inl rfl)) jV))) (jC (jO (i:=7) scPairs.nd rfl (Or.inl rfl) (jD GP hr1 rfl DP.m DP.F.kp DP.b .nil jK (jA (pv 0) (jA (jQ (jA vO (jA (pv 6) (jA (kG qG (pv 3) (jT xY (pv 1) (pv 5)) (λ_ _=>rfl)) jB)))) jB)))) (jE (qQ (uC PySem.F.plainAttrs_list PySem.F.slot_list_append PySem.F.type_list_append qE (pv 4) (jA (jD GW hr rfl DW.m DW.F.kp DW.b .nil jK (jA (pv 0) (jA (pv 7) (jA (jQ (jA (jD GY hr1 rfl DY.m DY.F.kp DY.b .nil jK (jA (pv 1) (jA (pv 5) jB))) (jA jF jB))) jB)))) jB)))))) (jE (jM (pv 4)))))), ?_⟩;try dsimp only[cxK]
  refine⟨_,rfl,_,rfl,l,0,aa,[],rfl,RowsAt.nil e0,by decide,λa H1 n1 b1 R1 e1=>?_⟩;dsimp only[jS];refine⟨_,rfl,_,rfl,l,1,aa,_,rfl,R1,by decide,λb H2 n2 b2 R2 e2=>?_⟩;dsimp only[jS];refine⟨uK,λq H3 n3 s3 e3=>?_⟩;have la:l≠a:=λz=>by rw[<-z,e0]at n1;cases n1
  have lb:l≠b:=λz=>R1.there (by rw[z];exact n2);have lq:l≠q:=λz=>R2.there (by rw[z];exact n3);have b03:But l H H3:=λc u h n=>s3 _ _ (b2 _ _ (b1 _ _ h n) n);have nq:H q=none:=WM (λc u h n=>b2 _ _ (b1 _ _ h n) n) n3 R2.there;have e23:=b2 _ _ e1 (Ne.symm la);have aq:a≠q:=λz=>by rw[<-z,e23]at n3;cases n3
  have bq:b≠q:=λz=>by rw[<-z,e2]at n3;cases n3
  dsimp only[jS];refine⟨_,rfl,a,rfl,⟨_,SqL.of (s3 _ _ e23)⟩,FR (K:=K) (a:=a) (xs:=nV [1,2]) (PrI K H l a b q aa) (.mk b03 (R2.same s3) (s3 _ _ e23) (s3 _ _ e2) e3) (λi σ H4 _ h=>?_) (λi x p σ H4 hx hp h=>?_) (fun σ H4 h=>?_)⟩
  ·obtain⟨_,_,ea,_,_⟩:=h;exact SqL.of ea
  ·obtain⟨k,R,ea,eb,eq⟩:=h;have il:i<2:=(uQ.mp hx).1;have s5:Same H4 (upd H4 p (.tup [.int (i:Int),x])):=kB _ hp;have e5:(upd H4 p (.tup [.int (i:Int),x])) p=some (.tup [.int (i:Int),x]):=jI;generalize upd H4 p (.tup [.int (i:Int),x])=H5 at s5 e5;refine gT2 (SqT.of e5) rfl ?_;obtain⟨pl,up,n,rfl,hup,hn,hR,hP,n1,hl⟩:∃pl up n:Nat,x=.int (pl:Int)/\atI (nV [4,5]) ((1:Int)-(i:Int))=some (.int (up:Int))/\(prI i).length=n/\prI (i+1)=prI i++[.times pl up]++[.num 1,.times n (n+1)]/\prP (i+1)=prP i++[n+2]/\n<=100/\(prP i).length<=2:=by
    match i,il,hx with
    | 0,_,hx=>cases hx;exact⟨1,5,6,rfl,rfl,rfl,rfl,rfl,by decide,by decide⟩
    | 1,_,hx=>cases hx;exact⟨2,4,9,rfl,rfl,rfl,rfl,rfl,by decide,by decide⟩
   refine⟨_,rfl,_,rfl,_,rfl,_,rfl,_,rfl,_,_,rfl,rfl,b,_,_,_,rfl,rfl,SqL.of (s5 _ _ eb),hup,uN,λp6 H6 n6 s6 e6=>?_⟩;dsimp only[tNil];refine zN (.times pl up) (R.same (s5.trans s6)) (by omega) ⟨p6,rfl,e6⟩ λH7 b7 R7=>?_;have b47:But l H4 H7:=λc u h n=>b7 _ _ (s6 _ _ (s5 _ _ h)) n;have eq7:=b47 _ _ eq (Ne.symm lq);dsimp only[jS];refine⟨_,rfl,.inl ⟨rfl,_,SqL.of eq7⟩,_,rfl,_,rfl,_,rfl,_,rfl,i,rfl,by omega,uM,λp8 H8 n8 s8 e8=>?_⟩;have L9:(prI i++[RowA.times pl up]).length=n+1:=by rw[gE,hn];rfl
   refine⟨l,n,aa,_,1,_,by rw[hn];rfl,R7.same s8,⟨p8,rfl,SqT.of e8⟩,by omega,λH9 b9 R9=>?_⟩;rw[L9]at R9 ⊢;rw[<-hR]at R9;have b49:But l H4 H9:=λc u h n=>b9 _ _ (s8 _ _ (b47 _ _ h n)) n;have eq9:=b49 _ _ eq (Ne.symm lq);obtain⟨ys,el9,p9⟩:=R9.ex;refine⟨q,_,_,rfl,rfl,eq9,by rw[hU,sizeLine_eq];omega, ?_⟩;have nqq:∀{c:Addr} {zs:List V},c≠q->H9 c=some (.lst zs)->(upd H9 q (.lst (nV (prP i)++[V.int ((n+1+1:Nat):Int)]))) c=some (.lst zs):=λn h=>by rw[jL n];exact h
   refine .mk (λc u h z=>by rw[jL (jU h nq)];exact b49 _ _ (k c u h z) z) ⟨ys,nqq lq el9, ?_⟩ (nqq aq (b49 _ _ ea (Ne.symm la))) (nqq bq (b49 _ _ eb (Ne.symm lb))) ?_
   ·exact Paired.to (λ_ _ k=>RowV.but eq9 qT k) p9
   ·rw[jI,hP,BW]
  ·obtain⟨k,R,ea,eb,eq⟩:=h;exact⟨_,rfl,go q H4 nq k R eq⟩
structure SmG(x:Rat):Prop where
 ex:∃t b:Int,x=fv t b/\1<=t/\t<=9/\1<=b/\b<=5
theorem SmG.ov{x:Rat}(h:SmG x):Ov 60 10 x:=by
 obtain⟨t,b,rfl,t0,t1,b0,b1⟩:=h.ex;obtain⟨c,hc,hb⟩:∃c:Int,b*c=60/\c.natAbs<=60:=by
  rcases(show b=1∨b=2∨b=3∨b=4∨b=5 by omega)with rfl | rfl | rfl | rfl | rfl
  ·exact⟨60,rfl,by decide⟩
  ·exact⟨30,rfl,by decide⟩
  ·exact⟨20,rfl,by decide⟩
  ·exact⟨15,rfl,by decide⟩
  ·exact⟨12,rfl,by decide⟩
 refine⟨t*c,OI (by omega) (by decide) (by rw[<-hc];grind), ?_⟩;rw[mD];exact mN (mE (show t.natAbs<=9 by omega) hb) (by decide)
theorem SmG.nz{x:Rat}(h:SmG x):x≠0:=by
 obtain⟨t,b,rfl,t0,t1,b0,b1⟩:=h.ex;intro z;have hb:((b:Int):Rat)≠0:=cne (by omega);have ht:((t:Int):Rat)≠0:=cne (by omega);unfold fv at z;refine ht ?_;rw[<-Rat.div_mul_cancel (a:=(t:Rat)) hb,z,mS]
def xJ(b a:Rat):Pl:=[([0],b),([1],a)]
theorem BY{b a:Rat}(hb:SmG b)(ha:SmG a):PlOk 1 (xJ b a):=by
 refine⟨λx hx=>?_,λx hx=>?_,λx hx=>?_, ?_,λx hx=>?_,(by show 2<=60;decide),by decide,by decide⟩
 ·simp only[xJ,mI,gU,or_false]at hx;rcases hx with rfl | rfl<;>rfl
 ·simp only[xJ,mI,gU,or_false]at hx;rcases hx with rfl | rfl
  ·show ∀n∈[(0:Int)],0<=n
   decide
  ·show ∀n∈[(1:Int)],0<=n
   decide
 ·simp only[xJ,mI,gU,or_false]at hx;rcases hx with rfl | rfl
  ·show([(0:Int)]).sum<=16
   decide
  ·show([(1:Int)]).sum<=16
   decide
 ·simp [xJ,pk]
 ·simp only[xJ,mI,gU,or_false]at hx;rcases hx with rfl | rfl
  ·exact hb.nz
  ·exact ha.nz
def SF(K:nI):Sp:=λvs H Q _=>∃(t lo hi:Addr) (b a:Rat),vs=[.ref t,.ref lo,.ref hi]/\SumQ K H t 1 (xJ b a)/\SmG b/\SmG a/\At2 H lo 0 1/\At2 H hi 1 1/\
 ∀(q:Addr) (v0 v1:V) (H':Hp),H q=none->Same H H'->H' q=some (.lst [v0,v1])->NumK K H' v0 b->NumK K H' v1 (a+b)->Q (.ref q) H'
def pcT(b x:Rat)(P:Pl):List RowA:=[.num b,.times 8 12,.num x,.times 11 14,.plus 13 15,.sq P,.times 16 17]
def pcR(b a:Rat)(P:Pl):List RowA:=prI 2++pcT b (a+b) P
def pcI(b x:Rat):Nat->List RowA
 | 0=>prI 2
 | 1=>prI 2++[.num b,.times 8 12]
 | _=>prI 2++[.num b,.times 8 12]++[.num x,.times 11 14]
def pcP:Nat->List Nat
 | 0=>[]
 | 1=>[13]
 | _=>[13,15]
def SE(K:nI):Sp:=λvs H Q _=>∃(p t lo hi:Addr) (b a:Rat) (P:Pl),vs=[.ref p,.ref t,.ref lo,.ref hi]/\SumQ K H p 1 P/\SumQ K H t 1 (xJ b a)/\SmG b/\SmG a/\At2 H lo 0 1/\At2 H hi 1 1/\
 ∀(l:Addr) (H':Hp),H l=none->Same H H'->RowsAt K 1 H' l (pcR b a P)->Q (.ref l) H'
inductive PcI(K:nI)(H:Hp)(p t lo hi l sh nm q:Addr)(b x:Rat)(v0 v1:V)(i:Nat):L2.St->Hp->Prop where
 | mk {u v y:Option V} {H':Hp} (s:Same H H') (R:RowsAt K 1 H' l (pcI b x i)) (es:H' sh=some (.lst (nV [8,11]))) (en:H' nm=some (.lst [v0,v1])) (n0:NumK K H' v0 b) (n1:NumK K H' v1 x) (eq:H' q=some (.lst (nV (pcP i)))):PcI K H p t lo hi l sh nm q b x v0 v1 i [some (.ref p),some (.ref t),some (.ref lo),some (.ref hi),some (.ref l),some (.int 1),some (.ref sh),some (.ref q),u,v,y] H'
theorem scRPc:FnScope ["root","rest","low","high","rows","most","shapes","places","place","weight","whole"] ["root","rest","low","high"] (jJ SW):=⟨rfl,rfl,rfl,by decide +kernel,rfl,by decide +kernel,by decide +kernel⟩
theorem ok_rpc{fP fW fT fU fR fN fD:Addr}{fdP fdW fdT fdU fdR fdN fdD:FuncData}(F:Fun K "rows_of_piece" "rows_of_piece" SW f fd)(T:Txt mg)(DP:Df K mg "put" wD ["rows","row"] fP fdP)(GP:FnOk P w K mg base CX0 1 fP fdP ["rows","row"] spPutR)(DW:Df K mg "put_weighted" CY ["rows","place","weight"] fW fdW)(GW:FnOk P w K mg base CX0 2 fW fdW ["rows","place","weight"] (CO K))(DT:Df K mg "put_total" FJ ["rows","places"] fT fdT)(GT:FnOk P w K mg base CX0 2 fT fdT ["rows","places"] (GB K))(DU:Df K mg "put_powers" IR ["rows","rim","most"] fU fdU)(GU:FnOk P w K mg base CX0 2 fU fdU ["rows","rim","most"] (LC K))(DR:Df K mg "put_pairs" GZ ["rows","most"] fR fdR)(GR:FnOk P w K mg base CX0 3 fR fdR ["rows","most"] (MK K))
  (DN:Df K mg "numbers" wY ["one","low","high"] fN fdN) (GN:FnOk P w K mg base CX0 7 fN fdN ["one","low","high"] (SF K)) (DD:Df K mg "degree" yJ ["one"] fD fdD) (GD:FnOk P w K mg base CX0 1 fD fdD ["one"] (CS K)):FnOk P w K mg base CX0 8 f fd ["root","rest","low","high"] (SE K):=by
 refine F.ok scRPc (λvs H Q E h=>?_) (λcdv A outer s H vs Q E hr h=>?_)
 ·obtain⟨p,t,lo,hi,b,a,P,rfl,_⟩:=h
  rfl
 ·obtain⟨p,t,lo,hi,b,a,P,rfl,qp,qt,gb,ga,elo,ehi,go⟩:=h;have hr1:Room 1 _:=hr.mono (by decide);have hr2:Room 2 _:=hr.mono (by decide);have hr3:Room 3 _:=hr.mono (by decide);refine⟨_,jC (jO (i:=4) scRPc.nd rfl (Or.inl rfl) (kH jB)) (jC (jO (i:=5) scRPc.nd rfl (Or.inl rfl) (jD GD hr1 rfl DD.m DD.F.kp DD.b .nil jK (jA (pv 1) jB))) (jC (kT (PW.pt (qU (AO (EC (pv 2))) (vB (AO (EC (pv 3)))))) (jE (jO (i:=6) scRPc.nd rfl (Or.inl rfl) (jD GU hr2 rfl DU.m DU.F.kp DU.b .nil jK (jA (pv 4) (jA jF (jA (pv 5) jB)))))) (jE (jO (i:=6) scRPc.nd rfl (Or.inl rfl) (jD GR hr3 rfl DR.m DR.F.kp DR.b .nil jK (jA (pv 4) (jA (pv 5) jB)))))) (jC (jO (i:=7) scRPc.nd rfl (Or.inl rfl) (kH jB)) (jC (qA PassesOwn.never rfl (NI (by rfl) T.zip (jA (pv 6) (jA (jD GN hr rfl DN.m DN.F.kp DN.b .nil jK (jA (pv 1) (jA (pv 2) (jA (pv 3) jB)))) jB))) (jY rfl (jG (jH (i:=8) scRPc.nd rfl (Or.inl rfl)) (jG (jH (i:=9) scRPc.nd rfl (Or.inl rfl)) jV))) (jE (qQ (uC PySem.F.plainAttrs_list PySem.F.slot_list_append PySem.F.type_list_append qE (pv 7) (jA (jD GW hr2 rfl DW.m DW.F.kp DW.b .nil jK (jA (pv 4) (jA (pv 8) (jA (pv 9) jB)))) jB))))) (jC (qQ (jD GT hr2 rfl DT.m DT.F.kp DT.b .nil jK (jA (pv 4) (jA (pv 7) jB)))) (jC (jO (i:=10) scRPc.nd rfl (Or.inl rfl) (jT xY (jX jW (by rfl) T.len PySem.boot_len (jA (pv 4) jB)) jF)) (jC (qQ (jD GP hr1 rfl DP.m DP.F.kp DP.b .nil jK (jA (pv 4) (jA (jQ (jA vO (jA (pv 10) (jA (jD GP hr1 rfl DP.m DP.F.kp DP.b .nil jK (jA (pv 4) (jA (jQ (jA vO (jA (pv 0) jB))) jB))) jB)))) jB)))) (jE (jM (pv 4)))))))))), ?_⟩
  try dsimp only[cxK]
  have ok:=BY gb ga;refine⟨uK,λl H1 n1 s1 e1=>?_⟩;dsimp only[jS];refine⟨_,rfl,t,1,16,xJ b a,rfl,qt.same s1,ok.pd,by decide,by decide,by show 2<=1000;decide,λH2 s2=>?_⟩;dsimp only[jS];rw[show vL (xJ b a)=1 from rfl];refine⟨_,rfl,_,rfl,xE (hW λz=>by cases z) ⟨_,rfl,_,rfl,xE (hW λz=>by cases z) ?_⟩⟩;refine⟨_,rfl,_,rfl,l,1,rfl,s2 _ _ e1,λsh H3 n3 b3 R3 e3=>?_⟩;dsimp only[jS];refine⟨uK,λq H4 n4 s4 e4=>?_⟩;dsimp only[jS];have nl:H l=none:=n1;have s03:Same H H3:=λc u h=>b3 _ _ (s2 _ _ (s1 _ _ h)) (jU h nl);have s04:=s03.trans s4;refine⟨_,rfl,_,rfl,_,rfl,_,rfl,t,lo,hi,b,a,rfl,qt.same s04,gb,ga,s04 _ _ elo,s04 _ _ ehi,λnm v0 v1 H5 n5 s5 e5 k0 k1=>?_⟩;have s35:=s4.trans s5;have lsh:l≠sh:=λz=>by rw[<-z,s2 _ _ e1]at n3;cases n3
  have lq:l≠q:=λz=>R3.there (by rw[z];exact n4);have lnm:l≠nm:=λz=>(R3.same s4).there (by rw[z];exact n5);have shq:sh≠q:=λz=>by rw[<-z,e3]at n4;cases n4
  have nmq:nm≠q:=λz=>by rw[z,e4]at n5;cases n5
  have nq:H q=none:=s03.free n4;have s05:Same H H5:=s03.trans s35;refine⟨sh,nm,rfl,⟨_,SqL.of (s35 _ _ e3)⟩,⟨_,SqL.of e5⟩,VT (K:=K) (a:=sh) (b:=nm) (xs:=nV [8,11]) (ys:=[v0,v1]) (PcI K H p t lo hi l sh nm q b (a+b) v0 v1) uJ (.mk s05 (R3.same s35) (s35 _ _ e3) e5 k0 k1 (s5 _ _ e4)) (λi σ H6 _ h=>?_) (λi x y c σ H6 hx hy hc h=>?_) (fun σ H6 h=>?_)⟩
  ·obtain⟨_,_,es,en,_,_,_⟩:=h;exact⟨SqL.of es,SqL.of en⟩
  ·obtain⟨s6,R,es,en,k0,k1,eq⟩:=h;have il:i<2:=(uQ.mp hx).1;have s7:Same H6 (upd H6 c (.tup [x,y])):=kB _ hc;have e7:(upd H6 c (.tup [x,y])) c=some (.tup [x,y]):=jI;generalize upd H6 c (.tup [x,y])=H7 at s7 e7;refine gT2 (SqT.of e7) rfl ?_;obtain⟨pl,n,z,rfl,kz,hn,hR,hP,hl,hl2⟩:∃(pl n:Nat) (z:Rat),x=.int (pl:Int)/\NumK K H6 y z/\(pcI b (a+b) i).length=n/\pcI b (a+b) (i+1)=pcI b (a+b) i++[.num z,.times pl n]/\pcP (i+1)=pcP i++[n+1]/\(pcP i).length<=2/\n<=100:=by
    match i,il,hx,hy with
    | 0,_,hx,hy=>cases hx;cases hy;exact⟨8,12,_,rfl,k0,rfl,rfl,rfl,by decide,by decide⟩
    | 1,_,hx,hy=>cases hx;cases hy;exact⟨11,14,_,rfl,k1,rfl,rfl,rfl,by decide,by decide⟩
   refine⟨_,rfl,.inl ⟨rfl,_,SqL.of (s7 _ _ eq)⟩,_,rfl,_,rfl,_,rfl,l,pl,1,y,z,_,rfl,R.same s7,kz.same s7,by omega,λH8 b8 R8=>?_⟩;obtain⟨zs,el,_⟩:=(R.same s7).ex;have b68:But l H6 H8:=λc u h n=>b8 _ _ (s7 _ _ h) n;have eq8:=b68 _ _ eq (Ne.symm lq);obtain⟨ys,el8,p8⟩:=R8.ex;refine⟨q,_,_,rfl,rfl,eq8,by rw[hU,sizeLine_eq];omega, ?_⟩;rw[hn]at p8 ⊢;have nqq:∀{c:Addr} {zs:List V},c≠q->H8 c=some (.lst zs)->(upd H8 q (.lst (nV (pcP i)++[V.int ((n+1:Nat):Int)]))) c=some (.lst zs):=λn h=>by rw[jL n];exact h
   refine .mk (λc u h=>by rw[jL (jU h nq)];exact b68 _ _ (s6 _ _ h) (jU h nl)) ⟨ys,nqq lq el8, ?_⟩ (nqq shq (b68 _ _ es (Ne.symm lsh))) (nqq nmq (b68 _ _ en (Ne.symm lnm))) (((k0.same s7).but el b8).but eq8 qT) (((k1.same s7).but el b8).but eq8 qT) ?_
   ·rw[hR];exact Paired.to (λ_ _ k=>RowV.but eq8 qT k) p8
   ·rw[jI,hP,BW]
  ·obtain⟨s6,R,es,en,k0,k1,eq⟩:=h;refine⟨_,rfl,_,rfl,l,q,1,13,[15],_,rfl,lq,R,eq,by show 16+1<=800;decide,λH7 b7 R7=>?_⟩;obtain⟨zs,el7,pr7⟩:=R7.ex;have lz:zs.length=17:=Paired.length pr7;refine⟨_,rfl,l,zs,rfl,.inl (SqL.of el7),_,_,rfl,rfl, ?_⟩;rw[lz];dsimp only[jS];refine⟨_,rfl,_,rfl,_,rfl,_,rfl,uM,λp8 H8 n8 s8 e8=>?_⟩;dsimp only[tNil];have qp7:SumQ K H7 p 1 P:=by
    obtain⟨ws,elr,_⟩:=R.ex;exact(qp.same s6).but elr b7
   refine zN (.sq P) (R7.same s8) (by show 17<=900;decide) ⟨p8,p,rfl,e8,qp7.same s8⟩ λH9 b9 R9=>?_;refine⟨uN,λp10 H10 n10 s10 e10=>?_⟩;dsimp only[tNil];refine zN (.times 16 17) (R9.same s10) (by show 18<=900;decide) ⟨p10,rfl,e10⟩ λH11 b11 R11=>⟨_,rfl, ?_⟩;exact go l H11 nl (λc u h=>b11 _ _ (s10 _ _ (b9 _ _ (s8 _ _ (b7 _ _ (s6 _ _ h) (jU h nl))) (jU h nl))) (jU h nl)) R11
end Lw
namespace Lw
open PySem PySem.Spec PyProof.Rows L2 LwQ LwV
abbrev NumQ(K:nI)(H:Hp)(x:V)(r:Rat):Prop:=NumK K H x r
def NumsQ(K:nI)(H:Hp)(xs:List V)(rs:List Rat):Prop:=Paired (NumQ K H) xs rs
theorem NumsQ.same{K:nI}{H H':Hp}{xs:List V}{rs:List Rat}(h:NumsQ K H xs rs)(s:Same H H'):NumsQ K H' xs rs:=Paired.to (λ_ _ y=>NumK.same y s) h
theorem NU{D:Int}{rs:List Rat}{n:Nat}(h0:0<D)(hn:D.natAbs<=2^n)(h:∀r∈rs,(r.den:Int)∣D):(lvD rs).natAbs<=2^n:=mN (zZ (VA h) h0) hn
theorem lvT_bd{rs:List Rat}{m e:Nat}(h:(lvD rs).natAbs<=2^e)(k:∀r∈rs,r.num.natAbs<2^m):∀z∈lvT rs,z.natAbs<2^(m+e):=by
 intro z hz;unfold lvT at hz;obtain⟨r,hr,rfl⟩:=mP.mp hz;have d:=r.den_pos;have h1:(lvD rs/(r.den:Int)).natAbs<=2^e:=mN (LwM.zM _ _ (by omega)) h;rw[mD,Nat.pow_add];exact Nat.mul_lt_mul_of_lt_of_le (k r hr) h1 (Nat.two_pow_pos _)
def MM(K:nI):Sp:=λvs H Q _=>∃(l:Addr) (xs:List V) (rs:List Rat),vs=[.ref l]/\SqL K H l xs/\(∀H',Same H H'->SqL K H' l xs)/\NumsQ K H xs rs/\rs.length<=200/\(∃D:Int,0<D/\D.natAbs<=2^2400/\∀r∈rs,(r.den:Int)∣D)/\(∀r∈rs,r.num.natAbs<2^4000)/\
 ∀(p q:Addr) (H':Hp),H p=none->H q=none->Same H H'->H' p=some (.tup [.ref q,.int (lvD rs)])->H' q=some (.lst ((lvT rs).map V.int))->Q (.ref p) H'
variable{P:Program}{w:World}{K:nI}{mg:Str->Option Value}{base:Heap}{f fd:_}
theorem scLevel:FnScope ["some","bottom","top","under"] ["some"] (jJ HJ):=⟨rfl,rfl,rfl,by decide +kernel,rfl,by decide +kernel,by decide +kernel⟩
theorem UJ{fD fM fG:Addr}{fdD fdM fdG:FuncData}(F:Fun K "level" "level" HJ f fd)(T:Txt mg)(DD:Df K mg "divided" LG ["one","other"] fD fdD)(DM:Df K mg "multiplied" LE ["one","other"] fM fdM)(DG:Df K mg "greatest_divisor" DB ["one","other"] fG fdG):FnOk P w K mg base CX0 4 f fd ["some"] (MM K):=by
 have GD:FnOk P w K mg base CX0 3 fD fdD ["one","other"] (CQ K):=NO DD.F T DM DG;refine F.ok scLevel (λvs H Q E h=>?_) (λcdv A outer s H vs Q E hr h=>?_)
 ·obtain⟨l,xs,rs,rfl,_⟩:=h
  rfl
 ·obtain⟨l,xs,rs,rfl,hl,hlk,hX,l24,⟨D,pD0,bD0,dD0⟩,bd,go⟩:=h;refine⟨_,jC (jO (i:=1) scLevel.nd rfl (Or.inr rfl) jF)
   (jC (qA PassesOwn.never rfl (xI (pv 0)) (jY rfl (jG (jH (i:=2) scLevel.nd rfl (Or.inl rfl)) (jG (jH (i:=3) scLevel.nd rfl (Or.inl rfl)) jV)))
    (jE (jO (i:=1) scLevel.nd rfl (Or.inr rfl) (jT kO (pv 1) (kG kJ (jD GD hr rfl DD.m DD.F.kp DD.b .nil jK (jA (jQ (jA (pv 3) (jA jF jB))) (jA (jQ (jA (pv 1) (jA jF jB))) jB))) jF (λ_ _=>rfl))))))
   (jE (jM (jQ (jA (vZ (own:=2) (idx:=[1]) (N:=["top","under","bottom"]) rfl rfl rfl (by decide +kernel) (by decide +kernel) (λ_ _ h=>h) (qN rfl) rfl (vS rfl ⟨rfl,rfl,rfl,rfl⟩)
    (xI (pv 0))
    (λC fp s2 H2=>show PG (jN _ ["top","under","bottom"] _ _ C fp s2 H2) _ (zK K 2 (kR (jS 0) (kR (jS 1) gNil)))from jY (X:=jN _ ["top","under","bottom"] _ _ C fp s2 H2) rfl (jG (jH (i:=0) (show List.Nodup (["top","under","bottom"]:List Str) by decide +kernel) rfl (Or.inl rfl) (Or.inr rfl)) (jG (jH (i:=1) (show List.Nodup (["top","under","bottom"]:List Str) by decide +kernel) rfl (Or.inl rfl) (Or.inr rfl)) jV)))
    (λC fp s2 H2=>jT kO (pv 0) (jT qV (pv 2) (pv 1)))) (jA (pv 1) jB)))))), ?_⟩
  try dsimp only[cxK]
  have lx:xs.length=rs.length:=Paired.length hX;have bdD:∀(ys:List Rat),(∀r∈ys,r∈rs)->(lvD ys).natAbs<=2^2400:=λys hy=>NU pD0 bD0 λr hr=>dD0 r (hy r hr);have bdd:∀r∈rs,((r.den:Int)).natAbs<2^2401:=λr hr=>gD (mN (Nat.le_of_dvd (by omega) (Int.natAbs_dvd_natAbs.mpr (dD0 r hr))) bD0) (uZ (by decide) (by decide));refine⟨_,rfl,l,rfl,⟨xs,hl⟩,zL (K:=K) (a:=l) (xs:=xs) (λi σ H1=>Same H H1/\∃v2 v3,σ=[some (.ref l),some (.int (lvD (rs.take i))),v2,v3]) ⟨Same.refl H,_,_,rfl⟩ (λi σ H1 _ h=>hlk _ h.1) ?_ ?_⟩
  ·rintro i x σ H1 hx ⟨s1,v2,v3,rfl⟩;obtain⟨r,hr',a,rfl,sq⟩:=Paired.at hX hx;have hir:i<rs.length:=(uQ.mp hr').1;have rm:r∈rs:=uW hr';have tk:rs.take (i+1)=rs.take i++[r]:=by
    rw[List.take_succ,hr']
    rfl
   have bi:=bdD (rs.take i) (λq hq=>List.mem_of_mem_take hq);have pi:=zT (rs.take i);have brm:=bd r rm;have dp:=r.den_pos;have bi':(lvD (rs.take i)).natAbs<2^2401:=gD bi (uZ (by decide) (by decide));have bd':=bdd r rm;refine(gT2 (vX s1 sq) rfl ?_);refine⟨_,rfl,_,rfl,uM,λz H2 n2 s2 e2=>⟨_,rfl,uM,λy H3 n3 s3 e3=>?_⟩⟩;refine⟨z,y,(r.den:Int),1,lvD (rs.take i),1,rfl,SqT.of (s3 _ _ e2),SqT.of e3,AU (jR bd' (by decide)) (by decide),AU (jR bi' (by decide)) (by decide),by omega,λq H4 n4 s4 e4=>?_⟩;rw[Int.mul_one,Int.one_mul]at e4;have lt:=NX (n:=(r.den:Int)) pi;refine⟨q,_,_,_,rfl,rfl,SqT.of e4,rfl,_,_,rfl,rfl,⟨jR bi' (by decide),gD lt (jR bd' (by decide))⟩, ?_⟩;refine⟨((s1.trans s2).trans s3).trans s4,some (.int r.num),some (.int r.den), ?_⟩;rw[tk,JO]
   rfl
  ·rintro σ H1 ⟨s1,v2,v3,rfl⟩;rw[lx,gW];have bD:=bdD rs (λ_ h=>h);have pD:=zT rs;have bD':(lvD rs).natAbs<2^2401:=gD bD (uZ (by decide) (by decide));refine⟨_,rfl,l,rfl,⟨xs,hlk _ s1⟩,λq H2 n2 s2 e2=>?_⟩;refine wP (K:=K) (a:=l) (xs:=xs) (CmI (λi=>((lvT rs).take i).map V.int) q H1) (by rw[lx];exact gD l24 (by decide)) ⟨s2,e2,rfl⟩ (λi ys H4 h=>⟨hlk _ (s1.trans h.1),h.2⟩) ?_ ?_
   ·rintro i m ys x H4 hx hm hy ⟨s4,e4,rfl⟩;obtain⟨r,hr',a,rfl,sq⟩:=Paired.at hX hx;have rm:r∈rs:=uW hr';have brm:=bd r rm;have dp:=r.den_pos;have bd':=bdd r rm;refine(gT2 (vX (s1.trans s4) sq) rfl ⟨BH, ?_⟩);have bq:(lvD rs/(r.den:Int)).natAbs<2^2401:=vN bD' (by omega);refine⟨_,rfl,_,rfl,_,rfl,_,_,rfl,rfl,⟨by omega,jR bd' (by decide)⟩,_,_,rfl,rfl,⟨jR brm (by decide),jR bq (by decide)⟩, ?_⟩;refine kY hx hm hy e4 ⟨kF s4 n2,jI, ?_⟩;have:(lvT rs)[i]? = some (r.num*(lvD rs/(r.den:Int))):=by
     unfold lvT;rw[gM,hr']
     rfl
    rw[List.take_succ,this,hV]
    rfl
   ·rintro ys H4 hy ⟨s4,e4,rfl⟩;refine⟨_,rfl,uM,λp H5 n5 s5 e5=>?_⟩;rw[lx,<-ZE rs,gW]at e4;exact go p q H5 ((s1.trans s4).free n5) (s1.free n2) ((s1.trans s4).trans s5) e5 (s5 _ _ e4)
open LwS
def SK(K:nI):Sp:=λvs H Q _=>∃(p:Addr) (b a:Rat),vs=[.ref p]/\SumQ K H p 1 (xJ b a)/\SmG b/\SmG a/\
 ∀(l:Addr) (v0 v1:V) (H':Hp),H l=none->Same H H'->H' l=some (.lst [v0,v1])->NumK K H' v0 b->NumK K H' v1 a->Q (.ref l) H'
structure ApI(K:nI)(H1:Hp)(l:Addr)(v0 v1:V)(i:Nat)(ys:List V)(H2:Hp):Prop where
 s:Same H1 H2
 e:H2 l=some (.lst ys)
 y:ys=[v0,v1].take i
def spFac1:Sp:=λvs H Q _=>∃n:Nat,vs=[.int (n:Int)]/\n<=1/\Q (.int 1) H
theorem scAllP:FnScope ["one","table"] ["one"] (jJ NA):=⟨rfl,rfl,rfl,by decide +kernel,rfl,by decide +kernel,by decide +kernel⟩
theorem YV{fD:Addr}{fdD:FuncData}(F:Fun K "all_powers" "all_powers" NA f fd)(T:Txt mg)(N:NgtP K mg)(DD:Df K mg "degree" yJ ["one"] fD fdD)(GD:FnOk P w K mg base CX0 1 fD fdD ["one"] (CS K)):FnOk P w K mg base CX0 2 f fd ["one"] (SK K):=by
 obtain⟨nA,hn,hN⟩:=N;refine F.ok scAllP (λvs H Q E h=>?_) (λcdv A outer s H vs Q E hr h=>?_)
 ·obtain⟨p,b,a,rfl,_⟩:=h
  rfl
 ·obtain⟨p,b,a,rfl,qp,gb,ga,go⟩:=h;have hu:_+1<cLine:=gD (Nat.add_le_add_left (by decide:1<=64) _) hr.units;have hu2:_+2<cLine:=gD (Nat.add_le_add_left (by decide:2<=64) _) hr.units;refine⟨_,jC (jO (i:=1) scAllP.nd rfl (Or.inr rfl) (qS (LwD.KI rfl hu2) (by rfl) T.dct boot_dict (jA (kG kJ (pv 0) jF (λ_ _=>rfl)) jB))) (jE (jM (vZ (own:=1) (idx:=[1]) (N:=["power","table"]) rfl rfl rfl (by decide +kernel) (by decide +kernel) (yV (by intro y hy;simp only[mI,gU,or_false]at hy;rcases hy with rfl;rfl)) (qN rfl) rfl (vS rfl ⟨rfl,rfl,rfl,rfl⟩) (qR (by rfl) T.rng (jA (jT qH (jD GD hr rfl DD.m DD.F.kp DD.b .nil jK (jA (pv 0) jB)) jF) jB)) (λC fp s2 H2=>(jH (i:=0) (show List.Nodup (["power","table"]:List Str) by decide +kernel) rfl (Or.inl rfl) (Or.inr rfl))) (λC fp s2 H2=>EA hu (pv 1) (jQ (jA (pv 0) jB)) (kL (v:=.ref nA) (by rfl) hn rfl) ⟨rfl,rfl,rfl,rfl⟩)))), ?_⟩;try dsimp only[cxK]
  have ok:=BY gb ga;obtain⟨q,xs,e1,e2,pr⟩:=qp.ex;obtain⟨x0,x1,rfl,⟨r0,b0,c0,rfl,t01,t02,p0,ep0,t03⟩,⟨r1,b1,c1,rfl,t11,t12,p1,ep1,t13⟩⟩:∃x0 x1,xs=[x0,x1]/\TmQ K H x0 ([0],b)/\TmQ K H x1 ([1],a):=by
   cases pr with
   | cons h t=>cases t with
    | cons h2 t=>cases t;exact⟨_,_,rfl,h,h2⟩
  cases ep0;cases ep1;refine⟨_,rfl,p,_,_,_,rfl,rfl,SqT.of e1,rfl,q,_,[(LwD.ik [0],.ref c0),(LwD.ik [1],.ref c1)],rfl,e2,.cons ⟨r0,b0,rfl,.inl t01,t02⟩ (.cons ⟨r1,b1,rfl,.inl t11,t12⟩ .nil),(by show([LwD.ik [0],LwD.ik [1]]).Nodup;decide),λt H1 n1 s1 e3=>?_⟩;refine⟨_,rfl,p,1,16,xJ b a,rfl,qp.same s1,ok.pd,by decide,by decide,by show 2<=1000;decide,λH2 s2=>?_⟩;rw[show vL (xJ b a)=1 from rfl];refine⟨_,_,rfl,rfl,2,rfl,by decide,by decide,λl H3 n3 s3 e4=>?_⟩;have s03:=s1.trans (s2.trans s3);refine BL (n:=2) (ApI K H2 l (.ref c0) (.ref c1)) (by decide) ⟨s3,e4,rfl⟩ (λi ys H4 h=>h.e) ?_ ?_
  ·rintro i m ys x H4 hx hm hy ⟨s4,e5,ey⟩;have il:=(CJ hx).2;have s34:=s2.trans s4;refine⟨EQ,_,rfl,t,rfl,.inr ⟨_,.inl (s34 _ _ e3)⟩,_,rfl,uL,λz H5 n5 s5 e6=>?_⟩;rw[show(0:Int)+(i:Int)=(i:Int) by omega]at e6;refine⟨qK [(LwD.ik [0],V.ref c0),(LwD.ik [1],.ref c1)] (LwD.ik [(i:Int)]),DGet.t ((s34.trans s5) _ _ e3) (by rw[LwD.ik_map];exact e6), ?_⟩;refine kY hx hm hy (s5 _ _ e5) ⟨kF (s4.trans s5) n3,jI, ?_⟩
   match i,il with
   | 0,_=>rw[ey];rfl
   | 1,_=>rw[ey];rfl
  ·rintro ys H4 hl ⟨s4,e5,ey⟩;rw[show([V.ref c0,V.ref c1].take 2)=[V.ref c0,V.ref c1]from rfl]at ey;rw[ey]at e5;have s04:=(s1.trans s2).trans s4;exact go l _ _ H4 ((s1.trans s2).free n3) s04 e5 ⟨c0,rfl,SqT.of (s04 _ _ t03)⟩ ⟨c1,rfl,SqT.of (s04 _ _ t13)⟩
theorem JT{X:Cx} :PGet X (rIxL X.K):=by
 intro ac s σ H x y v u Q I rx ry h;obtain⟨p,xs,i,z,rfl,rfl,hq,he,q⟩:=h;cases rx;obtain⟨t,rfl⟩:=ry;obtain⟨its,r,pl,hz⟩:=I.list hq;obtain⟨j,h1,h2,h3,h4,h5⟩:=IH he;obtain⟨w,ew,rw'⟩:=r.get h2;have hl:=r.length;have hn:=EK;have fin:EP X ac σ Q w s:=⟨z,H,I,rw',q⟩;by_cases h0:0<=i
 ·have hj:i.toNat=j:=by
   rw[seqIndex_of h0 h5]at h1;exact Option.some.inj h1
  exact wpAny_getItem_list pl.isList h0 (by omega) (by rw[hj];simpa using ew) fin
 ·have hj:(i+(its.toArray.size:Int)).toNat=j:=by
   rw[seqIndex_neg (by omega) h4]at h1;rw[gN,<-hl];exact Option.some.inj h1
  exact wpAny_getItem_list_neg pl.isList (by omega) (by rw[gN]<;>omega) (by omega) (by rw[hj];simpa using ew) fin
theorem OS{xs:List V}{N:Nat}{x:V}(l:xs.length=N+1)(h:xs[N]? = some x):atI xs (-1)=some x:=by
 unfold atI ixN;rw[l,nG (by decide),nH (by omega)];show xs[(-1+((N+1:Nat):Int)).toNat]? = some x;rw[show(-1+((N+1:Nat):Int)).toNat=N by omega];exact h
theorem VM{n i:Nat}{z:Int}(e:z=i)(h:i<n):ixN n z=some i:=by
 subst e;unfold ixN;rw[nH (by omega),nH (by omega)];simp
theorem MB{xs:List V}{i:Nat}{z:Int}{x:V}(e:z=i)(h:xs[i]? = some x):atI xs z=some x:=by
 subst e;exact vM h
theorem QV{K:nI}{a b:Addr}{ts us:List V}{σ0:L2.St}{g:TG}{te:TE}{Q:VK}{p:Addr}{H':Hp}(Pv:Nat->List V->Hp->Prop)(hle:us.length=ts.length)(hz:us.length<sizeLine)(h0:Pv 0 [] H')
  (hl:∀i ys H2,Pv i ys H2->SqL K H2 a ts/\SqL K H2 b us/\H2 p=some (.lst ys))
  (hs:∀i m ys x y c H2,ts[i]? = some x->us[i]? = some y->m=us.length-i->ys.length=i->Pv i ys H2->H2 c=none->g (.ref c) σ0 (upd H2 c (.tup [x,y])) fun σ4 H4=>Keep σ0 σ4/\te σ4 H4 λy H5=>H5 p=some (.lst ys)/\∃m',m'<m/\CompW us Pv (i+1) m' (ys++[y]) (upd H5 p (.lst (ys++[y]))))
  (hd:∀ys H2,ys.length=us.length->Pv us.length ys H2->Q (.ref p) H2):CompGoF σ0 (ItzL K a b) g te Q p H':=by
 refine⟨CompW us Pv,⟨_,rfl,mX _,rfl,h0⟩, ?_⟩;rintro i m ys H2 ⟨hm,hi,hy,hp⟩;obtain⟨q1,q2,e⟩:=hl i ys H2 hp;refine⟨e,by omega, ?_⟩;by_cases hlt:i<us.length
 ·have h2:i<ts.length:=by omega
  refine .inr ⟨⟨ts,us,ts[i],us[i],q1,q2,by simp [h2],by simp [hlt]⟩, ?_⟩;rintro _ _ ⟨c,x,y,hc,rfl,rfl,h1,h2⟩;exact hs i m ys x y c H2 (h1 _ q1) (h2 _ q2) hm hy hp hc
 ·obtain rfl:i=us.length:=by omega
  exact .inl ⟨⟨ts,us,q1,q2,.inr uJ⟩,hd ys H2 hy hp⟩
theorem LV{K:nI}{a:Addr}{xs:List V}{σ0:L2.St}{g:TG}{te:TE}{Q:VK}{p:Addr}{H':Hp}(Pv:Nat->List V->Hp->Prop)(hz:xs.length<sizeLine)(h0:Pv 0 [] H')
  (hl:∀i ys H2,Pv i ys H2->SqL K H2 a xs/\H2 p=some (.lst ys))
  (hs:∀i m ys x c H2,xs[i]? = some x->m=xs.length-i->ys.length=i->Pv i ys H2->H2 c=none->g (.ref c) σ0 (upd H2 c (.tup [.int i,x])) fun σ4 H4=>Keep σ0 σ4/\te σ4 H4 λy H5=>H5 p=some (.lst ys)/\∃m',m'<m/\CompW xs Pv (i+1) m' (ys++[y]) (upd H5 p (.lst (ys++[y]))))
  (hd:∀ys H2,ys.length=xs.length->Pv xs.length ys H2->Q (.ref p) H2):CompGoF σ0 (Itel K a) g te Q p H':=by
 refine⟨CompW xs Pv,⟨_,rfl,mX _,rfl,h0⟩, ?_⟩;rintro i m ys H2 ⟨hm,hi,hy,hp⟩;obtain⟨q1,e⟩:=hl i ys H2 hp;refine⟨e,by omega, ?_⟩;by_cases hlt:i<xs.length
 ·refine .inr ⟨⟨xs,xs[i],q1,by simp [hlt]⟩, ?_⟩;rintro _ _ ⟨c,x,hc,rfl,rfl,h1⟩;exact hs i m ys x c H2 (h1 _ q1) hm hy hp hc
 ·obtain rfl:i=xs.length:=by omega
  exact .inl ⟨⟨xs,q1,mW _⟩,hd ys H2 hy hp⟩
theorem gT3{K:nI}{H:Hp}{a q:Addr}{x y z:V}{n m:Nat}{σ:L2.St}{Q:L2.St->Hp->Prop}(h:SqT K H a [.ref q,z])(h':SqL K H q [x,y])(hn:2=n)(hm:2=m)(k:Q (((σ.set 5 (some x)).set 6 (some y)).set 7 (some z)) H):zK K n (kR (gTupL K m (kR (jS 5) (kR (jS 6) gNil))) (kR (jS 7) gNil)) (.ref a) σ H Q:=⟨a,_,rfl,h,hn,_,_,rfl,q,_,rfl,h',hm,_,_,rfl,_,_,rfl,rfl,_,_,rfl,rfl,k⟩
def MN(K:nI):Sp:=λvs H Q _=>∃(v1 v2:V) (x y:Rat),vs=[v1,v2]/\NumK K H v1 x/\NumK K H v2 y/\SzR 7900 x/\SzR 7900 y/\∀(r:Addr) (H':Hp),H r=none->Same H H'->At2 H' r (x-y).num (x-y).den->Q (.ref r) H'
theorem SmG.nd{x:Rat}(h:SmG x):(x.den:Int)∣60/\x.num.natAbs<2^4:=by
 obtain⟨t,b,e,t0,t1,b0,b1⟩:=h.ex;have q:=AC (by omega) e;refine⟨Int.dvd_trans q.1 ?_,by have:=q.2;omega⟩;rcases(show b=1∨b=2∨b=3∨b=4∨b=5 by omega)with rfl | rfl | rfl | rfl | rfl<;>decide
structure Lv2(b a:Rat)(t0 t1 D:Int):Prop where
 pos:0<D
 sD:D.natAbs<=2^6
 s0:t0.natAbs<2^10
 s1:t1.natAbs<2^10
 e0:fv t0 D=b
 e1:fv t1 D=a
theorem AK{Q:Rat->Prop}{b a:Rat}(hb:Q b)(ha:Q a):∀r∈[b,a],Q r:=λr hr=>by
 cases hr with
 | head=>exact hb
 | tail _ h=>cases h with
  | head=>exact ha
  | tail _ h=>cases h
theorem lv2_of{b a:Rat}(hb:SmG b)(ha:SmG a):∃t0 t1,lvT [b,a]=[t0,t1]/\Lv2 b a t0 t1 (lvD [b,a]):=by
 have D6:(lvD [b,a]).natAbs<=2^6:=NU (D:=60) (by decide) (by decide) (AK hb.nd.1 ha.nd.1);have tb:=lvT_bd D6 (AK hb.nd.2 ha.nd.2);have p:=zT [b,a];have val:∀r∈[b,a],fv (r.num*(lvD [b,a]/(r.den:Int))) (lvD [b,a])=r:=λr hr=>by
  have e:=LN hr;unfold fv;rw[e];have:=cne p
  grind
 exact⟨_,_,rfl,p,D6,tb _ (.head _),tb _ (.tail _ (.head _)),val _ (.head _),val _ (.tail _ (.head _))⟩
def spMov(K:nI):Sp:=λvs H Q _=>∃(p st pc:Addr) (b a:Rat),vs=[.ref p,.ref st,.ref pc]/\SumQ K H p 1 (xJ b a)/\SmG b/\SmG a/\At2 H st 0 1/\At2 H pc 1 1/\
 ∀(t q:Addr) (t0 t1 D:Int) (H':Hp),H t=none->H q=none->Same H H'->Lv2 b a t0 t1 D->H' t=some (.tup [.ref q,.int D])->H' q=some (.lst [.int t0,.int t1])->Q (.ref t) H'
def spSpr:Sp:=λvs H Q _=>∃(l:Addr) (t0 t1:Int),vs=[.ref l]/\H l=some (.lst [.int t0,.int t1])/\t0.natAbs<2^10/\t1.natAbs<2^10/\
 ∀(q:Addr) (H':Hp),H q=none->Same H H'->H' q=some (.lst [.int t0,.int (t1+t0)])->Q (.ref q) H'
def spRaw(K:nI):Sp:=λvs H Q _=>∃(p lo hi:Addr) (b a:Rat),vs=[.ref p,.ref lo,.ref hi]/\SumQ K H p 1 (xJ b a)/\SmG b/\SmG a/\At2 H lo 0 1/\At2 H hi 1 1/\
 ∀(t q:Addr) (t0 t1 D:Int) (H':Hp),H t=none->H q=none->Same H H'->Lv2 b a t0 t1 D->H' t=some (.tup [.ref q,.int D])->H' q=some (.lst [.int t0,.int (t1+t0)])->Q (.ref t) H'
inductive Mv2(p st pc q2:Addr)(D t0 t1:Int)(H H7:Hp)(i:Nat)(σ:L2.St)(H8:Hp):Prop
 | mk (s:Same H7 H8) (rr:Addr) (v:Option V):H rr=none->H8 rr=some (.lst (if i=0 then [.int t1]else [.int t0,.int t1]))->σ=[some (.ref p),some (.ref st),some (.ref pc),some (.ref q2),some (.int D),some (.int 0),some (.int 1),some (.int 1),some (.ref rr),some (.int 1),v]->Mv2 p st pc q2 D t0 t1 H H7 i σ H8
structure TwI(H1:Hp)(l:Addr)(v0 v1:V)(i:Nat)(ys:List V)(H2:Hp):Prop where
 s:Same H1 H2
 e:H2 l=some (.lst ys)
 y:ys=[v0,v1].take i
theorem scLess:FnScope ["one","other","over","under"] ["one","other"] (jJ MY):=⟨rfl,rfl,rfl,by decide +kernel,rfl,by decide +kernel,by decide +kernel⟩
theorem UK{fA:Addr}{fdA:FuncData}(F:Fun K "less" "less" MY f fd)(DA:Df K mg "added" FL ["one","other"] fA fdA)(GA:FnOk P w K mg base CX0 2 fA fdA ["one","other"] (GK K)):FnOk P w K mg base CX0 3 f fd ["one","other"] (MN K):=by
 refine F.ok scLess (λvs H Q E h=>?_) (λcdv A outer s H vs Q E hr h=>?_)
 ·obtain⟨v1,v2,x,y,rfl,_⟩:=h
  rfl
 ·obtain⟨v1,v2,x,y,rfl,⟨p1,rfl,q1⟩,⟨p2,rfl,q2⟩,z1,z2,go⟩:=h;refine⟨_,jC (vC (pv 1) (jY rfl (jG (jH (i:=2) scLess.nd rfl (Or.inl rfl)) (jG (jH (i:=3) scLess.nd rfl (Or.inl rfl)) jV)))) (jE (jM (jD GA hr rfl DA.m DA.F.kp DA.b .nil jK (jA (pv 0) (jA (jQ (jA (yS xC (pv 2)) (jA (pv 3) jB))) jB))))), ?_⟩;try dsimp only[cxK]
  refine⟨_,rfl,gT2 q2 rfl ?_⟩;refine⟨_,rfl,_,rfl,_,rfl,_,rfl,uM,λr1 H1 n1 s1 e1=>?_⟩;have e1:H1 r1=some (.tup [.int (-y).num,.int ((-y).den:Int)]):=e1;have z2':SzR 7900 (-y):=⟨by show(-y.num).natAbs<_;rw[Int.natAbs_neg];exact z2.1,z2.2⟩;refine⟨p1,r1,_,_,_,_,rfl,vX s1 q1,SqT.of e1,z1.fr uJ,z2'.fr uJ,λr H2 n2 s2 e2=>?_⟩;have e2:=WQ e2;rw[<-Rat.sub_eq_add_neg]at e2;exact go r H2 (s1.free n2) (s1.trans s2) e2
theorem scFact:FnScope ["many","product","factor"] ["many"] (jJ IS):=⟨rfl,rfl,rfl,by decide +kernel,rfl,by decide +kernel,by decide +kernel⟩
theorem YT(F:Fun K "factorial" "factorial" IS f fd)(T:Txt mg):FnOk P w K mg base CX0 1 f fd ["many"] spFac1:=by
 refine F.ok scFact (λvs H Q E h=>?_) (λcdv A outer s H vs Q E hr h=>?_)
 ·obtain⟨n,rfl,_⟩:=h
  rfl
 ·obtain⟨n,rfl,n1,go⟩:=h;refine⟨_,jC (jO (i:=1) scFact.nd rfl (Or.inl rfl) jF)
   (jC (qA PassesOwn.never rfl (PN (by rfl) T.rng (jA jF (jA (jT qH (pv 0) jF) jB))) (jH (i:=2) scFact.nd rfl (Or.inl rfl)) (jE (jO (i:=1) scFact.nd rfl (Or.inl rfl) (jT kO (pv 1) (pv 2))))) (jE (jM (pv 1)))), ?_⟩
  try dsimp only[cxK]
  refine⟨_,rfl,_,_,rfl,rfl,_,_,rfl,⟨by decide,by decide,by omega,by omega⟩, ?_⟩;refine vH (λ_ σ H1=>H1=H/\∃v,σ=[some (.int n),some (.int 1),v]) ⟨rfl,_,rfl⟩ ?_ ?_
  ·rintro i σ H1 hi ⟨rfl,v,rfl⟩;omega
  ·rintro σ H1 ⟨rfl,v,rfl⟩;exact⟨_,rfl,go⟩
theorem scMoved:FnScope ["one","start","pace","tops","bottom","base","step","under","row","share","top"] ["one","start","pace"] (jJ HI):=⟨rfl,rfl,rfl,by decide +kernel,rfl,by decide +kernel,by decide +kernel⟩
theorem ok_mov{fL fN:Addr}{fdL fdN:FuncData}(F:Fun K "moved" "moved" HI f fd)(T:Txt mg)(DL:Df K mg "level" HJ ["some"] fL fdL)(GL:FnOk P w K mg base CX0 4 fL fdL ["some"] (MM K))(DN:Df K mg "all_powers" NA ["one"] fN fdN)(GN:FnOk P w K mg base CX0 2 fN fdN ["one"] (SK K)):FnOk P w K mg base CX0 5 f fd ["one","start","pace"] (spMov K):=by
 refine F.ok scMoved (λvs H Q E h=>?_) (λcdv A outer s H vs Q E hr h=>?_)
 ·obtain⟨p,st,pc,b,a,rfl,_⟩:=h
  rfl
 ·obtain⟨p,st,pc,b,a,rfl,qp,gb,ga,est,epc,go⟩:=h;have hr2:Room 2 _:=hr.mono (by decide);refine⟨_,jC (vC (jD GL hr rfl DL.m DL.F.kp DL.b .nil jK (jA (jD GN hr2 rfl DN.m DN.F.kp DN.b .nil jK (jA (pv 0) jB)) jB)) (jY rfl (jG (jH (i:=3) scMoved.nd rfl (Or.inl rfl)) (jG (jH (i:=4) scMoved.nd rfl (Or.inl rfl)) jV))))
   (jC (vC (jD GL hr rfl DL.m DL.F.kp DL.b .nil jK (jA (kH (jA (pv 1) (jA (pv 2) jB))) jB)) (jY rfl (jG (XW rfl (jG (jH (i:=5) scMoved.nd rfl (Or.inr rfl)) (jG (jH (i:=6) scMoved.nd rfl (Or.inr rfl)) jV))) (jG (jH (i:=7) scMoved.nd rfl (Or.inl rfl)) jV))))
   (jC (jO (i:=8) scMoved.nd rfl (Or.inl rfl) (kH (jA (kG qG (pv 3) (yS xC jF) (λ_ _=>rfl)) jB)))
   (jC (jO (i:=9) scMoved.nd rfl (Or.inl rfl) jF)
   (jC (qA PassesOwn.never rfl (xI (JC (zD CU (pv 3) uB (yK (yS xC jF))) (yK (yS xC jF)))) (jH (i:=10) scMoved.nd rfl (Or.inl rfl))
    (jC (jO (i:=9) scMoved.nd rfl (Or.inl rfl) (jT kO (pv 9) (pv 7)))
    (jC (DJ (i:=8) scMoved.nd rfl (Or.inl rfl) (own:=2) (idx:=[5,6]) (N:=["same","lower","base","step"]) rfl rfl rfl (by decide +kernel) (by decide +kernel) (λ_ _ h=>h) (qN rfl) rfl (FY rfl rfl ⟨rfl,rfl,rfl,rfl⟩ ⟨rfl,rfl,rfl,rfl⟩)
     (NI (by rfl) T.zip (jA (jT NM (pv 8) (kH (jA jF jB))) (jA (jT NM (kH (jA jF jB)) (pv 8)) jB)))
     (λC fp s2 H2=>show PG (jN _ ["same","lower","base","step"] _ _ C fp s2 H2) _ (zK K 2 (kR (jS 0) (kR (jS 1) gNil)))from jY (X:=jN _ ["same","lower","base","step"] _ _ C fp s2 H2) rfl (jG (jH (i:=0) (show List.Nodup (["same","lower","base","step"]:List Str) by decide +kernel) rfl (Or.inl rfl) (Or.inr rfl)) (jG (jH (i:=1) (show List.Nodup (["same","lower","base","step"]:List Str) by decide +kernel) rfl (Or.inl rfl) (Or.inr rfl)) jV)))
     (λC fp s2 H2=>jT qH (jT kO (pv 2) (pv 0)) (jT kO (pv 3) (pv 1))))
    (jE (NF (pv 8) jF JT (jT kO (pv 10) (pv 9)) VO CV)))))
   (jE (jM (jQ (jA (pv 8) (jA (jT kO (pv 4) (pv 9)) jB))))))))), ?_⟩
  try dsimp only[cxK]
  refine⟨_,rfl,p,b,a,rfl,qp,gb,ga,λl1 v0 v1 H1 n1 s1 e1 k0 k1=>?_⟩;refine⟨l1,[v0,v1],[b,a],rfl,SqL.of e1,λH' s'=>SqL.of (s' _ _ e1),.cons k0 (.cons k1 .nil),(by show 2<=200;decide),⟨60,by decide,mN (show 60<=2^6 by decide) (uY (by decide) (by decide)),AK gb.nd.1 ga.nd.1⟩,AK (jR gb.nd.2 (by decide)) (jR ga.nd.2 (by decide)),λt2 q2 H2 n2 m2 s2 et2 eq2=>?_⟩;obtain⟨t0,t1,eT,L⟩:=lv2_of gb ga;rw[eT]at eq2;generalize lvD [b,a]=D at et2 L;refine(gT2 (SqT.of et2) rfl ?_);refine⟨_,rfl,_,rfl,uM,λl3 H3 n3 s3 e3=>?_⟩;have s13:=(s1.trans s2).trans s3;refine⟨l3,_,[0,1],rfl,SqL.of e3,λH' s'=>SqL.of (s' _ _ e3),.cons (NumK.of (x:=0) (s13 _ _ est)) (.cons (NumK.of (x:=1) (s13 _ _ epc)) .nil),(by show 2<=200;decide),⟨1,by decide,Nat.one_le_two_pow,AK (Int.dvd_refl 1) (Int.dvd_refl 1)⟩,AK (Nat.two_pow_pos _) (Nat.one_lt_pow (by decide) (by decide)),λt4 q4 H4 n4 m4 s4 et4 eq4=>?_⟩;rw[show lvT [0,1]=[0,1] by decide +kernel]at eq4;rw[show lvD [0,1]=1 by decide +kernel]at et4;refine gT3 (SqT.of et4) (SqL.of eq4) rfl rfl ?_;have s34:=s3.trans s4;have s14:=(s1.trans s2).trans s34;have eq2':=s34 _ _ eq2;refine⟨_,rfl,_,rfl,q2,_,_,_,rfl,rfl,SqL.of eq2',OS (N:=1) rfl rfl,uL,λr5 H5 n5 s5 e5=>?_⟩;have s15:=s14.trans s5;refine⟨_,rfl,_,rfl,_,rfl,q2,_,rfl,SqL.of (s5 _ _ eq2'),λl6 H6 n6 s6 e6=>?_⟩;refine⟨_,rfl,_,rfl,rfl,l6,_,rfl,SqL.of e6,λl7 H7 n7 s7 e7=>?_⟩;have e7:H7 l7=some (.lst [.int t0]):=e7
  have s57:=s6.trans s7;have s17:=s15.trans s57;have g7:H4 r5=none:=n5;have b0:=L.s0;have b1:=L.s1;refine⟨l7,rfl,⟨_,SqL.of e7⟩,zL (K:=K) (a:=l7) (xs:=[.int t0]) (Mv2 p st pc q2 D t0 t1 H H7) ⟨Same.refl _,r5,none,s14.free g7,s57 _ _ e5,rfl⟩ (λi σ H1 _ h=>by obtain⟨s,_⟩:=h;exact SqL.of (s _ _ e7)) ?_ ?_⟩
  ·rintro i x σ H8 hx ⟨s8,rr,v,nrr,er,rfl⟩;obtain⟨rfl,rfl⟩:i=0/\x=.int t0:=by
    match i,hx with
    | 0,hx=>exact⟨rfl,(Option.some.inj hx).symm⟩
   rw[nH rfl]at er;refine oVV rfl rfl ⟨Nat.one_lt_two_pow (by decide),Nat.one_lt_two_pow (by decide)⟩ ?_;refine⟨_,rfl,uL,λz1 H9 n9 s9 e9=>?_⟩;refine⟨rr,z1,[.int t1],[.int 0],rfl,rfl,s9 _ _ er,e9,uM,λc1 H10 n10 s10 e10=>?_⟩;refine⟨uL,λz2 H11 n11 s11 e11=>⟨_,rfl,z2,rr,[.int 0],[.int t1],rfl,rfl,e11,(s9.trans (s10.trans s11)) _ _ er,uM,λc2 H12 n12 s12 e12=>?_⟩⟩;have s812:=s9.trans (s10.trans (s11.trans s12));have e10':H12 c1=some (.lst [.int t1,.int 0]):=(s11.trans s12) _ _ e10;have e12:H12 c2=some (.lst [.int 0,.int t1]):=e12;refine⟨c1,c2,rfl,⟨_,SqL.of e10'⟩,⟨_,SqL.of e12⟩,λrn H13 n13 s13 e13=>?_⟩;have nn:Same H7 H12:=s8.trans s812;refine QV (K:=K) (a:=c1) (b:=c2) (ts:=[.int t1,.int 0]) (us:=[.int 0,.int t1]) (TwI H12 rn (.int (0*t1+1*0)) (.int (0*0+1*t1))) rfl (by show 2<sizeLine;decide) ⟨s13,e13,rfl⟩ (λk ys H14 h=>⟨SqL.of (h.1 _ _ e10'),SqL.of (h.1 _ _ e12),h.2⟩) ?_ ?_
   ·rintro k m ys x y z H14 hx hy hm hl' ⟨s14',e14,ey⟩ nz;obtain⟨x',y',rfl,rfl,bx,by',ev⟩:∃x' y':Int,x=.int x'/\y=.int y'/\x'.natAbs<2^10/\y'.natAbs<2^10/\[V.int (0*t1+1*0),.int (0*0+1*t1)].take (k+1)=[V.int (0*t1+1*0),.int (0*0+1*t1)].take k++[.int (0*x'+1*y')]:=by
     match k,hx,hy with
     | 0,hx,hy=>exact⟨t1,0,(Option.some.inj hx).symm,(Option.some.inj hy).symm,b1,Nat.two_pow_pos _,rfl⟩
     | 1,hx,hy=>exact⟨0,t1,(Option.some.inj hx).symm,(Option.some.inj hy).symm,Nat.two_pow_pos _,b1,rfl⟩
    have sz':Same H14 (upd H14 z (.tup [.int x',.int y'])):=kB _ nz;have ez:(upd H14 z (.tup [.int x',.int y'])) z=some (.tup [.int x',.int y']):=jI;generalize upd H14 z (.tup [.int x',.int y'])=H15 at sz' ez;refine(gT2 (SqT.of ez) rfl ⟨BH, ?_⟩);refine⟨_,rfl,_,rfl,_,_,rfl,rfl,⟨Nat.two_pow_pos _,jR bx (by decide)⟩,_,rfl,_,rfl,_,_,rfl,rfl,⟨Nat.one_lt_two_pow (by decide),jR by' (by decide)⟩,_,_,rfl,rfl, ?_⟩;exact kY hy hm hl' (sz' _ _ e14) ⟨kF (s14'.trans sz') n13,jI,by rw[ev,ey]⟩
   ·rintro ys H14 hl' ⟨s14',e14,ey⟩;rw[ey]at e14;have e14:H14 rn=some (.lst [.int (0*t1+1*0),.int (0*0+1*t1)]):=e14;refine⟨_,rfl,rn,_,_,_,rfl,rfl,SqL.of e14,MB (i:=0) rfl rfl,_,rfl,_,rfl,_,_,rfl,rfl,⟨jR b0 (by decide),Nat.one_lt_two_pow (by decide)⟩,_,_,rfl,rfl,rn,_,_,0,rfl,rfl,e14,VM (i:=0) rfl (by show 0<2;decide), ?_⟩;have n7:H7 rn=none:=nn.free n13;refine⟨kF (nn.trans s14') n7,rn,some (.int t0),s17.free n7, ?_,rfl⟩;rw[jI,nG (by decide)];show some (HO.lst [.int (0*t1+1*0+t0*(1*1)),.int (0*0+1*t1)])=_;rw[show 0*t1+1*0+t0*(1*1)=t0 by omega,show 0*0+1*t1=t1 by omega]
  ·rintro σ H8 ⟨s8,rr,v,nrr,er,rfl⟩;rw[nG (by show ¬1=0;decide)]at er;refine⟨_,rfl,_,rfl,_,rfl,_,_,rfl,rfl,⟨gD L.sD (uZ (by decide) (by decide)),Nat.one_lt_two_pow (by decide)⟩,uM,λtt H9 n9 s9 e9=>?_⟩;have e9:H9 tt=some (.tup [.ref rr,.int (D*1)]):=e9;rw[Int.mul_one]at e9;exact go tt rr t0 t1 D H9 ((s17.trans s8).free n9) nrr ((s17.trans s8).trans s9) L e9 (s9 _ _ er)
theorem scSpread:FnScope ["tops","most","row","turn","at"] ["tops"] (jJ BS):=⟨rfl,rfl,rfl,by decide +kernel,rfl,by decide +kernel,by decide +kernel⟩
theorem ok_spr{fF:Addr}{fdF:FuncData}(F:Fun K "spread" "spread" BS f fd)(T:Txt mg)(DF:Df K mg "factorial" IS ["many"] fF fdF)(GF:FnOk P w K mg base CX0 1 fF fdF ["many"] spFac1):FnOk P w K mg base CX0 2 f fd ["tops"] spSpr:=by
 refine F.ok scSpread (λvs H Q E h=>?_) (λcdv A outer s H vs Q E hr h=>?_)
 ·obtain⟨l,t0,t1,rfl,_⟩:=h
  rfl
 ·obtain⟨l,t0,t1,rfl,hl,b0,b1,go⟩:=h;refine⟨_,jC (jO (i:=1) scSpread.nd rfl (Or.inr rfl) (jT xY (jX jW (by rfl) T.len PySem.boot_len (jA (pv 0) jB)) jF))
   (jC (DJ (i:=2) scSpread.nd rfl (Or.inl rfl) (own:=2) (idx:=[1]) (N:=["power","top","most"]) rfl rfl rfl (by decide +kernel) (by decide +kernel) (λ_ _ h=>h) (qN rfl) rfl (vS rfl ⟨rfl,rfl,rfl,rfl⟩)
    (DZ (by rfl) T.enum (jA (pv 0) jB))
    (λC fp s2 H2=>show PG (jN _ ["power","top","most"] _ _ C fp s2 H2) _ (zK K 2 (kR (jS 0) (kR (jS 1) gNil)))from jY (X:=jN _ ["power","top","most"] _ _ C fp s2 H2) rfl (jG (jH (i:=0) (show List.Nodup (["power","top","most"]:List Str) by decide +kernel) rfl (Or.inl rfl) (Or.inr rfl)) (jG (jH (i:=1) (show List.Nodup (["power","top","most"]:List Str) by decide +kernel) rfl (Or.inl rfl) (Or.inr rfl)) jV)))
    (λC fp s2 H2=>jT kO (jT kO (pv 1) (jD GF hr rfl DF.m DF.F.kp DF.b .nil jK (jA (pv 0) jB))) (jD GF hr rfl DF.m DF.F.kp DF.b .nil jK (jA (jT xY (pv 2) (pv 0)) jB))))
   (jC (qA PassesOwn.never rfl (qR (by rfl) T.rng (jA (pv 1) jB)) (jH (i:=3) scSpread.nd rfl (Or.inl rfl))
    (jE (qA PassesOwn.never rfl (XV (by rfl) T.rev (jA (qS KH (by rfl) T.rng boot_range (jA (jT qH (pv 3) jF) (jA (jT qH (pv 1) jF) jB))) jB)) (jH (i:=4) scSpread.nd rfl (Or.inl rfl))
     (jE (NF (pv 2) (pv 4) JT (kG qG (pv 2) (jT xY (pv 4) jF) (λ_ _=>rfl)) VO CV)))))
   (jE (jM (pv 2))))), ?_⟩
  try dsimp only[cxK]
  refine⟨_,rfl,l,_,rfl,.inl (SqL.of hl),_,_,rfl,rfl, ?_⟩;show jS 1 (.int ((1:Nat):Int)) _ H _;refine⟨_,rfl,l,rfl,⟨_,SqL.of hl⟩,λq H1 n1 s1 e1=>?_⟩;refine LV (K:=K) (a:=l) (xs:=[.int t0,.int t1]) (TwI H q (.int (t0*1*1)) (.int (t1*1*1))) (by show 2<sizeLine;decide) ⟨s1,e1,rfl⟩ (λi ys H2 h=>⟨SqL.of (h.1 _ _ hl),h.2⟩) ?_ ?_
  ·rintro i k ys x z H2 hx hm' hy ⟨s2,e2,ey⟩ nz;obtain⟨t,rfl,bt,hi,ev⟩:∃t:Int,x=.int t/\t.natAbs<2^10/\i<=1/\[V.int (t0*1*1),.int (t1*1*1)].take (i+1)=[V.int (t0*1*1),.int (t1*1*1)].take i++[.int (t*1*1)]:=by
    match i,hx with
    | 0,hx=>exact⟨t0,(Option.some.inj hx).symm,b0,by decide,rfl⟩
    | 1,hx=>exact⟨t1,(Option.some.inj hx).symm,b1,by decide,rfl⟩
   have sz':Same H2 (upd H2 z (.tup [.int i,.int t])):=kB _ nz;have ez:(upd H2 z (.tup [.int i,.int t])) z=some (.tup [.int i,.int t]):=jI;generalize upd H2 z (.tup [.int i,.int t])=H3 at sz' ez;refine⟨z,_,rfl,SqT.of ez,rfl,_,_,rfl,_,_,rfl,rfl,BH, ?_⟩;refine⟨_,rfl,_,rfl,i,rfl,hi,_,_,rfl,rfl,⟨jR bt (by decide),Nat.one_lt_two_pow (by decide)⟩,_,rfl,_,rfl,_,_,rfl,rfl,1-i, ?_,by omega,_,_,rfl,rfl,⟨jR (show(t*1).natAbs<2^10 by omega) (by decide),Nat.one_lt_two_pow (by decide)⟩, ?_⟩
   ·show [V.int (((1:Nat):Int)-(i:Int))]=[V.int ((1-i:Nat):Int)];rw[show((1:Nat):Int)-(i:Int)=((1-i:Nat):Int) by omega]
   exact kY hx hm' hy (sz' _ _ e2) ⟨kF (s2.trans sz') n1,jI,by rw[ev,ey]⟩
  ·rintro ys H2 hy ⟨s2,e2,ey⟩;rw[ey]at e2;have e2:H2 q=some (.lst [.int (t0*1*1),.int (t1*1*1)]):=e2;rw[show t0*1*1=t0 by omega,show t1*1*1=t1 by omega]at e2;refine⟨_,rfl,_,rfl,by omega,by omega, ?_⟩;rw[gS];refine vH (λT σ H3=>Same H H3/\H3 q=some (.lst [.int t0,.int (t1+T*t0)])/\∃v3 v4,σ=[some (.ref l),some (.int ((1:Nat):Int)),some (.ref q),v3,v4]) ⟨s2, ?_,_,_,rfl⟩ ?_ ?_
   ·rw[e2,show t1+((0:Nat):Int)*t0=t1 by omega]
   ·rintro T σ H3 hT ⟨s3,e3,v3,v4,rfl⟩;obtain rfl:T=0:=by omega
    rw[show t1+((0:Nat):Int)*t0=t1 by omega]at e3;refine⟨_,rfl,_,_,rfl,rfl,_,rfl,_,_,rfl,rfl,_,_,rfl,λrg nrg=>?_⟩;have s4:Same H3 (upd H3 rg (.rng (0+((0:Nat):Int)+1) (((1:Nat):Int)+1))):=kB _ nrg;have er:(upd H3 rg (.rng (0+((0:Nat):Int)+1) (((1:Nat):Int)+1))) rg=some (.rng (0+((0:Nat):Int)+1) (((1:Nat):Int)+1)):=jI;generalize upd H3 rg (.rng (0+((0:Nat):Int)+1) (((1:Nat):Int)+1))=H4 at s4 er;refine⟨rg,1,1,rfl,er,by omega,by omega, ?_⟩;refine QQ (λi σ H5=>Same H H5/\H5 q=some (.lst [.int t0,.int (t1+i*t0)])/\∃v4,σ=[some (.ref l),some (.int ((1:Nat):Int)),some (.ref q),some (.int (0+((0:Nat):Int))),v4]) ⟨s3.trans s4, ?_,_,rfl⟩ ?_ ?_
    ·rw[s4 _ _ e3,show t1+((0:Nat):Int)*t0=t1 by omega]
    ·rintro i σ H5 hi ⟨s5,e5,v4,rfl⟩;obtain rfl:i=0:=by omega
     rw[show t1+((0:Nat):Int)*t0=t1 by omega]at e5;refine⟨_,rfl,_,rfl,q,_,_,_,rfl,rfl,SqL.of e5,MB (i:=1) (by omega) rfl,_,rfl,_,rfl,_,_,rfl,rfl,q,_,_,_,rfl,rfl,SqL.of e5,MB (i:=0) (by omega) rfl,_,_,rfl,rfl,q,_,_,1,rfl,rfl,e5,VM (i:=1) (by omega) (by show 1<2;decide), ?_⟩;refine⟨kF s5 (by exact n1), ?_,_,rfl⟩;rw[jI,show t1+((0+1:Nat):Int)*t0=t1+t0 by omega]
     rfl
    ·rintro σ H5 ⟨s5,e5,v4,rfl⟩;exact⟨s5,e5,_,_,rfl⟩
   ·rintro σ H3 ⟨s3,e3,v3,v4,rfl⟩;rw[show t1+((1:Nat):Int)*t0=t1+t0 by omega]at e3;exact⟨_,rfl,go q H3 n1 s3 e3⟩
theorem scRaw:FnScope ["one","low","high","tops","bottom"] ["one","low","high"] (jJ XE):=⟨rfl,rfl,rfl,by decide +kernel,rfl,by decide +kernel,by decide +kernel⟩
theorem ok_raw{oa fV fL fS fF:Addr}{fdV fdL fdS fdF:FuncData}(F:Fun K "raw_numbers" "raw_numbers" XE f fd)(T:Txt mg)(hO:mg "ONE_pieces" = some (.ref oa))(DV:Df K mg "moved" HI ["one","start","pace"] fV fdV)(GV:FnOk P w K mg base CX0 5 fV fdV ["one","start","pace"] (spMov K))(DL:Df K mg "less" MY ["one","other"] fL fdL)(GL:FnOk P w K mg base CX0 3 fL fdL ["one","other"] (MN K))(DS:Df K mg "spread" BS ["tops"] fS fdS)(GS:FnOk P w K mg base CX0 2 fS fdS ["tops"] spSpr)(DF:Df K mg "factorial" IS ["many"] fF fdF)(GF:FnOk P w K mg base CX0 1 fF fdF ["many"] spFac1):FnOk P w K mg base CX0 6 f fd ["one","low","high"] (spRaw K):=by
 refine F.ok scRaw (λvs H Q E h=>?_) (λcdv A outer s H vs Q E hr h=>?_)
 ·obtain⟨p,lo,hi,b,a,rfl,_⟩:=h
  rfl
 ·obtain⟨p,lo,hi,b,a,rfl,qp,gb,ga,elo,ehi,go⟩:=h;have hr1:Room 1 _:=hr.mono (by decide);have hr2:Room 2 _:=hr.mono (by decide);have hr3:Room 3 _:=hr.mono (by decide);refine⟨_,jC (kT (AO (EC (pv 2))) (jE (jM (jD GV hr rfl DV.m DV.F.kp DV.b .nil jK (jA (pv 0) (jA (pv 1) (jA (kL (v:=.ref oa) (by rfl) hO rfl) jB)))))) kC)
   (jC (kT (AO (EC (pv 1))) (jE (jM (jD GV hr rfl DV.m DV.F.kp DV.b .nil jK (jA (pv 0) (jA (pv 2) (jA (jQ (jA (yS xC jF) (jA jF jB))) jB)))))) kC)
   (jC (vC (jD GV hr rfl DV.m DV.F.kp DV.b .nil jK (jA (pv 0) (jA (pv 1) (jA (jD GL hr3 rfl DL.m DL.F.kp DL.b .nil jK (jA (pv 2) (jA (pv 1) jB))) jB)))) (jY rfl (jG (jH (i:=3) scRaw.nd rfl (Or.inl rfl)) (jG (jH (i:=4) scRaw.nd rfl (Or.inl rfl)) jV))))
   (jE (jM (jQ (jA (jD GS hr2 rfl DS.m DS.F.kp DS.b .nil jK (jA (pv 3) jB)) (jA (jT kO (pv 4) (jD GF hr1 rfl DF.m DF.F.kp DF.b .nil jK (jA (jT xY (jX jW (by rfl) T.len PySem.boot_len (jA (pv 3) jB)) jF) jB))) jB))))))), ?_⟩
  try dsimp only[cxK]
  refine⟨_,rfl,_,rfl,xE (hW λz=>by cases z) ?_⟩;refine⟨_,rfl,_,rfl,xE (hW λz=>by cases z) ?_⟩;refine⟨_,rfl,_,rfl,_,rfl,_,rfl,.ref hi,.ref lo,1,0,rfl,NumK.of (x:=1) ehi,NumK.of (x:=0) elo,⟨Nat.one_lt_two_pow (by decide),Nat.one_lt_two_pow (by decide)⟩,⟨Nat.two_pow_pos _,Nat.one_lt_two_pow (by decide)⟩,λz H1 n1 s1 e1=>?_⟩;rw[show((1:Rat)-0)=1 by decide +kernel]at e1;refine⟨p,lo,z,b,a,rfl,qp.same s1,gb,ga,s1 _ _ elo,e1,λt q t0 t1 D H2 m1 m2 s2 L e2 e3=>?_⟩;refine⟨t,_,rfl,SqT.of e2,rfl,_,_,rfl,_,_,rfl,rfl, ?_⟩;refine⟨_,rfl,q,t0,t1,rfl,e3,L.s0,L.s1,λq3 H3 n3 s3 e4=>?_⟩;refine⟨_,rfl,_,rfl,q,_,rfl,.inl (SqL.of (s3 _ _ e3)),_,_,rfl,rfl,1,rfl,by decide,_,_,rfl,rfl,⟨gD L.sD (uZ (by decide) (by decide)),Nat.one_lt_two_pow (by decide)⟩,uM,λt4 H4 n4 s4 e5=>?_⟩;have e5:H4 t4=some (.tup [.ref q3,.int (D*1)]):=e5;rw[Int.mul_one]at e5;exact go t4 q3 t0 t1 D H4 ((s1.trans (s2.trans s3)).free n4) ((s1.trans s2).free n3) (s1.trans (s2.trans (s3.trans s4))) L e5 (s4 _ _ e4)
theorem scNums:FnScope ["one","low","high","tops","bottom"] ["one","low","high"] (jJ wY):=⟨rfl,rfl,rfl,by decide +kernel,rfl,by decide +kernel,by decide +kernel⟩
structure NmI(K:nI)(H1:Hp)(l:Addr)(r0 r1:Rat)(i:Nat)(ys:List V)(H2:Hp):Prop where
 s:Same H1 H2
 e:H2 l=some (.lst ys)
 y:Paired (NumK K H2) ys ([r0,r1].take i)
theorem YN{fR fD:Addr}{fdR fdD:FuncData}(F:Fun K "numbers" "numbers" wY f fd)(T:Txt mg)(DR:Df K mg "raw_numbers" XE ["one","low","high"] fR fdR)(GR:FnOk P w K mg base CX0 6 fR fdR ["one","low","high"] (spRaw K))(DD:Df K mg "divided" LG ["one","other"] fD fdD)(GD:FnOk P w K mg base CX0 3 fD fdD ["one","other"] (CQ K)):FnOk P w K mg base CX0 7 f fd ["one","low","high"] (SF K):=by
 refine F.ok scNums (λvs H Q E h=>?_) (λcdv A outer s H vs Q E hr h=>?_)
 ·obtain⟨p,lo,hi,b,a,rfl,_⟩:=h
  rfl
 ·obtain⟨p,lo,hi,b,a,rfl,qp,gb,ga,elo,ehi,go⟩:=h;have hr3:Room 3 _:=hr.mono (by decide);refine⟨_,jC (vC (jD GR hr rfl DR.m DR.F.kp DR.b .nil jK (jA (pv 0) (jA (pv 1) (jA (pv 2) jB)))) (jY rfl (jG (jH (i:=3) scNums.nd rfl (Or.inl rfl)) (jG (jH (i:=4) scNums.nd rfl (Or.inr rfl)) jV))))
   (jE (jM (vZ (own:=1) (idx:=[4]) (N:=["top","bottom"]) rfl rfl rfl (by decide +kernel) (by decide +kernel) (λ_ _ h=>h) (qN rfl) rfl (vS rfl ⟨rfl,rfl,rfl,rfl⟩)
    (xI (pv 3))
    (λC fp s2 H2=>jH (i:=0) (show List.Nodup (["top","bottom"]:List Str) by decide +kernel) rfl (Or.inl rfl))
    (λC fp s2 H2=>jD GD hr3 rfl DD.m DD.F.kp DD.b .nil jK (jA (jQ (jA (pv 0) (jA jF jB))) (jA (jQ (jA (pv 1) (jA jF jB))) jB)))))), ?_⟩
  try dsimp only[cxK]
  refine⟨_,rfl,_,rfl,_,rfl,p,lo,hi,b,a,rfl,qp,gb,ga,elo,ehi,λt q t0 t1 D H1 n1 n2 s1 L e1 e2=>?_⟩;refine⟨t,_,rfl,SqT.of e1,rfl,_,_,rfl,_,_,rfl,rfl, ?_⟩;refine⟨_,rfl,q,rfl,⟨_,SqL.of e2⟩,λl H2 n2' s2 e3=>?_⟩;have b0:=L.s0;have b1:=L.s1;have f1:fv (t1+t0) D=a+b:=by rw[<-IB L.pos,L.e0,L.e1]
  have bD:D.natAbs<2^7900:=gD L.sD (uZ (by decide) (by decide));refine wP (K:=K) (a:=q) (xs:=[.int t0,.int (t1+t0)]) (NmI K H1 l b (a+b)) (by show 2<sizeLine;decide) ⟨s2,e3,.nil⟩ (λi ys H4 h=>⟨SqL.of (h.1 _ _ e2),h.2⟩) ?_ ?_
  ·rintro i m ys x' H4 hx' hm hy' ⟨s4,e4,pr⟩;obtain⟨tt,r,rfl,bt,ev,fr⟩:∃(tt:Int) (r:Rat),x'=.int tt/\tt.natAbs<2^20/\[b,a+b].take (i+1)=[b,a+b].take i++[r]/\fv tt D=r:=by
    match i,hx' with
    | 0,hx'=>exact⟨t0,b,(Option.some.inj hx').symm,by omega,rfl,L.e0⟩
    | 1,hx'=>exact⟨t1+t0,a+b,(Option.some.inj hx').symm,by omega,rfl,f1⟩
   refine⟨EQ,_,rfl,uM,λz1 H5 n5 s5 e5=>⟨_,rfl,uM,λz2 H6 n6 s6 e6=>?_⟩⟩;refine⟨z1,z2,tt,1,D,1,rfl,SqT.of (s6 _ _ e5),SqT.of e6,AU (jR bt (by decide)) (by decide),AU bD (by decide),by have:=L.pos;omega,λz3 H7 n7 s7 e7=>?_⟩;rw[Int.mul_one,Int.one_mul]at e7;have e7:At2 H7 z3 r.num r.den:=BA e7 L.pos fr;have s47:=s5.trans (s6.trans s7);refine kY hx' hm hy' (s47 _ _ e4) ⟨kF (s4.trans s47) n2',jI, ?_⟩;rw[ev];have e4':=s47 _ _ e4;exact Paired.snoc (Paired.mono (λ_ _ y=>(NumK.same y s47).but e4' qT) pr) ((NumK.of (K:=K) e7).but e4' qT)
  ·rintro ys H4 hy' ⟨s4,e4,pr⟩;have pr:Paired (NumK K H4) ys [b,a+b]:=pr;obtain⟨v0,v1,rfl,k0,k1⟩:∃v0 v1,ys=[v0,v1]/\NumK K H4 v0 b/\NumK K H4 v1 (a+b):=by
    cases pr with
    | cons h t=>cases t with
     | cons h2 t=>cases t;exact⟨_,_,rfl,h,h2⟩
   exact go l v0 v1 H4 (s1.free n2') (s1.trans s4) e4 k0 k1
def rIsiT(K:nI):List V->Hp->VK->Prop:=λxs H Q=>match xs with
 | [x,y]=>y=.ty "tuple"/\∃a ys,x=.ref a/\SqT K H a ys/\Q (.bl true) H
 | _=>False
section
variable{X:Cx}
theorem RA:CallR X (.builtin "isinstance") (rIsiT X.K):=by
 intro ac s σ H xs us Q I r h
 match xs,h with
 | [x,y],h=>
  obtain⟨rfl,a,ys,rfl,hq,q⟩:=h;obtain⟨u,w',rfl,ru,rw'⟩:=vals2 r;cases (show w'=Value.type "tuple" from rw');cases (show u=Value.ref a from ru);obtain⟨its,_,pl,_⟩:=I.tuple hq;obtain⟨o,h1,h2,_⟩:=pl;exact PySem.W.kia_one PySem.W.kitx_tuple I.kIn ⟨o,h1,h2⟩ (show PySem.W.kitOne X.K (.type "tuple") (.type "tuple")=some true from yQ X.K .tup) (λz=>nomatch z) λtk=>⟨.bl true,H,I.tok tk,rfl,q⟩
theorem XY{e:Expr}{te:TE}{p p2 pos:Pos}(hm:X.mg "isinstance" = none)(hm2:X.mg "tuple" = none)(he:PE X e te)
  (hg:Gl X "isinstance":=by rfl) (hg2:Gl X "tuple":=by rfl) (hs:starEach [e,.Name "tuple" p2] X.env=(false,eval e X.env)::starEach [.Name "tuple" p2] X.env:=by rfl) (hs2:starEach [.Name "tuple" p2] X.env=(false,eval (.Name "tuple" p2) X.env)::starEach [] X.env:=by rfl)
  (hpl:(backTo pos (starEach [.Name "tuple" p2] X.env)).any (·.1)=false:=by rfl):PE X (.Call (.Name "isinstance" p) [e,.Name "tuple" p2] [] pos) (tCB (rIsiT X.K) (CN te (CN (tC (.ty "tuple")) tNil))):=
 jX (X:=X) (p:=p) (pos:=pos) RA hg hm boot_isinstance (jA he (jA (NK (v:=.ty "tuple") hg2 hm2 boot_tuple rfl (by decide) (by decide)) jB hs2) hs) (by decide) (by decide) hs hpl
end
def SH(K:nI):Sp:=λvs H Q _=>∃(v:V) (x:Rat),vs=[v]/\NumK K H v x/\SzR 7900 x/\Q (.bl true) H
theorem YQ{fW fG:Addr}{fdW fdG:FuncData}(F:Fun K "is_fraction" "is_fraction" LF f fd)(T:Txt mg)(DW:Df K mg "is_whole" wI ["thing"] fW fdW)(DG:Df K mg "greatest_divisor" DB ["one","other"] fG fdG) :
  FnOk P w K mg base CX0 2 f fd ["thing"] (SH K):=by
 have GW:FnOk P w K mg base CX0 1 fW fdW ["thing"] spWhole:=EG DW.F T;have GG:FnOk P w K mg base CX0 1 fG fdG ["one","other"] spGcd:=EH DG.F T;refine F.ok scIsf (λvs H Q E h=>?_) (λcdv A outer s H vs Q E hr h=>?_)
 ·obtain⟨v,x,rfl,_⟩:=h
  rfl
 ·obtain⟨v,x,rfl,⟨a,rfl,hq⟩,hz,q⟩:=h;refine⟨_,jC (kT (PW.pt (qU (kZ (kU (XY T.isi T.tup (pv 0)))) (vB (kI zF (jX jW (by rfl) T.len PySem.boot_len (jA (pv 0) jB)) jF (kD _))))) (jE (jM xQ)) kC)
   (jC (vC (pv 0) (jY rfl (jG (jH (i:=1) scIsf.nd rfl (Or.inl rfl)) (jG (jH (i:=2) scIsf.nd rfl (Or.inl rfl)) jV))))
   (jC (kT (PW.pt (qU (kZ (kU (jD GW hr rfl DW.m DW.F.kp DW.b .nil jK (jA (pv 1) jB)))) (qU (kZ (kU (jD GW hr rfl DW.m DW.F.kp DW.b .nil jK (jA (pv 2) jB)))) (vB (kI JD (pv 2) jF (kD _)))))) (jE (jM xQ)) kC)
   (jE (jM (qZ JE (jD GG hr rfl DG.m DG.F.kp DG.b .nil jK (jA (pv 1) (jA (pv 2) jB))) jF (kD _)))))), ?_⟩
  try dsimp only[cxK]
  have n:=kS x;refine⟨_,rfl,rfl,a,_,rfl,hq,_,rfl,qJ ?_⟩;refine⟨_,rfl,a,_,rfl,.inr hq,rfl,_,rfl,qJ ?_⟩;refine⟨_,rfl,a,_,rfl,hq,rfl,_,_,rfl,_,_,rfl,rfl, ?_⟩;refine⟨_,rfl,_,.int,rfl,.int _,_,rfl,qJ ?_⟩;refine⟨_,rfl,_,.int,rfl,.int _,_,rfl,qJ ?_⟩;refine⟨_,rfl,_,_,rfl,rfl,_,rfl,xE (hW (by omega)) ?_⟩;refine⟨_,rfl,_,rfl,x.num,x.den,rfl,n.1,jR (show((x.den:Int)).natAbs<2^7900 by rw[gI];exact hz.2) (by decide),rfl, ?_⟩;rw[show((Int.gcd x.num x.den:Nat):Int)=1 by rw[n.2];rfl];exact q
structure Cs1(K:nI)(H:Hp)(p:Addr)(aa:Nat)(c:Addr):Prop where
 ex:∃q r b:Addr,H p=some (.tup [.int aa,.ref q])/\H q=some (.tup [.ref r])/\H r=some (.tup [.ref b,.ref c])/\H b=some (.tup ((List.replicate aa (0:Int)).map V.int))
 one:∀H',SqT K H' c [.int 1,.int 1]
theorem Cs1.same{K:nI}{H H':Hp}{p c:Addr}{aa:Nat}(h:Cs1 K H p aa c)(s:Same H H'):Cs1 K H' p aa c:=let ⟨q,r,b,e1,e2,e3,e4⟩:=h.ex;⟨⟨q,r,b,s _ _ e1,s _ _ e2,s _ _ e3,s _ _ e4⟩,h.one⟩
theorem HN{aa:Nat}(h:aa<=4):pk (List.replicate aa 0)=0:=by
 rcases(show aa=0∨aa=1∨aa=2∨aa=3∨aa=4 by omega)with rfl | rfl | rfl | rfl | rfl<;>rfl
theorem HL{aa:Nat}(h:aa<=4):(List.replicate aa (0:Int)).sum=0:=by
 rcases(show aa=0∨aa=1∨aa=2∨aa=3∨aa=4 by omega)with rfl | rfl | rfl | rfl | rfl<;>rfl
theorem NB{aa:Nat} :Byt (List.replicate aa 0):=λn hn=>by rw[(List.mem_replicate.mp hn).2];exact⟨by decide,by decide⟩
theorem NH{aa:Nat}{ns:List Int}(h:aa<=4)(hl:ns.length=aa)(hb:Byt ns):0=pk ns↔ns=List.replicate aa 0:=by
 constructor
 ·intro e;have a:=wG aa hl hb;have b:=wG aa (uU (n:=aa) (a:=(0:Int))) NB;rw[<-e]at a;rw[HN h]at b;exact a.symm.trans b
 ·rintro rfl;exact(HN h).symm
def SA(K:nI):Sp:=λvs H Q _=>∃(p c:Addr) (aa:Nat),vs=[.ref p]/\Cs1 K H p aa c/\aa<=4/\∀(d:Addr) (H':Hp),H d=none->Same H H'->H' d=some (.dK [(.inl 0,.ref c)])->Q (.ref d) H'
def spScC(K:nI):Sp:=λvs H Q _=>∃(p1 c:Addr) (v:V) (aa:Nat) (y:Rat),vs=[.ref p1,v]/\Cs1 K H p1 aa c/\1<=aa/\aa<=4/\NumK K H v y/\SzR 7900 y/\
 ∀(p:Addr) (P:Pl) (H':Hp),H p=none->Same H H'->SumQ K H' p aa P->PlOk aa P->(∀ns:List Int,ns.length=aa->Byt ns->cf P ns=if ns=List.replicate aa 0 then y else 0)->Q (.ref p) H'
structure TcI(H1:Hp)(d:Addr)(kv:Key×V)(i:Nat)(ys:List (Key×V))(H2:Hp):Prop where
 s:Same H1 H2
 e:H2 d=some (.dK ys)
 y:ys=[kv].take i
structure ScC(K:nI)(H1:Hp)(d:Addr)(y:Rat)(i:Nat)(ys:List (Key×V))(H2:Hp):Prop where
 s:Same H1 H2
 e:H2 d=some (.dK ys)
 pr:Paired (EntQ K H2) ys ([((0:Int),y)].take i)
theorem YF{fP:Addr}{fdP:FuncData}(F:Fun K "table_of" "table_of" yY f fd)(DP:Df K mg "packed" wX ["powers"] fP fdP)(GP:FnOk P w K mg base CX0 1 fP fdP ["powers"] (CP K)):FnOk P w K mg base CX0 2 f fd ["one"] (SA K):=by
 refine F.ok scTab (λvs H Q E h=>?_) (λcdv A outer s H vs Q E hr h=>?_)
 ·obtain⟨p,c,aa,rfl,_⟩:=h
  rfl
 ·obtain⟨p,c,aa,rfl,hC,m4,go⟩:=h;refine⟨_,jE (jM (zR (own:=2) (idx:=[]) (N:=["powers","fraction"]) rfl rfl rfl (by decide +kernel) (by decide +kernel) (λ_ _ h=>nomatch h) (qN rfl) rfl (λ_ _ _ h=>nomatch h) (zC (kG kJ (pv 0) jF (λ_ _=>rfl))) (λC fp s2 H2=>show PG (jN _ ["powers","fraction"] _ _ C fp s2 H2) _ (zK K 2 (kR (jS 0) (kR (jS 1) gNil)))from jY (X:=jN _ ["powers","fraction"] _ _ C fp s2 H2) rfl (jG (jH (i:=0) (show List.Nodup (["powers","fraction"]:List Str) by decide +kernel) rfl (Or.inl rfl) (Or.inr rfl)) (jG (jH (i:=1) (show List.Nodup (["powers","fraction"]:List Str) by decide +kernel) rfl (Or.inl rfl) (Or.inr rfl)) jV))) (λC fp s2 H2=>jD GP hr rfl DP.m DP.F.kp DP.b .nil jK (jA (pv 0) jB)) (λC fp s2 H2=>pv 1))), ?_⟩;try dsimp only[cxK]
  obtain⟨q,r,b,e1,e2,r1,r2⟩:=hC.ex;have pz:=HN m4;refine⟨_,rfl,p,_,_,_,rfl,rfl,SqT.of e1,rfl,q,rfl,⟨_,SqT.of e2⟩,λd H1 n1 s1 e3=>?_⟩;refine EW (K:=K) (a:=q) (xs:=[.ref r]) (TcI H d (.inl 0,.ref c)) (by show 1<sizeLine;decide) ⟨s1,e3,rfl⟩ (λi ys H2 h=>⟨SqT.of (h.s _ _ e2),h.e, ?_⟩) ?_ ?_
  ·rw[h.y,gT];exact Nat.min_le_left ..
  ·intro i m ys x H2 hx hm h;obtain⟨rfl,rfl⟩:i=0/\x=.ref r:=by
    match i,hx with
    | 0,hx=>exact⟨rfl,(Option.some.inj hx).symm⟩
   have ey:ys=[]:=h.y;subst ey;refine⟨r,_,rfl,SqT.of (h.s _ _ r1),rfl,_,_,rfl,_,_,rfl,rfl,BH,_,rfl,b,List.replicate aa 0,rfl,SqT.of (h.s _ _ r2),λn hn=>by rw[(List.mem_replicate.mp hn).2];exact⟨by decide,by decide⟩,by rw[uU];exact m4,_,rfl,.inl (pk (List.replicate aa 0)),rfl,h.e,zY hx hm ⟨kF h.s n1,jI, ?_⟩⟩;rw[pz]
   rfl
  ·intro ys H2 h;have ey:ys=[(.inl 0,.ref c)]:=h.y;subst ey;exact go d H2 n1 h.s h.e
theorem ok_scC{fT fM fS:Addr}{fdT fdM fdS:FuncData}(F:Fun K "scaled" "scaled" xV f fd)(DT:Df K mg "table_of" yY ["one"] fT fdT)(GT:FnOk P w K mg base CX0 2 fT fdT ["one"] (SA K))(DM:Df K mg "multiplied" LE ["one","other"] fM fdM)(GM:FnOk P w K mg base CX0 2 fM fdM ["one","other"] (ML K))(DS:Df K mg "sum_of" wJ ["many","table"] fS fdS)(GS:FnOk P w K mg base CX0 2 fS fdS ["many","table"] (wV K)):FnOk P w K mg base CX0 3 f fd ["one","number"] (spScC K):=by
 refine F.ok scSc (λvs H Q E h=>?_) (λcdv A outer s H vs Q E hr h=>?_)
 ·obtain⟨p1,c,v,aa,y,rfl,_⟩:=h
  rfl
 ·obtain⟨p1,c,v,aa,y,rfl,hC,m1,m4,ny,zy,go⟩:=h;refine⟨_,jC (wZ (i:=2) scSc.nd rfl (Or.inl rfl) (own:=2) (idx:=[1]) (N:=["key","fraction","number"]) rfl rfl rfl (by decide +kernel) (by decide +kernel) (yV (by intro y hy;simp only[mI,gU,or_false]at hy;rcases hy with rfl;rfl)) (qN rfl) rfl (vS rfl ⟨rfl,rfl,rfl,rfl⟩) (vY (BU (jD GT hr rfl DT.m DT.F.kp DT.b .nil jK (jA (pv 0) jB)))) (λC fp s2 H2=>show PG (jN _ ["key","fraction","number"] _ _ C fp s2 H2) _ (zK K 2 (kR (jS 0) (kR (jS 1) gNil)))from jY (X:=jN _ ["key","fraction","number"] _ _ C fp s2 H2) rfl (jG (jH (i:=0) (show List.Nodup (["key","fraction","number"]:List Str) by decide +kernel) rfl (Or.inl rfl) (Or.inr rfl)) (jG (jH (i:=1) (show List.Nodup (["key","fraction","number"]:List Str) by decide +kernel) rfl (Or.inl rfl) (Or.inr rfl)) jV))) (λC fp s2 H2=>pv 0) (λC fp s2 H2=>jD GM hr rfl DM.m DM.F.kp DM.b .nil jK (jA (pv 1) (jA (pv 2) jB)))) (jE (jM (jD GS hr rfl DS.m DS.F.kp DS.b .nil jK (jA (kG kJ (pv 0) jF (λ_ _=>rfl)) (jA (pv 2) jB))))), ?_⟩;try dsimp only[cxK]
  have pz:=HN m4;refine⟨_,rfl,p1,c,aa,rfl,hC,m4,λda H1 n1 s1 ea=>?_⟩;refine⟨da,[(.inl 0,.ref c)],rfl,ea,λo=>⟨da,o,[(.inl 0,.ref c)],rfl,jI,λd H3 n3 s3 e3=>?_⟩⟩;have s2:Same H (upd H1 da (.frz o (.dK [(.inl 0,.ref c)]))):=kF s1 n1;have ef:(upd H1 da (.frz o (.dK [(.inl 0,.ref c)]))) da=some (.frz o (.dK [(.inl 0,.ref c)])):=jI;generalize upd H1 da (.frz o (.dK [(.inl 0,.ref c)]))=H2 at s2 ef n3 s3;refine xM (ScC K H2 d y) (by show 1<sizeLine;decide) ⟨s3,e3,.nil⟩ (λi ys H4 h=>⟨h.s _ _ ef,h.e, ?_⟩) ?_ ?_
  ·rw[Paired.length h.pr,gT];exact Nat.min_le_left ..
  ·intro i m ys k x cc H4 hx hm h hc;obtain⟨rfl,rfl,rfl⟩:i=0/\k=.inl 0/\x=.ref c:=by
    match i,hx with
    | 0,hx=>cases hx;exact⟨rfl,rfl,rfl⟩
   have s5:Same H4 (upd H4 cc (.tup [kV (.inl 0),.ref c])):=kB _ hc;have e5:(upd H4 cc (.tup [kV (.inl 0),.ref c])) cc=some (.tup [kV (.inl 0),.ref c]):=jI;generalize upd H4 cc (.tup [kV (.inl 0),.ref c])=H5 at s5 e5;obtain⟨py,rfl,hy2⟩:=ny.same (s2.trans (h.s.trans s5));refine⟨cc,_,rfl,SqT.of e5,rfl,_,_,rfl,_,_,rfl,rfl,BH,_,rfl,_,rfl,_,rfl,c,py,(1:Rat).num,(1:Rat).den,_,_,rfl,hC.one _,hy2,SzR.fr (n:=7900) ⟨Nat.one_lt_two_pow (by decide),Nat.one_lt_two_pow (by decide)⟩ uJ,zy.fr uJ,λr H6 n6 s6 e6=>?_⟩;have e6:=mulAt e6;rw[Rat.one_mul]at e6;have ed6:=(s5.trans s6) _ _ h.e;refine⟨.inl 0,rfl,ed6,zY hx hm ⟨kF (h.s.trans (s5.trans s6)) n3,jI, ?_⟩⟩;have k:=AB (k:=0) (Paired.to (λ_ _ h=>h.same (s5.trans s6)) h.pr) (NumH.of e6);exact Paired.to (λ_ _ h=>h.upd ed6) k
  ·intro ys H4 h;have pr2:Paired (EntQ K H4) ys [((0:Int),y)]:=h.pr;dsimp only[jS];obtain⟨qq,r,b,e1,_⟩:=(hC.same (s2.trans h.s)).ex;refine⟨_,rfl,p1,_,_,_,rfl,rfl,SqT.of e1,rfl,_,rfl,d,aa,ys,[((0:Int),y)],rfl,.inl h.e,pr2,by show [(0:Int)].Nodup;decide,by show 1<=60;decide,λk hk=>?_,m1,m4,λp PP H5 n5 s5 SQ ST=>?_⟩
   ·have:k=0:=by simpa using hk
    subst this;exact⟨List.replicate aa 0,uU,λn hn=>by rw[(List.mem_replicate.mp hn).2];decide,by rw[HL m4];decide,pz.symm⟩
   have s04:=s2.trans h.s;refine go p PP H5 (s04.free n5) (s04.trans s5) SQ ST.ok λns hl hb=>?_;rw[ST.vl ns hl hb,kP];by_cases c:ns=List.replicate aa 0
   ·rw[nH c,nH ((NH m4 hl hb).mpr c)]
   ·rw[nG c,nG λz=>c ((NH m4 hl hb).mp z)]
    rfl
def rEqE(K:nI):R2:=λx y H Q=>∃(a b:Addr) (xs:List V),x=.ref a/\y=.ref b/\SqT K H a xs/\SqT K H b []/\Q (.bl (decide (xs.length=0))) H
theorem op_eqE{X:Cx}(hu:X.A.units<cLine):OpR X (compareOp .Eq) (rEqE X.K):=by
 intro ac s σ H x y v u Q I rx ry h;obtain⟨a,b,xs,rfl,rfl,ha,hb,q⟩:=h;cases rx;cases ry;obtain⟨its,r1,p1,_⟩:=I.tuple ha;obtain⟨its2,r2,p2,_⟩:=I.tuple hb;cases r2;refine SeqAt.eq_tupleAt (e:=λ_=>true) p1 p2 hu (λj h1 h2=>absurd h2 (Nat.not_lt_zero _)) ?_;have e:((List.range (min its.toArray.size ([]:List Value).toArray.size)).all (λ_=>true)&&its.toArray.size==([]:List Value).toArray.size)=decide (xs.length=0):=by
  rw[gN,<-r1.length];by_cases c:xs.length=0
  ·simp [c]
  ·simp [c]
 rw[e];exact⟨.bl (decide (xs.length=0)),H,I,rfl,q⟩
def rLen(K:nI):List V->Hp->VK->Prop:=λxs H Q=>∃p ys,xs=[.ref p]/\(SqL K H p ys∨SqT K H p ys)/\Q (.int (ys.length:Int)) H
structure Fd where
 P:Pl
 g:Nat
 s:Nat
 n:Nat
 l:Nat
def SmE(K:nI)(H:Hp)(aa:Nat)(v:V)(F:Fd):Prop:=∃p,v=.ref p/\SmB K H p aa F.P F.g F.s F.n F.l
theorem SmE.same{K:nI}{H H':Hp}{aa:Nat}{v:V}{F:Fd}(h:SmE K H aa v F)(s:Same H H'):SmE K H' aa v F:=let ⟨p,e,q⟩:=h;⟨p,e,q.same s⟩
theorem SmE.but{K:nI}{H H':Hp}{aa:Nat}{v:V}{F:Fd}{l:Addr}{xs:List V}(h:SmE K H aa v F)(e:H l=some (.lst xs))(b:But l H H'):SmE K H' aa v F:=let ⟨p,e',q⟩:=h;⟨p,e',q.but e b⟩
theorem SmB.upg{K:nI}{H:Hp}{p:Addr}{aa:Nat}{P:Pl}{g s n l g':Nat}(h:SmB K H p aa P g s n l)(k:g<=g'):SmB K H p aa P g' s n l:=⟨h.q,h.o,h.b,λx hx=>Int.le_trans (h.d x hx) (by omega),h.l⟩
structure SmsAt(K:nI)(H:Hp)(aa:Nat)(l:Addr)(F:List Fd):Prop where
 ex:∃vs,H l=some (.lst vs)/\Paired (SmE K H aa) vs F
theorem SmsAt.same{K:nI}{H H':Hp}{aa:Nat}{l:Addr}{F:List Fd}(h:SmsAt K H aa l F)(s:Same H H'):SmsAt K H' aa l F:=let ⟨vs,e,p⟩:=h.ex;⟨vs,s _ _ e,Paired.to (λ_ _ k=>k.same s) p⟩
def RestV(K:nI)(aa:Nat)(H:Hp)(t:Addr):RowA->Prop
 | .rim i=>H t=some (.tup [.int (i:Int)])
 | .num x=>∃c,H t=some (.tup [c])/\NumK K H c x
 | .sq P=>∃p,H t=some (.tup [.ref p])/\SumQ K H p aa P
 | .plus i j=>H t=some (.tup [.int (i:Int),.int (j:Int)])
 | .times i j=>H t=some (.tup [.int (i:Int),.int (j:Int)])
def StepR(aa:Nat)(E F:List Fd):RowA->(Fd->Prop)->Prop
 | .rim i,k=>∃G,E[i]? = some G/\k G
 | .num x,k=>∃(D:Int) (s n:Nat),0<=x.num/\0<D/\D.natAbs<=2^s/\Ov D n x/\s<7900/\n<7900/\∀P,PlOk aa P->(∀ns:List Int,ns.length=aa->Byt ns->cf P ns=if ns=List.replicate aa 0 then x else 0)->k ⟨P,0,s,n,1⟩
 | .sq P,k=>∃g s n l c:Nat,SqOk aa P/\PlOk aa P/\Bnd P s n/\(∀x∈P,x.1.sum<=g)/\P.length<=l/\l*l<=60/\l<=2^c/\g+g<=16/\s<1400/\n<2400/\∀P',PlOk aa P'->SumT aa (xD (jP P) (jP P)) P'->k ⟨P',g+g,s+s,n+n+c,l*l⟩
 | .plus i j,k=>∃(A B:Fd) (g n:Nat),F[i]? = some A/\F[j]? = some B/\A.g<=g/\B.g<=g/\A.l+B.l<=60/\(A.s<7900/\A.n<7900/\B.s<7900/\B.n<7900)/\(A.n+B.s<=n/\B.n+A.s<=n)/\∀P,PlOk aa P->(∀ns:List Int,ns.length=aa->Byt ns->cf P ns=cf A.P ns+cf B.P ns)->k ⟨P,g,A.s+B.s,n+1,A.l+B.l⟩
 | .times i j,k=>∃(A B:Fd) (c:Nat),F[i]? = some A/\F[j]? = some B/\A.l*B.l<=60/\B.l<=2^c/\A.g+B.g<=16/\(A.s<1400/\A.n<2400/\B.s<1400/\B.n<2400)/\∀P,PlOk aa P->SumT aa (xD (jP A.P) (jP B.P)) P->k ⟨P,A.g+B.g,A.s+B.s,A.n+B.n+c,A.l*B.l⟩
def IP(K:nI)(r:RowA):Sp:=λvs H Q _=>∃(aa:Nat) (re rf t:Addr) (E F:List Fd),vs=[.int aa,.ref re,.ref rf,.ref t]/\1<=aa/\aa<=4/\SmsAt K H aa re E/\SmsAt K H aa rf F/\RestV K aa H t r/\
 StepR aa E F r λG=>∀p H',Same H H'->SmB K H' p aa G.P G.g G.s G.n G.l->Q (.ref p) H'
def spPlc:Sp:=λvs H Q _=>∃n l:Nat,vs=[.int (n:Int),.int (l:Int)]/\n<l/\Q (.bl true) H
def spEarl:Sp:=λvs H Q _=>∃(l t:Addr) (xs:List V) (i j:Nat),vs=[.ref l,.ref t]/\H l=some (.lst xs)/\H t=some (.tup [.int (i:Int),.int (j:Int)])/\i<xs.length/\j<xs.length/\∀H',Same H H'->Q (.bl true) H'
theorem zP{K:nI}{H:Hp}{aa:Nat}{vs:List V}{F:List Fd}{i:Nat}{A:Fd}(p:Paired (SmE K H aa) vs F)(h:F[i]? = some A):i<vs.length/\∃q,vs[i]? = some (.ref q)/\SmB K H q aa A.P A.g A.s A.n A.l:=by
 have hi:=(uQ.mp h).1;have hv:i<vs.length:=by rw[Paired.length p];exact hi
 obtain⟨A',e,q,ev,hq⟩:=Paired.at p (uR hv);rw[h]at e;cases e;exact⟨hv,q,by rw[uR hv,ev],hq⟩
theorem cn_smb{K:nI}{H:Hp}{p:Addr}{aa s n:Nat}{P:Pl}{x:Rat}{D:Int}(m4:aa<=4)(q:SumQ K H p aa P)(o:PlOk aa P)(h:∀ns:List Int,ns.length=aa->Byt ns->cf P ns=if ns=List.replicate aa 0 then x else 0)(D0:0<D)(Ds:D.natAbs<=2^s)(xO:Ov D n x):SmB K H p aa P 0 s n 1:=by
 have key:∀y∈P,y.1=List.replicate aa 0/\y.2=x:=λy hy=>by
  have e:=h y.1 (o.len y hy) (o.byt hy);rw[yA o.ndn hy]at e;by_cases c:y.1=List.replicate aa 0
  ·rw[nH c]at e;exact⟨c,e⟩
  ·rw[nG c]at e;exact absurd e (o.nz y hy)
 refine⟨q,o,⟨D,D0,Ds,λy hy=>by rw[(key y hy).2];exact xO⟩,λy hy=>by rw[(key y hy).1,HL m4];exact mZ _, ?_⟩
 match P,o.ndn,key with
 | [],_,_=>exact mX _
 | [_],_,_=>exact mW _
 | a::b::r,nd,key=>
  have e1:=(key a (.head _)).1;have e2:=(key b (.tail _ (.head _))).1;rw[mH,mH,e1,e2]at nd;exact absurd (.head _) (List.nodup_cons.mp nd).1
theorem XC:FnScope ["thing","length"] ["thing","length"] (jJ CZ):=⟨rfl,rfl,rfl,by decide +kernel,rfl,by decide +kernel,by decide +kernel⟩
theorem ok_plc(F:Fun K "is_place" "is_place" CZ f fd)(T:Txt mg):FnOk P w K mg base CX0 1 f fd ["thing","length"] spPlc:=by
 refine F.ok XC (λvs H Q E h=>?_) (λcdv A outer s H vs Q E hr h=>?_)
 ·obtain⟨n,l,rfl,_⟩:=h
  rfl
 ·obtain⟨n,l,rfl,hl,go⟩:=h;refine⟨_,jE (jM (yL (vP HX T.isi T.int boot_int (pv 0)) (yL (LL (vP ER T.isi T.bool boot_bool (pv 0))) (wM (TR op_le JD jF (pv 0) (pv 1)))))), ?_⟩;try dsimp only[cxK]
  refine⟨_,rfl,rfl,.int,.int _,_,rfl, ?_⟩;rw[nH (show Kd.int.isInt=true from rfl)];refine⟨_,rfl,rfl,.int,.int _,_,rfl, ?_⟩;refine⟨_,rfl, ?_⟩;rw[nH (show(!Kd.int.isBool)=true from rfl)];refine⟨_,rfl,_,_,rfl,rfl,_,rfl, ?_⟩;rw[nH (show decide ((0:Int)<=(n:Int))=true from mC (by omega))];refine⟨_,rfl,_,_,rfl,rfl, ?_⟩;show Q (.bl (decide ((n:Int)<(l:Int)))) H;rw[mC (show(n:Int)<(l:Int) by omega)];exact go
theorem scRimS:FnScope ["many","rims","found","rest"] ["many","rims","found","rest"] (jJ SS):=⟨rfl,rfl,rfl,by decide +kernel,rfl,by decide +kernel,by decide +kernel⟩
theorem YH{fP:Addr}{fdP:FuncData}{i:Nat}(F:Fun K "rim_sum" "rim_sum" SS f fd)(T:Txt mg)(DP:Df K mg "is_place" CZ ["thing","length"] fP fdP)(GP:FnOk P w K mg base CX0 1 fP fdP ["thing","length"] spPlc):FnOk P w K mg base CX0 6 f fd ["many","rims","found","rest"] (IP K (.rim i)):=by
 refine F.ok scRimS (λvs H Q E h=>?_) (λcdv A outer s H vs Q E hr h=>?_)
 ·obtain⟨aa,re,rf,t,E,F,rfl,_⟩:=h
  rfl
 ·obtain⟨aa,re,rf,t,E,FF,rfl,m1,m4,hE,hF,ht,G,eG,go⟩:=h;have hr1:Room 1 _:=hr.mono (by decide);have ht:H t=some (.tup [.int (i:Int)]):=ht;obtain⟨vs,er,pr⟩:=hE.ex;obtain⟨il,q,eq,hq⟩:=zP pr eG;refine⟨_,jC (kT (PW.pt (qU (kI zF (jX jW (by rfl) T.len PySem.boot_len (jA (pv 3) jB)) jF (kD _)) (vB (kZ (kU (jD GP hr1 rfl DP.m DP.F.kp DP.b .nil jK (jA (kG kJ (pv 3) jF (λ_ _=>rfl)) (jA (jX jW (by rfl) T.len PySem.boot_len (jA (pv 1) jB)) jB)))))))) (jE (jM AQ)) kC) (jE (jM (kG qG (pv 1) (kG kJ (pv 3) jF (λ_ _=>rfl)) (λ_ _=>rfl)))), ?_⟩;try dsimp only[cxK]
  refine⟨_,rfl,t,_,rfl,.inr (SqT.of ht),rfl,_,rfl,qJ ?_⟩;refine⟨_,rfl,t,_,0,_,rfl,rfl,SqT.of ht,rfl,_,rfl,re,vs,rfl,.inl (SqL.of er),i,vs.length,rfl,il,_,rfl,qJ ?_⟩;refine⟨_,rfl,_,rfl,t,_,0,_,rfl,rfl,SqT.of ht,rfl,re,vs,i,_,rfl,rfl,SqL.of er,vM eq, ?_⟩;exact go q H (Same.refl _) hq
theorem scNumS:FnScope ["many","rims","found","rest"] ["many","rims","found","rest"] (jJ SX):=⟨rfl,rfl,rfl,by decide +kernel,rfl,by decide +kernel,by decide +kernel⟩
theorem PZ{x:Rat}{fI fS:Addr}{fdI fdS:FuncData}(F:Fun K "number_sum" "number_sum" SX f fd)(T:Txt mg)(O:OneW K mg)(DI:Df K mg "is_fraction" LF ["thing"] fI fdI)(GI:FnOk P w K mg base CX0 2 fI fdI ["thing"] (SH K))(DS:Df K mg "scaled" xV ["one","number"] fS fdS)(GS:FnOk P w K mg base CX0 3 fS fdS ["one","number"] (spScC K)):FnOk P w K mg base CX0 6 f fd ["many","rims","found","rest"] (IP K (.num x)):=by
 obtain⟨oA,ho,hO⟩:=O;refine F.ok scNumS (λvs H Q E h=>?_) (λcdv A outer s H vs Q E hr h=>?_)
 ·obtain⟨aa,re,rf,t,E,F,rfl,_⟩:=h
  rfl
 ·obtain⟨aa,re,rf,t,E,FF,rfl,m1,m4,hE,hF,⟨c,ht,nc⟩,D,sz,nz,x0,D0,Ds,xO,s79,n79,go⟩:=h;have hr2:Room 2 _:=hr.mono (by decide);have hr3:Room 3 _:=hr.mono (by decide);have szx:SzR 7900 x:=xO.sz D0 Ds n79 s79;refine⟨_,jC (kT (PW.pt (qU (kI zF (jX jW (by rfl) T.len PySem.boot_len (jA (pv 3) jB)) jF (kD _)) (qU (kZ (kU (jD GI hr2 rfl DI.m DI.F.kp DI.b .nil jK (jA (kG kJ (pv 3) jF (λ_ _=>rfl)) jB)))) (vB (kI JD (kG kJ (kG kJ (pv 3) jF (λ_ _=>rfl)) jF (λ_ _=>rfl)) jF (kD _)))))) (jE (jM AQ)) kC) (jE (jM (jD GS hr3 rfl DS.m DS.F.kp DS.b .nil jK (jA (jQ (jA (pv 0) (jA (jQ (jA (jQ (jA (jT LwD.NL (jQ (jA jF jB)) (pv 0)) (jA (kL (v:=.ref oA) (by rfl) ho rfl) jB))) jB)) jB))) (jA (kG kJ (pv 3) jF (λ_ _=>rfl)) jB))))), ?_⟩;try dsimp only[cxK]
  obtain⟨pc,rfl,hc⟩:=nc;refine⟨_,rfl,t,_,rfl,.inr (SqT.of ht),rfl,_,rfl,qJ ?_⟩;refine⟨_,rfl,t,_,0,_,rfl,rfl,SqT.of ht,rfl,.ref pc,x,rfl,⟨pc,rfl,hc⟩,szx,_,rfl,qJ ?_⟩;refine⟨_,rfl,t,_,0,_,rfl,rfl,SqT.of ht,rfl,pc,_,0,_,rfl,rfl,hc,rfl,_,_,rfl,rfl,_,rfl,xE (hW (by omega)) ?_⟩;refine⟨_,rfl,uL,λz1 H1 n1 s1 e1=>⟨_,rfl,z1,aa,.int 0,rfl,rfl,e1,m1,m4,λb H2 s2 eb=>⟨uM,λr H3 n3 s3 e3=>⟨uL,λq H4 n4 s4 e4=>⟨uM,λp H5 n5 s5 e5=>?_⟩⟩⟩⟩⟩;have s05:=s1.trans (s2.trans (s3.trans (s4.trans s5)));have eb:H2 b=some (.tup ((List.replicate aa (0:Int)).map V.int)):=by rw[eb,List.map_replicate]
  refine⟨_,rfl,t,_,0,_,rfl,rfl,SqT.of (s05 _ _ ht),rfl,p,oA,.ref pc,aa,x,rfl,⟨⟨q,r,b,e5,s5 _ _ e4,(s4.trans s5) _ _ e3,(s3.trans (s4.trans s5)) _ _ eb⟩,hO⟩,m1,m4,⟨pc,rfl,vX s05 hc⟩,szx,λp' P' H6 n6 s6 qP oP hP=>?_⟩;exact go P' oP hP p' H6 (s05.trans s6) (cn_smb m4 qP oP hP D0 Ds xO)
theorem scSqS:FnScope ["many","rims","found","rest"] ["many","rims","found","rest"] (jJ sSqS):=⟨rfl,rfl,rfl,by decide +kernel,rfl,by decide +kernel,by decide +kernel⟩
theorem ok_sqS{PP:Pl}{fI fS:Addr}{fdI fdS:FuncData}(F:Fun K "square_sum" "square_sum" sSqS f fd)(T:Txt mg)(DI:Df K mg "is_sum" XD ["thing"] fI fdI)(GI:FnOk P w K mg base CX0 5 fI fdI ["thing"] spSum)(DS:Df K mg "times" yX ["one","other"] fS fdS)(GS:FnOk P w K mg base CX0 7 fS fdS ["one","other"] (yH K)):FnOk P w K mg base CX0 8 f fd ["many","rims","found","rest"] (IP K (.sq PP)):=by
 refine F.ok scSqS (λvs H Q E h=>?_) (λcdv A outer s H vs Q E hr h=>?_)
 ·obtain⟨aa,re,rf,t,E,F,rfl,_⟩:=h
  rfl
 ·obtain⟨aa,re,rf,t,E,FF,rfl,m1,m4,hE,hF,⟨p,ht,qp⟩,g,sz,n,l,c,⟨ok1,ok2⟩,o,bn,dg,ln,hl,hc,hg,s14,n24,go⟩:=h;have hr5:Room 5 _:=hr.mono (by decide);have hr7:Room 7 _:=hr.mono (by decide);refine⟨_,jC (kT (PW.pt (qU (kI zF (jX jW (by rfl) T.len PySem.boot_len (jA (pv 3) jB)) jF (kD _)) (qU (kZ (kU (jD GI hr5 rfl DI.m DI.F.kp DI.b .nil jK (jA (kG kJ (pv 3) jF (λ_ _=>rfl)) jB)))) (vB (kI zF (kG kJ (kG kJ (pv 3) jF (λ_ _=>rfl)) jF (λ_ _=>rfl)) (pv 0) (kD _)))))) (jE (jM AQ)) kC) (jE (jM (jD GS hr7 rfl DS.m DS.F.kp DS.b .nil jK (jA (kG kJ (pv 3) jF (λ_ _=>rfl)) (jA (kG kJ (pv 3) jF (λ_ _=>rfl)) jB))))), ?_⟩;try dsimp only[cxK]
  refine⟨_,rfl,t,_,rfl,.inr (SqT.of ht),rfl,_,rfl,qJ ?_⟩;refine⟨_,rfl,t,_,0,_,rfl,rfl,SqT.of ht,rfl,.ref p,_,rfl,qp.poly.dec,ok1,λH1 s1=>?_⟩;rw[ok2];refine⟨_,rfl,qJ ?_⟩;have ht1:=s1 _ _ ht;have q1:=qp.same s1;obtain⟨q,xs,e1,e2,pr⟩:=q1.ex;refine⟨_,rfl,t,_,0,_,rfl,rfl,SqT.of ht1,rfl,p,_,0,_,rfl,rfl,SqT.of e1,rfl,_,rfl,rfl,_,rfl,xE (by rw[mC rfl];rfl) ?_⟩;refine⟨_,rfl,t,_,0,_,rfl,rfl,SqT.of ht1,rfl,_,rfl,t,_,0,_,rfl,rfl,SqT.of ht1,rfl, ?_⟩;have hp:SmB K H1 p aa PP g sz n l:=⟨q1,o,bn,dg,ln⟩;exact AY hp hp (by exact hl) c hc hg ⟨s14,n24,s14,n24⟩ λp P H2 n2 s2 hp hcc=>go P hp.o hcc p H2 (s1.trans s2) hp
theorem scEarl:FnScope ["found","rest"] ["found","rest"] (jJ IT):=⟨rfl,rfl,rfl,by decide +kernel,rfl,by decide +kernel,by decide +kernel⟩
structure EaI(H1:Hp)(l:Addr)(i:Nat)(ys:List V)(H2:Hp):Prop where
 s:Same H1 H2
 e:H2 l=some (.lst ys)
 y:ys=List.replicate i (.bl true)
theorem YU{fP:Addr}{fdP:FuncData}(F:Fun K "are_earlier" "are_earlier" IT f fd)(T:Txt mg)(DP:Df K mg "is_place" CZ ["thing","length"] fP fdP)(GP:FnOk P w K mg base CX0 1 fP fdP ["thing","length"] spPlc):FnOk P w K mg base CX0 2 f fd ["found","rest"] spEarl:=by
 refine F.ok scEarl (λvs H Q E h=>?_) (λcdv A outer s H vs Q E hr h=>?_)
 ·obtain⟨l,t,xs,i,j,rfl,_⟩:=h
  rfl
 ·obtain⟨l,t,xs,i,j,rfl,el,et,hi,hj,go⟩:=h;refine⟨_,jE (jM (yL (qZ JE (jX jW (by rfl) T.len PySem.boot_len (jA (pv 1) jB)) jF (kD _)) (wM (jX (AE rfl) (by rfl) T.all boot_all (jA (vZ (own:=1) (idx:=[0]) (N:=["thing","found"]) rfl rfl rfl (by decide +kernel) (by decide +kernel) (yV (by intro y hy;simp only[mI,gU,or_false]at hy;rcases hy with rfl;rfl)) (qN rfl) rfl (vS rfl ⟨rfl,rfl,rfl,rfl⟩) (zC (pv 1)) (λC fp s2 H2=>(jH (i:=0) (show List.Nodup (["thing","found"]:List Str) by decide +kernel) rfl (Or.inl rfl) (Or.inr rfl))) (λC fp s2 H2=>jD GP hr rfl DP.m DP.F.kp DP.b .nil jK (jA (pv 0) (jA (jX (show CallR (jN _ ["thing","found"] _ _ C fp s2 H2) _ (rLen K)from jW) (by rfl) T.len PySem.boot_len (jA (pv 1) jB)) jB)))) jB))))), ?_⟩;try dsimp only[cxK]
  refine⟨_,rfl,t,_,rfl,.inr (SqT.of et),rfl,_,rfl, ?_⟩;refine uI rfl ?_;refine⟨_,rfl,t,rfl,⟨_,SqT.of et⟩,λq H1 n1 s1 e1=>?_⟩;refine AZ (K:=K) (a:=t) (xs:=[.int (i:Int),.int (j:Int)]) (EaI H q) (by show 2<sizeLine;decide) ⟨s1,e1,rfl⟩ (λk ys H2 h=>⟨SqT.of (h.s _ _ et),h.e⟩) ?_ ?_
  ·rintro k m ys x H2 hx hm hy ⟨s2,e2,ey⟩;obtain⟨z,rfl,hz⟩:∃z:Nat,x=.int (z:Int)/\z<xs.length:=by
    match k,hx with
    | 0,hx=>exact⟨i,(Option.some.inj hx).symm,hi⟩
    | 1,hx=>exact⟨j,(Option.some.inj hx).symm,hj⟩
   refine⟨EQ,_,rfl,_,rfl,l,xs,rfl,.inl (SqL.of (s2 _ _ el)),z,xs.length,rfl,hz, ?_⟩;exact kY hx hm hy e2 ⟨kF s2 n1,jI,by rw[List.replicate_succ',ey]⟩
  ·rintro ys H2 hy ⟨s2,e2,ey⟩;refine⟨q,[true,true],rfl,SqL.of (by rw[e2,ey];rfl), ?_⟩;exact go H2 s2
theorem scPlS:FnScope ["many","rims","found","rest"] ["many","rims","found","rest"] (jJ sPlS):=⟨rfl,rfl,rfl,by decide +kernel,rfl,by decide +kernel,by decide +kernel⟩
theorem scTiS:FnScope ["many","rims","found","rest"] ["many","rims","found","rest"] (jJ sTiS):=⟨rfl,rfl,rfl,by decide +kernel,rfl,by decide +kernel,by decide +kernel⟩
theorem ok_plS{i j:Nat}{fE fS:Addr}{fdE fdS:FuncData}(F:Fun K "plus_sum" "plus_sum" sPlS f fd)(T:Txt mg)(DE:Df K mg "are_earlier" IT ["found","rest"] fE fdE)(GE:FnOk P w K mg base CX0 2 fE fdE ["found","rest"] spEarl)(DS:Df K mg "plus" wK ["one","other"] fS fdS)(GS:FnOk P w K mg base CX0 5 fS fdS ["one","other"] (zO K)):FnOk P w K mg base CX0 6 f fd ["many","rims","found","rest"] (IP K (.plus i j)):=by
 refine F.ok scPlS (λvs H Q E h=>?_) (λcdv A outer s H vs Q E hr h=>?_)
 ·obtain⟨aa,re,rf,t,E,F,rfl,_⟩:=h
  rfl
 ·obtain⟨aa,re,rf,t,E,FF,rfl,m1,m4,hE,hF,ht,A,B,g,n,eA,eB,gA,gB,hl,a1,a2,go⟩:=h;have hr2:Room 2 _:=hr.mono (by decide);have hr5:Room 5 _:=hr.mono (by decide);have ht:H t=some (.tup [.int (i:Int),.int (j:Int)]):=ht;obtain⟨vs,er,pr⟩:=hF.ex;obtain⟨il,p1,e1,h1⟩:=zP pr eA;obtain⟨jl,p2,e2,h2⟩:=zP pr eB;refine⟨_,jC (kT (kZ (kU (jD GE hr2 rfl DE.m DE.F.kp DE.b .nil jK (jA (pv 2) (jA (pv 3) jB))))) (jE (jM AQ)) kC) (jE (jM (jD GS hr5 rfl DS.m DS.F.kp DS.b .nil jK (jA (kG qG (pv 2) (kG kJ (pv 3) jF (λ_ _=>rfl)) (λ_ _=>rfl)) (jA (kG qG (pv 2) (kG kJ (pv 3) jF (λ_ _=>rfl)) (λ_ _=>rfl)) jB))))), ?_⟩;try dsimp only[cxK]
  refine⟨_,rfl,_,rfl,rf,t,vs,i,j,rfl,er,ht,il,jl,λH1 s1=>⟨_,rfl,qJ ?_⟩⟩;have ht1:=s1 _ _ ht;have er1:=s1 _ _ er;refine⟨_,rfl,_,rfl,t,_,0,_,rfl,rfl,SqT.of ht1,rfl,rf,vs,i,_,rfl,rfl,SqL.of er1,vM e1,_,rfl,_,rfl,t,_,1,_,rfl,rfl,SqT.of ht1,rfl,rf,vs,j,_,rfl,rfl,SqL.of er1,vM e2, ?_⟩;exact ON ((h1.same s1).upg gA) ((h2.same s1).upg gB) n hl a1 a2 λp P H2 n2 s2 hp hc=>go P hp.o hc p H2 (s1.trans s2) hp
theorem ok_tiS{i j:Nat}{fE fS:Addr}{fdE fdS:FuncData}(F:Fun K "times_sum" "times_sum" sTiS f fd)(T:Txt mg)(DE:Df K mg "are_earlier" IT ["found","rest"] fE fdE)(GE:FnOk P w K mg base CX0 2 fE fdE ["found","rest"] spEarl)(DS:Df K mg "times" yX ["one","other"] fS fdS)(GS:FnOk P w K mg base CX0 7 fS fdS ["one","other"] (yH K)):FnOk P w K mg base CX0 8 f fd ["many","rims","found","rest"] (IP K (.times i j)):=by
 refine F.ok scTiS (λvs H Q E h=>?_) (λcdv A outer s H vs Q E hr h=>?_)
 ·obtain⟨aa,re,rf,t,E,F,rfl,_⟩:=h
  rfl
 ·obtain⟨aa,re,rf,t,E,FF,rfl,m1,m4,hE,hF,ht,A,B,c,eA,eB,hl,hc,hg,a1,go⟩:=h;have hr2:Room 2 _:=hr.mono (by decide);have hr7:Room 7 _:=hr.mono (by decide);have ht:H t=some (.tup [.int (i:Int),.int (j:Int)]):=ht;obtain⟨vs,er,pr⟩:=hF.ex;obtain⟨il,p1,e1,h1⟩:=zP pr eA;obtain⟨jl,p2,e2,h2⟩:=zP pr eB;refine⟨_,jC (kT (kZ (kU (jD GE hr2 rfl DE.m DE.F.kp DE.b .nil jK (jA (pv 2) (jA (pv 3) jB))))) (jE (jM AQ)) kC) (jE (jM (jD GS hr7 rfl DS.m DS.F.kp DS.b .nil jK (jA (kG qG (pv 2) (kG kJ (pv 3) jF (λ_ _=>rfl)) (λ_ _=>rfl)) (jA (kG qG (pv 2) (kG kJ (pv 3) jF (λ_ _=>rfl)) (λ_ _=>rfl)) jB))))), ?_⟩;try dsimp only[cxK]
  refine⟨_,rfl,_,rfl,rf,t,vs,i,j,rfl,er,ht,il,jl,λH1 s1=>⟨_,rfl,qJ ?_⟩⟩;have ht1:=s1 _ _ ht;have er1:=s1 _ _ er;refine⟨_,rfl,_,rfl,t,_,0,_,rfl,rfl,SqT.of ht1,rfl,rf,vs,i,_,rfl,rfl,SqL.of er1,vM e1,_,rfl,_,rfl,t,_,1,_,rfl,rfl,SqT.of ht1,rfl,rf,vs,j,_,rfl,rfl,SqL.of er1,vM e2, ?_⟩;exact AY (h1.same s1) (h2.same s1) hl c hc hg a1 λp P H2 n2 s2 hp hcc=>go P hp.o hcc p H2 (s1.trans s2) hp
theorem ZJ:Isi "str" Kd.isStr:=λK k=>by cases k<;>rfl
theorem WN:bootBuiltins "str" = some (.type "str"):=by decide +kernel
def kdN:RowA->Str
 | .rim _=>"rim"
 | .num _=>"number"
 | .sq _=>"square"
 | .plus _ _=>"plus"
 | .times _ _=>"times"
def kdF(f0 f1 f2 f3 f4:Addr):RowA->Addr
 | .rim _=>f0
 | .num _=>f1
 | .sq _=>f2
 | .plus _ _=>f3
 | .times _ _=>f4
def kdV(f0 f1 f2 f3 f4:Addr):List (Key×V):=[(.inr "rim",.ref f0),(.inr "number",.ref f1),(.inr "square",.ref f2),(.inr "plus",.ref f3),(.inr "times",.ref f4)]
theorem kd_get(f0 f1 f2 f3 f4:Addr)(r:RowA):qK (kdV f0 f1 f2 f3 f4) (.inr (kdN r))=some (.ref (kdF f0 f1 f2 f3 f4 r)):=by
 cases r<;>rfl
theorem SZ{K:nI}{aa:Nat}{H:Hp}{v:V}{r:RowA}(h:RowV K aa H v r):∃(a:Addr) (rest:List V),v=.ref a/\H a=some (.tup (.str (kdN r)::rest))/\∀(H':Hp) (t:Addr),Same H H'->H' t=some (.tup rest)->RestV K aa H' t r:=by
 cases r with
 | rim i=>obtain⟨a,h1,h2⟩:=h;exact⟨a,_,h1,h2,λH' t s e=>e⟩
 | num x=>obtain⟨a,c,h1,h2,h3⟩:=h;exact⟨a,_,h1,h2,λH' t s e=>⟨c,e,h3.same s⟩⟩
 | sq P=>obtain⟨a,p,h1,h2,h3⟩:=h;exact⟨a,_,h1,h2,λH' t s e=>⟨p,e,h3.same s⟩⟩
 | plus i j=>obtain⟨a,h1,h2⟩:=h;exact⟨a,_,h1,h2,λH' t s e=>e⟩
 | times i j=>obtain⟨a,h1,h2⟩:=h;exact⟨a,_,h1,h2,λH' t s e=>e⟩
theorem AJ{aa:Nat}{E F:List Fd}{r:RowA}{k k':Fd->Prop}(h:StepR aa E F r k)(m:∀G,k G->k' G):StepR aa E F r k':=by
 cases r with
 | rim i=>obtain⟨G,e,q⟩:=h;exact⟨G,e,m _ q⟩
 | num x=>obtain⟨D,s,n,h1,h2,h3,h4,h5,h6,q⟩:=h;exact⟨D,s,n,h1,h2,h3,h4,h5,h6,λP o e=>m _ (q P o e)⟩
 | sq P=>obtain⟨g,s,n,l,c,h1,h2,h3,h4,h5,h6,h7,h8,h9,h10,q⟩:=h;exact⟨g,s,n,l,c,h1,h2,h3,h4,h5,h6,h7,h8,h9,h10,λP o e=>m _ (q P o e)⟩
 | plus i j=>obtain⟨A,B,g,n,h1,h2,h3,h4,h5,h6,h7,q⟩:=h;exact⟨A,B,g,n,h1,h2,h3,h4,h5,h6,h7,λP o e=>m _ (q P o e)⟩
 | times i j=>obtain⟨A,B,c,h1,h2,h3,h4,h5,h6,q⟩:=h;exact⟨A,B,c,h1,h2,h3,h4,h5,h6,λP o e=>m _ (q P o e)⟩
def Game(aa:Nat)(E:List Fd):List RowA->List Fd->(List Fd->Prop)->Prop
 | [],F,k=>k F
 | r::rs,F,k=>StepR aa E F r λG=>G.s<7900/\G.n<7900/\Game aa E rs (F++[G]) k
def BgP(mg:Str->Option Value):Prop:=∃(i:Int) (t:Tok),mg "TOO_LONG" = some (.int i t)/\((2^7900:Nat):Int)<=i
def SG(K:nI):Sp:=λvs H Q _=>∃(p:Addr) (aa g s n l:Nat) (P:Pl),vs=[.ref p]/\SmB K H p aa P g s n l/\s<7900/\n<7900/\∀H',Same H H'->Q (.bl false) H'
def spOne(K:nI):Sp:=λvs H Q _=>∃(aa:Nat) (re rf:Addr) (v:V) (E F:List Fd) (r:RowA),vs=[.int aa,.ref re,.ref rf,v]/\1<=aa/\aa<=4/\SmsAt K H aa re E/\SmsAt K H aa rf F/\RowV K aa H v r/\
 StepR aa E F r (λG=>∀p H',Same H H'->SmB K H' p aa G.P G.g G.s G.n G.l->Q (.ref p) H')
def SB(K:nI):Sp:=λvs H Q _=>∃(aa:Nat) (re rr:Addr) (E:List Fd) (rs:List RowA),vs=[.int aa,.ref re,.ref rr]/\1<=aa/\aa<=4/\SmsAt K H aa re E/\RowsAt K aa H rr rs/\rs.length<=900/\
 Game aa E rs [] (λF=>∀l H',H l=none->Same H H'->SmsAt K H' aa l F->Q (.ref l) H')
structure LgI(H1:Hp)(l:Addr)(i:Nat)(ys:List V)(H2:Hp):Prop where
 s:Same H1 H2
 e:H2 l=some (.lst ys)
 y:ys=List.replicate i (.bl false)
theorem abs_not{N:Nat}{a i:Int}(h:a.natAbs<N)(hi:(N:Int)<=i):¬i<=(if a<0 then -a else a):=by
 split<;>omega
theorem YZ{N:Nat}{a:Nat}{i:Int}(h:a<N)(hi:(N:Int)<=i):¬i<=(a:Int):=by omega
theorem scLong:FnScope ["one"] ["one"] (jJ MW):=⟨rfl,rfl,rfl,by decide +kernel,rfl,by decide +kernel,by decide +kernel⟩
theorem YO(F:Fun K "is_long" "is_long" MW f fd)(T:Txt mg)(B:BgP mg):FnOk P w K mg base CX0 1 f fd ["one"] (SG K):=by
 obtain⟨bi,bt,hb,hB⟩:=B;refine F.ok scLong (λvs H Q E h=>?_) (λcdv A outer s H vs Q E hr h=>?_)
 ·obtain⟨p,aa,g,s,n,l,PP,rfl,_⟩:=h
  rfl
 ·obtain⟨p,aa,g,sz,n,l,PP,rfl,hp,s79,n79,go⟩:=h;refine⟨_,jE (jM (jX (WL rfl) (by rfl) T.any WO (jA (vZ (own:=3) (idx:=[]) (N:=["powers","top","bottom"]) rfl rfl rfl (by decide +kernel) (by decide +kernel) (λ_ _ h=>nomatch h) (qN rfl) rfl (λ_ _ _ h=>nomatch h) (zC (kG kJ (pv 0) jF (λ_ _=>rfl))) (λC fp s2 H2=>show PG (jN _ ["powers","top","bottom"] _ _ C fp s2 H2) _ (zK K 2 (kR (jS 0) (kR (zK K 2 (kR (jS 1) (kR (jS 2) gNil))) gNil)))from jY (X:=jN _ ["powers","top","bottom"] _ _ C fp s2 H2) rfl (jG (jH (i:=0) (show List.Nodup (["powers","top","bottom"]:List Str) by decide +kernel) rfl (Or.inl rfl) (Or.inr rfl)) (jG (jY (X:=jN _ ["powers","top","bottom"] _ _ C fp s2 H2) rfl (jG (jH (i:=1) (show List.Nodup (["powers","top","bottom"]:List Str) by decide +kernel) rfl (Or.inl rfl) (Or.inr rfl)) (jG (jH (i:=2) (show List.Nodup (["powers","top","bottom"]:List Str) by decide +kernel) rfl (Or.inl rfl) (Or.inr rfl)) jV))) jV))) (λC fp s2 H2=>pe_or (qZ UA (jX KJ (by rfl) T.abs boot_abs (jA (pv 1) jB)) (kL (v:=.int bi) (by rfl) hb ⟨bt,rfl⟩) (kD _)) (wM (qZ UA (pv 2) (kL (v:=.int bi) (by rfl) hb ⟨bt,rfl⟩) (kD _))))) jB))), ?_⟩;try dsimp only[cxK]
  obtain⟨q,xs,e1,e2,pr⟩:=hp.q.ex;have szs:=hp.b.sz s79 n79;have lx:xs.length<=60:=by rw[Paired.length pr];exact hp.o.few
  refine⟨_,rfl,p,_,1,_,rfl,rfl,SqT.of e1,rfl,q,rfl,⟨_,SqT.of e2⟩,λl1 H1 n1 s1 e3=>?_⟩;refine AZ (K:=K) (a:=q) (xs:=xs) (LgI H l1) (by rw[sizeLine_eq];omega) ⟨s1,e3,rfl⟩ (λk ys H2 h=>⟨SqT.of (h.s _ _ e2),h.e⟩) ?_ ?_
  ·rintro k m ys x H2 hx hm hy ⟨s2,e4,ey⟩;obtain⟨y,hy',r,b,c,rfl,r1,r2,pc,rc,r3⟩:=Paired.at pr hx;cases rc;have zy:=szs y (uW hy');refine⟨r,_,rfl,SqT.of (s2 _ _ r1),rfl,_,_,rfl,_,_,rfl,c,_,rfl,SqT.of (s2 _ _ r3),rfl,_,_,rfl,_,_,rfl,rfl,rfl,keep3, ?_⟩;refine⟨_,rfl,_,rfl,_,_,rfl,rfl,_,rfl,xE (hW (abs_not zy.1 hB)) ?_⟩;refine⟨_,rfl,_,_,rfl,rfl, ?_⟩;show(H2 l1=some (.lst ys))/\∃m',m'<m/\CompW xs (LgI H l1) (k+1) m' (ys++[.bl (decide (bi<=(y.2.den:Int)))]) (upd H2 l1 (.lst (ys++[.bl (decide (bi<=(y.2.den:Int)))])));rw[hW (YZ zy.2 hB)];exact kY hx hm hy e4 ⟨kF s2 n1,jI,by rw[List.replicate_succ',ey]⟩
  ·rintro ys H2 hy ⟨s2,e4,ey⟩;refine⟨l1,List.replicate xs.length false,rfl,SqL.of (by rw[e4,ey,List.map_replicate]), ?_⟩;rw[show(List.replicate xs.length false).any id=false by simp];exact go H2 s2
theorem scOne:FnScope ["many","rims","found","row","kind"] ["many","rims","found","row"] (jJ MV):=⟨rfl,rfl,rfl,by decide +kernel,rfl,by decide +kernel,by decide +kernel⟩
theorem ok_one{kA f0 f1 f2 f3 f4:Addr}(F:Fun K "one_sum" "one_sum" MV f fd)(T:Txt mg)(hk:mg "KINDS" = some (.ref kA))(g:KDict P w K kA (kdV f0 f1 f2 f3 f4))
  (C:∀r,∃fd',FnOk P w K mg base CX0 8 (kdF f0 f1 f2 f3 f4 r) fd' ["many","rims","found","rest"] (IP K r)/\PySem.W.keepIn K (.ref (kdF f0 f1 f2 f3 f4 r))=true/\Binds K fd' ["many","rims","found","rest"] []):FnOk P w K mg base CX0 9 f fd ["many","rims","found","row"] (spOne K):=by
 refine F.ok scOne (λvs H Q E h=>?_) (λcdv A outer s H vs Q E hr h=>?_)
 ·obtain⟨aa,re,rf,v,E,F,r,rfl,_⟩:=h
  rfl
 ·obtain⟨aa,re,rf,v,E,FF,r,rfl,m1,m4,hE,hF,hv,st⟩:=h;obtain⟨a,rest,rfl,ha,hrest⟩:=SZ hv;obtain⟨fd',C1,C2,C3⟩:=C r;have hu:_+1<cLine:=gD (Nat.add_le_add_left (by decide:1<=64) _) hr.units;have hu0:=gD (Nat.le_add_right ..) hr.units;have gv:=kd_get f0 f1 f2 f3 f4 r;refine⟨_,jC (kT (PW.pt (qU (kZ (kU (vP yQ T.isi T.tup boot_tuple (pv 3)))) (qU (kI (op_eqE hu0) (pv 3) (jQ jB) (kD _)) (qU (kZ (kU (vP ZJ T.isi T.str WN (kG kJ (pv 3) jF (λ_ _=>rfl))))) (vB (AO (PQ g (kG kJ (pv 3) jF (λ_ _=>rfl)) (kL (v:=.ref kA) (by rfl) hk rfl)))))))) (jE (jM AQ)) kC) (jC (jO (i:=4) scOne.nd rfl (Or.inl rfl) (XX g (kL (v:=.ref kA) (by rfl) hk rfl) (kG kJ (pv 3) jF (λ_ _=>rfl)) (λ_ _=>rfl))) (jE (jM (TU (pv 4) (jA (pv 0) (jA (pv 1) (jA (pv 2) (jA (zD WZ (pv 3) (yK jF) uB) jB)))))))), ?_⟩;try dsimp only[cxK]
  refine⟨_,rfl,rfl,.tup,.tup ha,_,rfl,qJ ?_⟩;refine⟨_,rfl,uK,λz H1 n1 s1 e1=>⟨a,z,_,rfl,rfl,SqT.of (s1 _ _ ha),SqT.of e1,_,rfl,qJ ?_⟩⟩;have ha1:=s1 _ _ ha;refine⟨_,rfl,a,_,0,_,rfl,rfl,SqT.of ha1,vM (j:=0) rfl,rfl,.str,.str _,_,rfl,qJ ?_⟩;refine⟨_,rfl,a,_,0,_,rfl,rfl,SqT.of ha1,vM (j:=0) rfl,.inr (kdN r),rfl,rfl,_,rfl, ?_⟩;rw[gv];refine xE rfl ?_;refine⟨_,rfl,a,_,0,_,rfl,rfl,SqT.of ha1,vM (j:=0) rfl,.inr (kdN r),_,rfl,rfl,gv, ?_⟩;dsimp only[jS];refine⟨_,rfl,_,IP K r,rfl,⟨8,fd',_,C1,hr,C2,C3⟩,_,rfl,_,rfl,_,rfl,_,rfl,_,rfl,a,_,rfl,SqT.of ha1,λz=>?_,λt H2 n2 s2 e2=>?_⟩
  ·have:=z.1;simp [HT.sIx]at this
  rw[EX]at e2;have s02:=s1.trans s2;exact⟨aa,re,rf,t,E,FF,rfl,m1,m4,hE.same s02,hF.same s02,hrest H2 t s02 e2,AJ st λG go p H' s q=>go p H' (s02.trans s) q⟩
structure RsD(K:nI)(H:Hp)(aa:Nat)(E:List Fd)(rs:List RowA)(k:List Fd->Prop)(lf:Addr)(i:Nat)(F:List Fd)(H':Hp):Prop where
 s:Same H H'
 f:SmsAt K H' aa lf F
 n:F.length=i
 g:Game aa E (rs.drop i) F k
inductive RsI(K:nI)(H:Hp)(aa:Nat)(E:List Fd)(rs:List RowA)(k:List Fd->Prop)(re rr lf:Addr)(i:Nat):L2.St->Hp->Prop where
 | mk {u v y:Option V} {H':Hp} {F:List Fd} (d:RsD K H aa E rs k lf i F H'):RsI K H aa E rs k re rr lf i [some (.int aa),some (.ref re),some (.ref rr),some (.ref lf),u,v,y] H'
theorem scRows:FnScope ["many","rims","rows","found","at","row","one"] ["many","rims","rows"] (jJ MU):=⟨rfl,rfl,rfl,by decide +kernel,rfl,by decide +kernel,by decide +kernel⟩
theorem YG{fO fL:Addr}{fdO fdL:FuncData}(F:Fun K "row_sums" "row_sums" MU f fd)(T:Txt mg)(DO:Df K mg "one_sum" MV ["many","rims","found","row"] fO fdO)(GO:FnOk P w K mg base CX0 9 fO fdO ["many","rims","found","row"] (spOne K))(DL:Df K mg "is_long" MW ["one"] fL fdL)(GL:FnOk P w K mg base CX0 1 fL fdL ["one"] (SG K)):FnOk P w K mg base CX0 10 f fd ["many","rims","rows"] (SB K):=by
 refine F.ok scRows (λvs H Q E h=>?_) (λcdv A outer s H vs Q E hr h=>?_)
 ·obtain⟨aa,re,rr,E,rs,rfl,_⟩:=h
  rfl
 ·obtain⟨aa,re,rr,E,rs,rfl,m1,m4,hE,hR,l9,gm⟩:=h;have hr1:Room 1 _:=hr.mono (by decide);refine⟨_,jC (jO (i:=3) scRows.nd rfl (Or.inl rfl) (kH jB)) (jC (qA PassesOwn.never rfl (DZ (by rfl) T.enum (jA (pv 2) jB)) (jY rfl (jG (jH (i:=4) scRows.nd rfl (Or.inl rfl)) (jG (jH (i:=5) scRows.nd rfl (Or.inl rfl)) jV))) (jC (XO rfl (jE (jO (i:=6) scRows.nd rfl (Or.inl rfl) (jD GO hr rfl DO.m DO.F.kp DO.b .nil jK (jA (pv 0) (jA (pv 1) (jA (pv 3) (jA (pv 5) jB)))))))) (jC (kT (PW.pt (qU (AO (EC (pv 6))) (vB (kU (jD GL hr1 rfl DL.m DL.F.kp DL.b .nil jK (jA (pv 6) jB)))))) (jE (yD)) kC) (jE (qQ (uC PySem.F.plainAttrs_list PySem.F.slot_list_append PySem.F.type_list_append qE (pv 3) (jA (pv 6) jB))))))) (jE (jM (pv 3)))), ?_⟩;try dsimp only[cxK]
  obtain⟨xs,exs,pr⟩:=hR.ex;have lx:xs.length=rs.length:=Paired.length pr;refine⟨uK,λlf H1 n1 s1 e1=>?_⟩;dsimp only[jS];refine⟨_,rfl,rr,rfl,⟨xs,SqL.of (s1 _ _ exs)⟩,FR (K:=K) (a:=rr) (xs:=xs) (RsI K H aa E rs _ re rr lf) (.mk ⟨s1,⟨[],e1,.nil⟩,rfl,gm⟩) (λi σ H2 _ h=>?_) (λi x c σ H2 hx hc h=>?_) (fun σ H2 h=>?_)⟩
  ·obtain⟨⟨s2,_,_,_⟩⟩:=h;exact SqL.of (s2 _ _ exs)
  ·obtain⟨⟨s2,hf,hn,hg⟩⟩:=h;obtain⟨r,hr',hv⟩:=Paired.at pr hx;have il:i<rs.length:=(uQ.mp hr').1;have dr:rs.drop i=r::rs.drop (i+1):=by
    rw[List.drop_eq_getElem_cons il]
    congr 1
    exact(uQ.mp hr').2
   rw[dr]at hg;have s3:Same H2 (upd H2 c (.tup [.int i,x])):=kB _ hc;have e3:(upd H2 c (.tup [.int i,x])) c=some (.tup [.int i,x]):=jI;generalize upd H2 c (.tup [.int i,x])=H3 at s3 e3;have s03:=s2.trans s3;refine gT2 (SqT.of e3) rfl ?_;refine⟨_,rfl,_,rfl,_,rfl,_,rfl,aa,re,lf,x,E,_,r,rfl,m1,m4,hE.same s03,hf.same s3,hv.same s03,AJ hg λG gg p H4 s4 hp=>?_⟩;obtain⟨gs,gn,gk⟩:=gg;dsimp only[jS];refine⟨_,rfl,_,rfl,xE (hW λz=>by cases z) ⟨_,rfl,p,aa,_,_,_,_,_,rfl,hp,gs,gn,λH5 s5=>⟨_,rfl,xE rfl ?_⟩⟩⟩;have s35:=s4.trans s5;obtain⟨vs,ev,pv'⟩:=hf.ex;have ev5:=(s3.trans s35) _ _ ev;refine⟨_,rfl,.inl ⟨rfl,_,SqL.of ev5⟩,_,rfl,lf,vs,_,rfl,rfl,ev5,by rw[sizeLine_eq,Paired.length pv',hn];omega, ?_⟩;have nlf:H lf=none:=n1;refine .mk ⟨kF (s03.trans s35) nlf,⟨vs++[.ref p],jI,Paired.snoc (Paired.to (λ_ _ k=>(k.same (s3.trans s35)).but ev5 qT) pv') ((show SmE K H5 aa (.ref p) G from⟨p,rfl,hp.same s5⟩).but ev5 qT)⟩,by rw[gE,hn];rfl,gk⟩
  ·obtain⟨⟨s2,hf,hn,hg⟩⟩:=h;rw[lx,List.drop_length]at hg;exact⟨_,rfl,hg lf H2 n1 s2 hf⟩
theorem AT{aa:Nat}{E:List Fd}{k k':List Fd->Prop}(m:∀F,k F->k' F):∀(rs:List RowA) (F:List Fd),Game aa E rs F k->Game aa E rs F k'
 | [],F,h=>m F h
 | r::rs,F,h=>AJ h λG g=>⟨g.1,g.2.1,AT m rs _ g.2.2⟩
def EndsIn(D:Pl)(F:List Fd):Prop:=∃(F':List Fd) (G:Fd),F=F'++[G]/\G.P=D
theorem IQ{K:nI}{H:Hp}{aa:Nat}{l:Addr}{F:List Fd}{D:Pl}(h:SmsAt K H aa l F)(e:EndsIn D F):∃vs p,H l=some (.lst vs)/\atI vs (-1)=some (.ref p)/\SumQ K H p aa D:=by
 obtain⟨F',G,rfl,rfl⟩:=e;obtain⟨vs,ev,pr⟩:=h.ex;obtain⟨il,p,e1,hp⟩:=zP pr (show(F'++[G])[F'.length]? = some G by simp);exact⟨vs,p,ev,OS (by rw[Paired.length pr,gE];rfl) e1,hp.q⟩
def wW(K:nI):Sp:=λvs H Q _=>∃(aa:Nat) (re r1 r2 d:Addr) (E:List Fd) (rs:List RowA) (D:Pl),vs=[.int aa,.ref re,.ref r1,.ref r2,.ref d]/\1<=aa/\aa<=4/\SmsAt K H aa re E/\RowsAt K aa H r1 rs/\RowsAt K aa H r2 rs/\rs.length<=900/\SumQ K H d aa D/\Game aa E rs [] (EndsIn D)/\∀H',Same H H'->Q (.bl true) H'
theorem KK(aa:Nat)(ts:List Trm):DataOk (.list [xH aa ts,xH aa ts]):=by
 have h1:=EM ts;exact⟨by simp [xH,PyData.canLay0,PyData.canLayAll0,h1.1],by simp [xH,PyData.depth,PyData.depthAll];omega⟩
theorem scAlike:FnScope ["letters","edges","first","second","due","told"] ["letters","edges","first","second","due"] (jJ wL):=⟨rfl,rfl,rfl,by decide +kernel,rfl,by decide +kernel,by decide +kernel⟩
theorem UN{fR:Addr}{fdR:FuncData}(F:Fun K "_law_alike" "_law_alike" wL f fd)(DR:Df K mg "row_sums" MU ["many","rims","rows"] fR fdR)(GR:FnOk P w K mg base CX0 10 fR fdR ["many","rims","rows"] (SB K)):FnOk P w K mg base CX0 11 f fd ["letters","edges","first","second","due"] (wW K):=by
 have KR:KBs K fdR ["many","rims","rows"]:=Fun.kbs DR.F (by decide) λkV doc pm an cdv ct ws hl=>by match ws,hl with | [a,b,c],_=>rfl
 refine F.ok scAlike (λvs H Q E h=>?_) (λcdv A outer s H vs Q E hr h=>?_)
 ·obtain⟨aa,re,r1,r2,d,E,rs,D,rfl,_⟩:=h
  rfl
 ·obtain⟨aa,re,r1,r2,d,E,rs,D,rfl,m1,m4,hE,hR1,hR2,l9,qd,gm,go⟩:=h;have hu:_+64<cLine:=hr.units;refine⟨_,jC (jO (i:=5) scAlike.nd rfl (Or.inl rfl) (kH (jA (kG qG (zS GR hr rfl DR.m DR.F.kp KR jK (qY (pv 0) (qY (pv 1) (qY (pv 2) DX)))) (yS xC jF) (λ_ _=>rfl)) (jA (kG qG (jD GR hr rfl DR.m DR.F.kp DR.b .nil jK (jA (pv 0) (jA (pv 1) (jA (pv 3) jB)))) (yS xC jF) (λ_ _=>rfl)) jB)))) (jE (jM (qZ (UB hu) (pv 5) (kH (jA (pv 4) (jA (pv 4) jB))) (kD _)))), ?_⟩;try dsimp only[cxK]
  refine⟨_,rfl,_,rfl,_,rfl,aa,re,r1,E,rs,rfl,m1,m4,hE,hR1,l9,AT (λF hF l1 H1 n1 s1 sm1=>?_) rs [] gm⟩;obtain⟨vs1,p1,e1,a1,q1⟩:=IQ sm1 hF;refine⟨_,rfl,l1,vs1,_,_,rfl,rfl,SqL.of e1,a1, ?_⟩;refine⟨_,rfl,_,rfl,_,rfl,aa,re,r2,E,rs,rfl,m1,m4,hE.same s1,hR2.same s1,l9,AT (λF hF l2 H2 n2 s2 sm2=>?_) rs [] gm⟩;obtain⟨vs2,p2,e2,a2,q2⟩:=IQ sm2 hF;refine⟨_,rfl,l2,vs2,_,_,rfl,rfl,SqL.of e2,a2,uM,λl3 H3 n3 s3 e3=>?_⟩;dsimp only[jS];refine⟨_,rfl,_,rfl,_,rfl,uM,λl4 H4 n4 s4 e4=>?_⟩;have s24:=s3.trans s4;have d1:=(q1.same (s2.trans s24)).poly.dec;have d2:=(q2.same s24).poly.dec;have d3:=(qd.same (s1.trans (s2.trans s24))).poly.dec;refine⟨.list [xH aa (D.map AN),xH aa (D.map AN)],.list [xH aa (D.map AN),xH aa (D.map AN)],.lst (s4 _ _ e3) (.cons d1 (.cons d2 .nil)),.lst e4 (.cons d3 (.cons d3 .nil)),KK _ _,KK _ _, ?_⟩;rw[PySem.SeqAt.eqv_refl _ (KK aa (D.map AN)).1];exact go H4 (s1.trans (s2.trans s24))
structure Cn(aa:Nat)(P:Pl)(x:Rat):Prop where
 o:PlOk aa P
 h:∀ns:List Int,ns.length=aa->Byt ns->cf P ns=if ns=List.replicate aa 0 then x else 0
theorem Cn.el{aa:Nat}{P:Pl}{x:Rat}(c:Cn aa P x)(ν:List Int->Rat):Lw.el ν P=x*ν (List.replicate aa 0):=by
 have key:∀y∈P,y.1=List.replicate aa 0/\y.2=x:=λy hy=>by
  have e:=c.h y.1 (c.o.len y hy) (c.o.byt hy);rw[yA c.o.ndn hy]at e;by_cases q:y.1=List.replicate aa 0
  ·rw[nH q]at e;exact⟨q,e⟩
  ·rw[nG q]at e;exact absurd e (c.o.nz y hy)
 have h0:=c.h (List.replicate aa 0) uU NB;rw[nH rfl]at h0
 match P,c.o.ndn,key,h0 with
 | [],_,_,h0=>
  have:x=0:=h0.symm;rw[this,mS]
  rfl
 | [y],_,key,_=>
  have k:=key y (.head _);rw[xL,k.1,k.2];show _+0=_;rw[mR]
 | a::b::r,nd,key,_=>
  have e1:=(key a (.head _)).1;have e2:=(key b (.tail _ (.head _))).1;rw[mH,mH,e1,e2]at nd;exact absurd (.head _) (List.nodup_cons.mp nd).1
theorem Cn.deg{aa:Nat}{P:Pl}{x:Rat}(m4:aa<=4)(c:Cn aa P x):∀y∈P,y.1.sum<=((0:Nat):Int):=λy hy=>by
 have e:=c.h y.1 (c.o.len y hy) (c.o.byt hy);rw[yA c.o.ndn hy]at e;by_cases q:y.1=List.replicate aa 0
 ·rw[q,HL m4];exact mZ _
 ·rw[nG q]at e;exact absurd e (c.o.nz y hy)
theorem AR:∀{aa:Nat} {ns:List Int},ns.length=aa->qC ns (List.replicate aa 0)=ns
 | 0,[],_=>rfl
 | n+1,a::r,h=>by
  have ih:=AR (aa:=n) (ns:=r) (by simpa using h);show(a+0)::qC r (List.replicate n 0)=_;rw[ih,Int.add_zero]
theorem zW{aa:Nat}{A C P:Pl}{x:Rat}(oA:PlOk aa A)(c:Cn aa C x)(hd:vL A+vL C<=16)(h:SumT aa (xD (jP A) (jP C)) P)(μ:List Int->Rat):el μ P=el μ A*x:=by
 rw[vK oA c.o hd h,<-CA];have:∀y∈A,el (λb=>μ (qC y.1 b)) C=μ y.1*x:=λy hy=>by
  rw[c.el,AR (oA.len y hy),mU]
 exact xS this
theorem SmG.nn{x:Rat}(h:SmG x):0<=x.num:=by
 obtain⟨t,b,e,t0,t1,b0,b1⟩:=h.ex;have c:=cross (show(0:Int)<b by omega) e;have d:0<(x.den:Int):=(kS x).1;by_cases z:0<=x.num
 ·exact z
 ·have m1:x.num*b<0:=Int.mul_neg_of_neg_of_pos (by omega) (by omega);have m2:0<=t*(x.den:Int):=Int.mul_nonneg (by omega) (by omega);omega
structure Stg(L:Nat)(C:Pl):Prop where
 sq:SqOk L C
 o:PlOk L C
 b:Bnd C 6 9
 d:∀x∈C,x.1.sum<=((1:Nat):Int)
 l:C.length<=4
abbrev sqE(C:Pl)(μ:List Int->Rat):Rat:=el (λu=>el (λv=>μ (qC u v)) C) C
theorem VV{L:Nat}{C A P1 T1:Pl}{a:Rat}(m4:L<=4)(S:Stg L C)(cn:Cn L A a)(o1:PlOk L P1)(t1:SumT L (xD (jP C) (jP C)) P1)(tT:SumT L (xD (jP P1) (jP A)) T1)(μ:List Int->Rat):el μ T1=sqE C μ*a:=by
 have d1:vL P1<=1+1:=vE (qM S.o S.o t1 S.d S.d) (by omega);have d2:vL A<=0:=vE (cn.deg m4) (by omega);have d3:vL C<=1:=vE S.d (by omega);rw[zW o1 cn (by omega) tT,vK S.o S.o (by omega) t1]
section
variable{L:Nat}{E F:List Fd}{rs:List RowA}{k:List Fd->Prop}{A B:Pl}{i j g1 s1 n1 l1 g2 s2 n2 l2:Nat}
theorem gSq(S:Stg L A)(go:∀P,PlOk L P->SumT L (xD (jP A) (jP A)) P->Game L E rs (F++[⟨P,2,12,20,16⟩]) k):Game L E (.sq A::rs) F k:=
 ⟨1,6,9,4,2,S.sq,S.o,S.b,S.d,S.l,by decide,by decide,by decide,by decide,by decide,λP o t=>⟨(by decide:12<7900),(by decide:20<7900),go P o t⟩⟩
theorem ES{a:Rat}(n0:0<=a.num)(ov:Ov 60 11 a)(go:∀P,Cn L P a->Game L E rs (F++[⟨P,0,6,11,1⟩]) k):Game L E (.num a::rs) F k:=
 ⟨60,6,11,n0,by decide,by decide,ov,by decide,by decide,λP o h=>⟨(by decide:6<7900),(by decide:11<7900),go P ⟨o,h⟩⟩⟩
theorem ZQ(e:E[i]? = some ⟨A,g1,s1,n1,l1⟩)(hs:s1<7900/\n1<7900)(go:Game L E rs (F++[⟨A,g1,s1,n1,l1⟩]) k):Game L E (.rim i::rs) F k:=⟨_,e,hs.1,hs.2,go⟩
theorem vR(c:Nat)(eA:F[i]? = some ⟨A,g1,s1,n1,l1⟩)(eB:F[j]? = some ⟨B,g2,s2,n2,l2⟩)(h:(l1*l2<=60/\l2<=2^c/\g1+g2<=16)/\(s1<1400/\n1<2400/\s2<1400/\n2<2400)/\s1+s2<7900/\n1+n2+c<7900)
  (go:∀P,PlOk L P->SumT L (xD (jP A) (jP B)) P->Game L E rs (F++[⟨P,g1+g2,s1+s2,n1+n2+c,l1*l2⟩]) k):Game L E (.times i j::rs) F k:=
 ⟨_,_,c,eA,eB,h.1.1,h.1.2.1,h.1.2.2,h.2.1,λP o t=>⟨h.2.2.1,h.2.2.2,go P o t⟩⟩
theorem OH(g n:Nat)(eA:F[i]? = some ⟨A,g1,s1,n1,l1⟩)(eB:F[j]? = some ⟨B,g2,s2,n2,l2⟩)(h:(g1<=g/\g2<=g/\l1+l2<=60)/\(s1<7900/\n1<7900/\s2<7900/\n2<7900)/\(n1+s2<=n/\n2+s1<=n)/\s1+s2<7900/\n+1<7900)
  (go:∀P,PlOk L P->(∀ns:List Int,ns.length=L->Byt ns->cf P ns=cf A ns+cf B ns)->Game L E rs (F++[⟨P,g,s1+s2,n+1,l1+l2⟩]) k):Game L E (.plus i j::rs) F k:=
 ⟨_,_,g,n,eA,eB,h.1.1,h.1.2.1,h.1.2.2,h.2.1,h.2.2.1,λP o t=>⟨h.2.2.2.1,h.2.2.2.2,go P o t⟩⟩
end
theorem ZO{L:Nat}{E:List Fd}{C D Du:Pl}{a b:Rat}(m4:L<=4)(hC:Stg L C)(hD:Stg L D)(ha:SmG a)(hb:SmG b)(oD:PlOk L Du)(e:∀μ,el μ Du=sqE C μ*a+sqE D μ*b):Game L E (sqR [(a,C),(b,D)]) [] (EndsIn Du):=by
 show Game L E [.sq C,.num a,.times 0 1,.sq D,.num b,.times 3 4,.plus 2 5] [] _;refine gSq hC λP1 o1 t1=>ES ha.nn (ha.ov.up (by decide)) λA cA=>vR 0 rfl rfl (by decide) λT1 oT1 tT1=>?_;refine gSq hD λP2 o2 t2=>ES hb.nn (hb.ov.up (by decide)) λB cB=>vR 0 rfl rfl (by decide) λT2 oT2 tT2=>?_;refine OH 2 60 rfl rfl (by decide) λP oP hP=>⟨_,_,rfl, ?_⟩;refine LS oP oD fun μ=>?_;rw[e,wO oT1 oT2 oP hP,VV m4 hC cA o1 t1 tT1,VV m4 hD cB o2 t2 tT2]
abbrev fdS(C:Pl):Fd:=⟨C,1,6,9,4⟩
theorem ZN{L:Nat}{C D Du:Pl}{a b:Rat}(m4:L<=4)(hC:Stg L C)(hD:Stg L D)(ha:SmG a)(hb:SmG b)(oD:PlOk L Du)(e:∀μ,el μ Du=a*μ (List.replicate L 0)+(el μ C*b+el μ D*a)):Game L [fdS C,fdS D] (wtR a [b,a]) [] (EndsIn Du):=by
 show Game L [fdS C,fdS D] [.num a,.rim 0,.num b,.times 1 2,.rim 1,.num a,.times 4 5,.plus 0 3,.plus 7 6] [] _;have oa:=ha.ov.up (show 10<=11 by decide);refine ES ha.nn oa λA0 c0=>ZQ rfl (by decide) (ES hb.nn (hb.ov.up (by decide)) λB cB=>vR 0 rfl rfl (by decide) λT1 oT1 t1=>?_);refine ZQ rfl (by decide) (ES ha.nn oa λA cA=>vR 0 rfl rfl (by decide) λT2 oT2 t2=>?_);refine OH 1 60 rfl rfl (by decide) λP7 o7 h7=>OH 1 90 rfl rfl (by decide) λP oP hP=>⟨_,_,rfl, ?_⟩;have dC:vL C<=1:=vE hC.d (by omega);have dD:vL D<=1:=vE hD.d (by omega);have dA:vL A<=0:=vE (cA.deg m4) (by omega);have dB:vL B<=0:=vE (cB.deg m4) (by omega);refine LS oP oD fun μ=>?_;rw[e,wO o7 oT2 oP hP,wO c0.o oT1 o7 h7,c0.el,zW hC.o cB (by omega) t1,zW hD.o cA (by omega) t2,Rat.add_assoc]
abbrev xP:Pl:=[([1],1)]
abbrev yP:Pl:=[([0],1),([1],-1)]
abbrev fdR(C:Pl):Fd:=⟨C,1,6,11,2⟩
theorem el_x(μ:List Int->Rat):el μ xP=μ [1]:=by
 show 1*μ [1]+0=_;rw[Rat.one_mul,mR]
theorem el_y(μ:List Int->Rat):el μ yP=μ [0]-μ [1]:=by
 show 1*μ [0]+(-1*μ [1]+0)=_
 grind
theorem PlOk.dq{aa:Nat}{P:Pl}(o:PlOk aa P):vL P<=16:=vE o.deg (by decide)
theorem wN(a b:List Int):qC a b=qC b a:=List.zipWith_comm_of_comm λx y=>Int.add_comm x y
theorem JX{L:Nat}{A C P:Pl}{x:Rat}(m4:L<=4)(oA:PlOk L A)(c:Cn L C x)(h:SumT L (xD (jP A) (jP C)) P)(μ:List Int->Rat):el μ P=el μ A*x:=by
 have d2:vL C<=0:=vE (c.deg m4) (by omega);have:=oA.dq;exact zW oA c (by omega) h μ
theorem VX{L:Nat}{A C P:Pl}{x:Rat}(m4:L<=4)(oA:PlOk L A)(c:Cn L C x)(h:SumT L (xD (jP C) (jP A)) P)(μ:List Int->Rat):el μ P=el μ A*x:=by
 have d2:vL C<=0:=vE (c.deg m4) (by omega);have:=oA.dq;rw[vK c.o oA (by omega) h,c.el,mU];have e:el (λb=>μ (qC (List.replicate L 0) b)) A=el μ A:=xS λy hy=>by rw[wN,AR (oA.len y hy)]
 rw[e]
theorem gSq1{L:Nat}{E F:List Fd}{rs:List RowA}{k:List Fd->Prop}{A:Pl}(S:Stg L A)(l1:A.length<=1)(go:∀P,PlOk L P->SumT L (xD (jP A) (jP A)) P->Game L E rs (F++[⟨P,2,12,18,1⟩]) k):Game L E (.sq A::rs) F k:=
 ⟨1,6,9,1,0,S.sq,S.o,S.b,S.d,l1,by decide,by decide,by decide,by decide,by decide,λP o t=>⟨(by decide:12<7900),(by decide:18<7900),go P o t⟩⟩
theorem ZP{Ba Du:Pl}{b a:Rat}(hB:Stg 1 Ba)(l1:Ba.length<=1)(hb:SmG b)(ha:SmG a)(oX:PlOk 1 xP)(oY:PlOk 1 yP)(oD:PlOk 1 Du)(e:∀μ,el μ Du=sqE Ba (λn=>el (λm=>μ (qC n m)) (xJ b a))):Game 1 [fdR xP,fdR yP] (pcR b a Ba) [] (EndsIn Du):=by
 show Game 1 [fdR xP,fdR yP] [.rim 0,.num 1,.times 1 0,.rim 1,.num 1,.times 4 3,.times 1 5,.num 1,.times 6 7,.times 2 4,.num 1,.times 9 10,.num b,.times 8 12,.num (a+b),.times 11 14,.plus 13 15,.sq Ba,.times 16 17] [] _;have o1:Ov 60 11 (1:Rat):=⟨60,by decide +kernel,by decide⟩;have oab:Ov 60 11 (a+b):=ha.ov.add hb.ov (by decide);refine ZQ rfl (by decide) (ES (by decide) o1 λA1 c1=>vR 1 rfl rfl (by decide) λA2 o2 t2=>?_);dsimp only[List.nil_append,List.cons_append];refine ZQ rfl (by decide) (ES (by decide) o1 λA4 c4=>vR 1 rfl rfl (by decide) λA5 o5 t5=>?_);dsimp only[List.nil_append,List.cons_append];refine vR 1 rfl rfl (by decide) λA6 o6 t6=>ES (by decide) o1 λA7 c7=>vR 0 rfl rfl (by decide) λA8 o8 t8=>?_;dsimp only[List.nil_append,List.cons_append];refine vR 0 rfl rfl (by decide) λA9 o9 t9=>ES (by decide) o1 λA10 c10=>vR 0 rfl rfl (by decide) λA11 o11 t11=>?_;dsimp only[List.nil_append,List.cons_append];refine ES hb.nn (hb.ov.up (by decide)) λA12 c12=>vR 0 rfl rfl (by decide) λA13 o13 t13=>?_;dsimp only[List.nil_append,List.cons_append];refine ES (Rat.num_nonneg.mpr (Rat.add_nonneg (Rat.num_nonneg.mp ha.nn) (Rat.num_nonneg.mp hb.nn))) oab λA14 c14=>vR 0 rfl rfl (by decide) λA15 o15 t15=>?_;dsimp only[List.nil_append,List.cons_append];refine OH 1 200 rfl rfl (by decide) λA16 o16 h16=>gSq1 hB l1 λA17 o17 t17=>vR 0 rfl rfl (by decide) λP oP tP=>⟨_,_,rfl, ?_⟩;have q4:1<=4:=by decide
 have dX:∀x∈xP,x.1.sum<=((1:Nat):Int):=by decide
 have dY:∀x∈yP,x.1.sum<=((1:Nat):Int):=by decide
 have d2:=qM c1.o oX t2 (c1.deg q4) dX;have d5:=qM c4.o oY t5 (c4.deg q4) dY;have d6:=qM c1.o o5 t6 (c1.deg q4) d5;have d8:=qM o6 c7.o t8 d6 (c7.deg q4);have d9:=qM o2 c4.o t9 d2 (c4.deg q4);have d11:=qM o9 c10.o t11 d9 (c10.deg q4);have d13:=qM o8 c12.o t13 d8 (c12.deg q4);have d15:=qM o11 c14.o t15 d11 (c14.deg q4);have d16:∀x∈A16,x.1.sum<=((1:Nat):Int):=NG o16 h16 d13 d15;have d17:=qM hB.o hB.o t17 hB.d hB.d;have q16:vL A16<=1:=vE d16 (by omega);have q17:vL A17<=2:=vE d17 (by omega);have qB:vL Ba<=1:=vE hB.d (by omega);have y13:∀ν,el ν A13=(ν [0]-ν [1])*b:=fun ν=>by
  rw[JX q4 o8 c12 t13,JX q4 o6 c7 t8,VX q4 o5 c1 t6,VX q4 oY c4 t5,el_y,Rat.mul_one,Rat.mul_one,Rat.mul_one]
 have x15:∀ν,el ν A15=ν [1]*(a+b):=fun ν=>by
  rw[JX q4 o11 c14 t15,JX q4 o9 c10 t11,JX q4 o2 c4 t9,VX q4 oX c1 t2,el_x,Rat.mul_one,Rat.mul_one,Rat.mul_one]
 refine LS oP oD fun μ=>?_;have e':el μ Du=el (λn=>el (λm=>μ (qC n m)) (xJ b a)) A17:=(e μ).trans (vK hB.o hB.o (by omega) t17 (λn=>el (λm=>μ (qC n m)) (xJ b a))).symm;show el μ P=el μ Du;rw[e',vK o16 o17 (by omega) tP,wO o13 o15 o16 h16,y13,x15];have g:el (λn=>el (λm=>μ (qC n m)) (xJ b a)) A17=el (λn=>μ (qC [0] n)*b+μ (qC [1] n)*a) A17:=xS λy _=>by
  show b*μ (qC y.1 [0])+(a*μ (qC y.1 [1])+0)=_;rw[wN y.1 [0],wN y.1 [1],mR,mU b,mU a]
 rw[g,OK,CA,CA]
 grind
theorem PSs.imp{X:Cx}{st:List Stmt}{t t':TS}(h:PSs X st t)(i:∀D σ H,t' D σ H->t D σ H):PSs X st t':=λac s σ H D I q=>h ac s σ H D I (i D σ H q)
def CM(A B:L2.St->Hp->Prop):TS:=λD σ H=>A σ H/\∀σ' H',B σ' H'->D.nx σ' H'
def ZU(l:List Stmt):List Stmt:=match l with
 | _::.For _ _ b _ _::_=>b
 | _=>[]
def lpB:List Stmt:=ZU (vU AM)
def lpB1:List Stmt:=lpB.take 5
def lpR1:List Stmt:=lpB.drop 5
def lpB2:List Stmt:=lpR1.take 3
def lpR2:List Stmt:=lpR1.drop 3
def lpB3:List Stmt:=lpR2.take 3
def lpR3:List Stmt:=lpR2.drop 3
def lpB4:List Stmt:=lpR3.take 3
def lpR4:List Stmt:=lpR3.drop 3
theorem lp_eq:lpB1++(lpB2++(lpB3++(lpB4++lpR4)))=lpB:=by
 rw[show lpB4++lpR4=lpR3 from List.take_append_drop 3 lpR3,show lpB3++lpR3=lpR2 from List.take_append_drop 3 lpR2,show lpB2++lpR2=lpR1 from List.take_append_drop 3 lpR1];exact List.take_append_drop 5 lpB
theorem TapeN.smb{K:nI}{H H':Hp}{tp p:Addr}{m g s n l:Nat}{P:Pl}(t:TapeN H tp)(b:But tp H H')(h:SmB K H p m P g s n l):SmB K H' p m P g s n l:=let ⟨_,e,_⟩:=t.ex;h.but e b
theorem TapeN.sq{K:nI}{H H':Hp}{tp p:Addr}{m:Nat}{P:Pl}(t:TapeN H tp)(b:But tp H H')(h:SumQ K H p m P):SumQ K H' p m P:=let ⟨_,e,_⟩:=t.ex;h.but e b
theorem TapeN.at2{H H':Hp}{tp q:Addr}{x y:Int}(t:TapeN H tp)(b:But tp H H')(h:At2 H q x y):At2 H' q x y:=b _ _ h λz=>by
 obtain⟨n,e,_⟩:=t.ex;have h:H q=some (.tup [.int x,.int y]):=h;rw[z,e]at h;cases h
theorem JI.stg{L:Nat}{J:JL}(h:JI L (L+1) J)(l1:1<=L)(l3:L<=3):Stg L (plJ L J):=⟨h.sq l1 (by omega),h.ok l1 (by omega),(h.bnd (by omega)).1,(h.bnd (by omega)).2.1,mN (h.bnd (by omega)).2.2 (by omega)⟩
theorem Stg.smb{K:nI}{H:Hp}{p:Addr}{L:Nat}{C:Pl}(h:Stg L C)(q:SumQ K H p L C):SmB K H p L C 1 6 9 4:=⟨q,h.o,h.b,h.d,h.l⟩
structure TF(K:nI)(H:Hp)(tp pc pd qa qb:Addr)(L:Nat)(C D:Pl)(x y:Rat):Prop where
 t:TapeN H tp
 l1:1<=L
 l3:L<=3
 hc:SumQ K H pc L C
 sc:Stg L C
 hd:SumQ K H pd L D
 sd:Stg L D
 ea:At2 H qa x.num x.den
 ga:SmG x
 eb:At2 H qb y.num y.den
 gb:SmG y
theorem TF.same{K:nI}{H H':Hp}{tp pc pd qa qb:Addr}{L:Nat}{C D:Pl}{x y:Rat}(h:TF K H tp pc pd qa qb L C D x y)(s:Same H H'):TF K H' tp pc pd qa qb L C D x y:=⟨h.t.same s,h.l1,h.l3,h.hc.same s,h.sc,h.hd.same s,h.sd,s _ _ h.ea,h.ga,s _ _ h.eb,h.gb⟩
inductive LwI:L2.St->Hp->Prop where
 | mk {a tp:Addr} {u2 u3 u4 u5 u6 u7 u8 u9 u10 u11 u12 u13:Option V} {H':Hp} (t:TapeN H' tp):LwI [some (.ref a),some (.ref tp),u2,u3,u4,u5,u6,u7,u8,u9,u10,u11,u12,u13] H'
inductive Md(K:nI):L2.St->Hp->Prop where
 | mk {a tp pc pd qa qb:Addr} {L:Nat} {C D:Pl} {x y:Rat} {u2 u8 u9 u10 u11 u12 u13:Option V} {H':Hp} (h:TF K H' tp pc pd qa qb L C D x y):Md K [some (.ref a),some (.ref tp),u2,some (.int (L:Int)),some (.ref pc),some (.ref pd),some (.ref qa),some (.ref qb),u8,u9,u10,u11,u12,u13] H'
inductive Mp(K:nI):L2.St->Hp->Prop where
 | mk {a tp pe p1 p2 pt pb:Addr} {x y:Rat} {u2 u3 u4 u5 u6 u7 u8 u9 u10:Option V} {H':Hp} (t:TapeN H' tp) (ga:SmG x) (gb:SmG y) (ee:H' pe=some (.lst [.ref p1,.ref p2])) (e1:SumQ K H' p1 1 xP) (e2:SumQ K H' p2 1 yP) (et:SumQ K H' pt 1 (xJ y x)) (eb:SumQ K H' pb 1 [([1],y)]):Mp K [some (.ref a),some (.ref tp),u2,u3,u4,u5,u6,u7,u8,u9,u10,some (.ref pe),some (.ref pt),some (.ref pb)] H'
theorem SmG.least{m k:Int}(m0:0<=m)(m1:m<9)(k0:0<=k)(k1:k<5):SmG (fv (1+m) (1+k)):=⟨1+m,1+k,rfl,by omega,by omega,by omega,by omega⟩
theorem sm2{m:Int}(h0:0<=m)(h1:m<9):(1+m).natAbs<2^100:=jR (show(1+m).natAbs<2^5 by have:(2:Nat)^5=32:=rfl;omega) (by decide)
theorem SmG.dn{x:Rat}(h:SmG x):1<=x.num/\x.num<=9/\x.den<=5:=by
 obtain⟨t,b,e,t0,t1,b0,b1⟩:=h.ex;have q:=AC (by omega) e;have l:x.den<=b.natAbs:=by
  have:=Int.natAbs_dvd_natAbs.mpr q.1;rw[gI]at this;exact Nat.le_of_dvd (by omega) this
 have n0:=h.nn;have nz:x.num≠0:=λz=>h.nz (Rat.num_eq_zero.mp z);have:=q.2;exact⟨by omega,by omega,by omega⟩
theorem plJ1{y:Rat}(h:SmG y):PlOk 1 [([1],y)]:=by
 refine⟨λx hx=>?_,λx hx=>?_,λx hx=>?_,.cons (λ_ h=>nomatch h) .nil,λx hx=>?_,(by show 1<=60;decide),by decide,by decide⟩;all_goals rw[gH.mp hx]
 ·rfl
 ·show ∀n∈[(1:Int)],0<=n
  decide
 ·show([(1:Int)]).sum<=16
  decide
 ·exact h.nz
theorem WP{y:Rat}(h:SmG y):Stg 1 [([1],y)]:=by
 have dn:=h.dn;have nl:=kS y;have gd:Good 1 (([(([1]:List Int),y)]:Pl).map AN):=by
  refine⟨λx hx=>?_,(by show 1<=60;decide),by decide,by decide,.cons (λ_ h=>nomatch h) .nil⟩;rw[gH.mp hx];exact⟨rfl,(by show ∀n∈[(1:Int)],0<=n;decide),(by show([(1:Int)]).sum<=16;decide),nl.1,nl.2,λz=>h.nz (Rat.num_eq_zero.mp z),jR (show y.num.natAbs<2^5 by have:(2:Nat)^5=32:=rfl;omega) (by decide),jR (show((y.den:Int)).natAbs<2^5 by have:(2:Nat)^5=32:=rfl;omega) (by decide)⟩
 refine⟨⟨MJ gd,MH gd⟩,plJ1 h,⟨(y.den:Int),nl.1, ?_,λx hx=>?_⟩,λx hx=>?_,(by show 1<=4;decide)⟩
 ·have:(2:Nat)^6=64:=rfl;omega
 ·rw[gH.mp hx];refine⟨y.num, ?_, ?_⟩
  ·show y=fv y.num (y.den:Int);exact(xF y).symm
  ·have:(2:Nat)^9=512:=rfl;omega
 ·rw[gH.mp hx];show([(1:Int)]).sum<=((1:Nat):Int)
  decide
theorem okX:PlOk 1 xP:=⟨by decide,by decide,by decide,by decide +kernel,by decide +kernel,by decide,by decide,by decide⟩
theorem okY:PlOk 1 yP:=⟨by decide,by decide,by decide,by decide +kernel,by decide +kernel,by decide,by decide,by decide⟩
theorem smX{K:nI}{H:Hp}{p:Addr}(q:SumQ K H p 1 xP):SmB K H p 1 xP 1 6 11 2:=⟨q,okX,⟨1,by decide,by decide,λx hx=>by rw[gH.mp hx];exact⟨1,by decide +kernel,by decide⟩⟩,by decide,by decide⟩
theorem smY{K:nI}{H:Hp}{p:Addr}(q:SumQ K H p 1 yP):SmB K H p 1 yP 1 6 11 2:=by
 refine⟨q,okY,⟨1,by decide,by decide,λx hx=>?_⟩,by decide,by decide⟩;simp only[yP,mI,gU,or_false]at hx;rcases hx with rfl | rfl
 ·exact⟨1,by decide +kernel,by decide⟩
 ·exact⟨-1,by decide +kernel,by decide⟩
theorem smL{K:nI}{H:Hp}{p:Addr}{b a:Rat}(hb:SmG b)(ha:SmG a)(q:SumQ K H p 1 (xJ b a)):SmB K H p 1 (xJ b a) 1 6 10 2:=by
 refine⟨q,BY hb ha,⟨60,by decide,by decide,λx hx=>?_⟩,λx hx=>?_,mW 2⟩;all_goals
  simp only[xJ,mI,gU,or_false]at hx;rcases hx with rfl | rfl
 ·exact hb.ov
 ·exact ha.ov
 ·show([(0:Int)]).sum<=((1:Nat):Int)
  decide
 ·show([(1:Int)]).sum<=((1:Nat):Int)
  decide
structure Bx(p:Prop):Prop where
 h:p
def UR:Expr->Bool
 | .Starred .. =>false
 | _=>true
theorem JF{env:Env}{e:Expr}{es:List Expr}(h:UR e=true):starEach (e::es) env=(false,eval e env)::starEach es env:=by
 cases e<;>first | rfl | cases h
section
variable{X:Cx}{e:Expr}{es:List Expr}{te:TE}{t:TA}{p pos:Pos}
theorem vF{i:Int}{j:Nat} :Bx (PE X (.Constant (.int i) j pos) (tC (.int i))):=⟨jF⟩
theorem bx_neg{i:Int}{j:Nat} :Bx (PE X (.UnaryOp .USub (.Constant (.int i) j p) pos) (tUn (rU λi=>.int (-i)) (tC (.int i)))):=⟨yS xC jF⟩
theorem MA(i:Nat){x:Str}(hN:X.N[i]? = some x)(hv:Vis X.env.scope x)(hd:(x==("__debug__" :Str))=false)(hc:(x==("__classdict__" :Str))=false):Bx (PE X (.Name x pos) (KZ i)):=⟨TN hN hv hd hc⟩
theorem kW:Bx (PA X [] tNil):=⟨jB⟩
theorem jZ(h1:Bx (PE X e te))(h2:Bx (PA X es t))(hs:UR e=true):Bx (PA X (e::es) (CN te t)):=⟨jA h1.h h2.h (JF hs)⟩
theorem qD{x1}(h:Bx (PA X es t)):Bx (PE X (.Tuple es x1 pos) (tTupF t)):=⟨jQ h.h⟩
theorem bx_lst(h:Bx (PA X es t)):Bx (PE X (.List es pos) (tLstF t)):=⟨kH h.h⟩
theorem OQ{i:Nat}{x:Str}{x1}{pos':Pos}(hN:X.N.Nodup)(hi:X.N[i]? = some x)(hx:Loc X.env.scope x)(he:Bx (PE X (.Tuple es x1 p) te))(hf:X.env.scope.names.lookup x=some .local):Bx (PS X (.Assign [.Name x pos'] (.Tuple es x1 p) pos) (LA te (jS i))):=⟨jO hN hi hx he.h rfl (.inr hf)⟩
theorem ZW{i:Nat}{x:Str}{pos':Pos}(hN:X.N.Nodup)(hi:X.N[i]? = some x)(hx:Loc X.env.scope x)(he:Bx (PE X (.List es p) te))(hf:X.env.scope.names.lookup x=some .local):Bx (PS X (.Assign [.Name x pos'] (.List es p) pos) (LA te (jS i))):=⟨jO hN hi hx he.h rfl (.inr hf)⟩
theorem AG{st:Stmt}{rest:List Stmt}{t u:TS}(h1:Bx (PS X st t))(h2:Bx (PSs X rest u)):Bx (PSs X (st::rest) (OY t u)):=⟨jC h1.h h2.h⟩
theorem Bx.imp{l:List Stmt}{t t':TS}(h:Bx (PSs X l t))(i:∀D σ H,t' D σ H->t D σ H):Bx (PSs X l t'):=⟨PSs.imp h.h i⟩
theorem bx_ex{l:List Stmt}{R:TS->Prop}(h:∃t,Bx (PSs X l t)/\R t):∃t,PSs X l t/\R t:=by
 obtain⟨t,h,r⟩:=h;exact⟨t,h.h,r⟩
theorem bx_one{st:Stmt}{t:TS}(h:Bx (PS X st t)):Bx (PSs X [st] t):=⟨jE h.h⟩
theorem bx_for{tg iter:Expr}{body:List Stmt}{wi:TI}{g:TG}{tb:TS}(hp:PassesOwn (model X.prog X.w) X.A X.env X.xe)(hc:X.calm=true)(hi:PI X tg iter wi)(hg:PG X tg g)(hb:Bx (PSs X body tb))(hs:∀x,foldedSetIterable iter X.env x=pure x):Bx (PS X (.For tg iter body [] pos) (tFor wi g tb)):=⟨qA hp hc hi hg hb.h hs⟩
end
abbrev nmLaw:List Str:=["script","tape","turn","letters","c","d","a","b","pairs","due","first","edges","top","base"]
theorem scLaw:FnScope nmLaw ["script"] (jJ AM):=⟨rfl,rfl,rfl,by decide +kernel,rfl,by decide +kernel,by decide +kernel⟩
abbrev AD(P:Program)(w:World)(K:nI)(mg:Str->Option Value)(base:Heap)(f:Addr)(cdv:Value)(A:Around)(outer:List Env)(s:Shared)(H0:Hp)(E:XK):Cx:=(LT CX0 P w K mg base nmLaw "law" (jJ AM) f cdv A outer s H0 E).nox
section
variable{P:Program}{w:World}{K:nI}{mg:Str->Option Value}{base:Heap}{f:Addr}{cdv:Value}{A:Around}{outer:List Env}{s:Shared}{H0:Hp}{E:XK}{rest:List Stmt}{u:TS}
theorem law_1{fP fS fE:Addr}{fdP fdS fdE:FuncData}(DP:Df K mg "_law_pick" FK ["tape","share"] fP fdP)(GP:FnOk P w K mg base CX0 1 fP fdP ["tape","share"] spPick)(DS:Df K mg "_law_straight" SR ["tape","letters"] fS fdS)(GS:FnOk P w K mg base CX0 3 fS fdS ["tape","letters"] spStr)(DE:Df K mg "_law_least" AL ["x","y"] fE fdE)(GE:FnOk P w K mg base CX0 1 fE fdE ["x","y"] spLeast)(hr:Room 11 (A.deeper (envOfC "law" (jJ AM) s.heap.objs.size f cdv)))(hu:Bx (PSs (AD P w K mg base f cdv A outer s H0 E) rest u)):Bx (PSs (AD P w K mg base f cdv A outer s H0 E) (lpB1++rest) (OY (CM LwI (Md K)) u)):=by
 have hr1:Room 1 _:=hr.mono (by decide);have hr3:Room 3 _:=hr.mono (by decide);refine .mk (PSs.imp (jC (jO (i:=3) scLaw.nd rfl (Or.inl rfl) (jT qH jF (jD GP hr1 rfl DP.m DP.F.kp DP.b .nil jK (jA (pv 1) (jA jF jB))))) (jC (jO (i:=4) scLaw.nd rfl (Or.inl rfl) (jD GS hr3 rfl DS.m DS.F.kp DS.b .nil jK (jA (pv 1) (jA (pv 3) jB)))) (jC (jO (i:=5) scLaw.nd rfl (Or.inl rfl) (jD GS hr3 rfl DS.m DS.F.kp DS.b .nil jK (jA (pv 1) (jA (pv 3) jB)))) (jC (jO (i:=6) scLaw.nd rfl (Or.inl rfl) (jD GE hr1 rfl DE.m DE.F.kp DE.b .nil jK (jA (jT qH jF (jD GP hr1 rfl DP.m DP.F.kp DP.b .nil jK (jA (pv 1) (jA jF jB)))) (jA (jT qH jF (jD GP hr1 rfl DP.m DP.F.kp DP.b .nil jK (jA (pv 1) (jA jF jB)))) jB)))) (jC (jO (i:=7) scLaw.nd rfl (Or.inl rfl) (jD GE hr1 rfl DE.m DE.F.kp DE.b .nil jK (jA (jT qH jF (jD GP hr1 rfl DP.m DP.F.kp DP.b .nil jK (jA (pv 1) (jA jF jB)))) (jA (jT qH jF (jD GP hr1 rfl DP.m DP.F.kp DP.b .nil jK (jA (pv 1) (jA jF jB)))) jB)))) (hu.h)))))) λD σ H h=>?_);try dsimp only[cxK]
 obtain⟨⟨t0⟩,go⟩:=h;rename_i a tp u2 u3 u4 u5 u6 u7 u8 u9 u10 u11 u12 u13;refine⟨_,rfl,tp,3,rfl,t0,by decide,by decide,λm1 H1 m10 m11 b1 t1=>⟨_,_,rfl,rfl, ?_⟩⟩;obtain⟨L,hL,l1,l3⟩:∃L:Nat,(1:Int)+m1=(L:Int)/\1<=L/\L<=3:=⟨(1+m1).toNat,by omega,by omega,by omega⟩;dsimp only[jS];rw[hL];refine⟨_,rfl,_,rfl,tp,L,rfl,t1,l1,by omega,λpc J1 H2 n2 b2 t2 p2 j2=>?_⟩;dsimp only[jS];refine⟨_,rfl,_,rfl,tp,L,rfl,t2,l1,by omega,λpd J2 H3 n3 b3 t3 p3 j3=>?_⟩;dsimp only[jS];refine⟨_,rfl,tp,9,rfl,t3,by decide,by decide,λm4 H4 m40 m41 b4 t4=>⟨_,_,rfl,rfl,_,rfl,tp,5,rfl,t4,by decide,by decide,λm5 H5 m50 m51 b5 t5=>⟨_,_,rfl,rfl,_,_,rfl,by omega,sm2 m40 m41,sm2 m50 (by omega),λqa H6 n6 s6 e6=>?_⟩⟩⟩;dsimp only[jS];have t6:=t5.same s6;refine⟨_,rfl,tp,9,rfl,t6,by decide,by decide,λm7 H7 m70 m71 b7 t7=>⟨_,_,rfl,rfl,_,rfl,tp,5,rfl,t7,by decide,by decide,λm8 H8 m80 m81 b8 t8=>⟨_,_,rfl,rfl,_,_,rfl,by omega,sm2 m70 m71,sm2 m80 (by omega),λqb H9 n9 s9 e9=>?_⟩⟩⟩;dsimp only[jS];have b36:But tp H3 H6:=λc o h n=>s6 _ _ (b5 _ _ (b4 _ _ h n) n);have b69:But tp H6 H9:=λc o h n=>s9 _ _ (b8 _ _ (b7 _ _ h n) n);have b39:But tp H3 H9:=λc o h n=>b69 _ _ (b36 _ _ h n) n;exact go _ _ (.mk ⟨t8.same s9,l1,l3,t3.sq b39 (t2.sq b3 p2.sq),j2.stg l1 l3,t3.sq b39 p3.sq,j3.stg l1 l3,t6.at2 b69 e6,.least m40 m41 m50 m51,e9,.least m70 m71 m80 m81⟩)
end
section
variable{P:Program}{w:World}{K:nI}{mg:Str->Option Value}{base:Heap}{f:Addr}{cdv:Value}{A:Around}{outer:List Env}{s:Shared}{H0:Hp}{E:XK}{rest:List Stmt}{u:TS}
theorem law_2(T:Txt mg){fL fC fM fQ fA:Addr}{fdL fdC fdM fdQ fdA:FuncData}(DL:Df K mg "plus" wK ["one","other"] fL fdL)(GL:FnOk P w K mg base CX0 5 fL fdL ["one","other"] (zO K))(DC:Df K mg "scaled" xV ["one","number"] fC fdC)(GC:FnOk P w K mg base CX0 3 fC fdC ["one","number"] (yW K))(DM:Df K mg "times" yX ["one","other"] fM fdM)(GM:FnOk P w K mg base CX0 7 fM fdM ["one","other"] (yH K))(DQ:Df K mg "rows_of_squares" SV ["some"] fQ fdQ)(GQ:FnOk P w K mg base CX0 3 fQ fdQ ["some"] (SD K))(DA:Df K mg "_law_alike" wL ["letters","edges","first","second","due"] fA fdA)(GA:FnOk P w K mg base CX0 11 fA fdA ["letters","edges","first","second","due"] (wW K))(hr:Room 11 (A.deeper (envOfC "law" (jJ AM) s.heap.objs.size f cdv)))(hu:Bx (PSs (AD P w K mg base f cdv A outer s H0 E) rest u)):Bx (PSs (AD P w K mg base f cdv A outer s H0 E) (lpB2++rest) (OY (CM (Md K) (Md K)) u)):=by
 have hr3:Room 3 _:=hr.mono (by decide);have hr5:Room 5 _:=hr.mono (by decide);have hr7:Room 7 _:=hr.mono (by decide);have KQ:KBs K fdQ ["some"]:=Fun.kbs DQ.F (by decide) λkV doc pm an cdv ct ws hl=>by match ws,hl with | [a],_=>rfl
 refine .mk (PSs.imp (jC (jO (i:=8) scLaw.nd rfl (Or.inl rfl) (kH (jA (jQ (jA (pv 6) (jA (pv 4) jB))) (jA (jQ (jA (pv 7) (jA (pv 5) jB))) jB)))) (jC (jO (i:=9) scLaw.nd rfl (Or.inl rfl) (jD GL hr5 rfl DL.m DL.F.kp DL.b .nil jK (jA (jD GC hr3 rfl DC.m DC.F.kp DC.b .nil jK (jA (jD GM hr7 rfl DM.m DM.F.kp DM.b .nil jK (jA (pv 4) (jA (pv 4) jB))) (jA (pv 6) jB))) (jA (jD GC hr3 rfl DC.m DC.F.kp DC.b .nil jK (jA (jD GM hr7 rfl DM.m DM.F.kp DM.b .nil jK (jA (pv 5) (jA (pv 5) jB))) (jA (pv 7) jB))) jB)))) (jC (kT (kZ (kU (jD GA hr rfl DA.m DA.F.kp DA.b .nil jK (jA (pv 3) (jA (kH jB) (jA (zS GQ hr3 rfl DQ.m DQ.F.kp KQ jK (qY (qS LY (by rfl) T.lst boot_list (jA (pv 8) jB)) DX)) (jA (jD GQ hr3 rfl DQ.m DQ.F.kp DQ.b .nil jK (jA (pv 8) jB)) (jA (pv 9) jB)))))))) (jE (jM xQ)) kC) (hu.h)))) λEn σ H h=>?_);try dsimp only[cxK]
 obtain⟨⟨F0⟩,go⟩:=h;rename_i a tp pc pd qa qb L C D x y u2 u8 u9 u10 u11 u12 u13;refine⟨_,rfl,_,rfl,uM,λr1 H1 n1 s1 e1=>⟨_,rfl,_,rfl,uM,λr2 H2 n2 s2 e2=>⟨uM,λpl H3 n3 s3 e3=>?_⟩⟩⟩;have s23:=s2.trans s3;have F3:=F0.same (s1.trans s23);have e1:=s23 _ _ e1;have e2:=s3 _ _ e2;clear F0;have hc3:=F3.sc.smb F3.hc;have hd3:=F3.sd.smb F3.hd;dsimp only[jS];refine⟨_,rfl,_,rfl, ?_⟩;dsimp only[tNil];refine AY hc3 hc3 (by decide) 2 (by decide) (by decide) (by decide) λp4 P4 H4 n4 s4 h4 t4=>?_;refine⟨_,rfl, ?_⟩;dsimp only[tNil];refine CF h4 (NumK.of (s4 _ _ F3.ea)) (by decide) (s2:=6) (by decide) F3.ga.ov (by decide) λp5 P5 H5 n5 s5 h5 c5=>?_;refine⟨_,rfl,_,rfl, ?_⟩;dsimp only[tNil];have s35:=s4.trans s5;refine AY (hd3.same s35) (hd3.same s35) (by decide) 2 (by decide) (by decide) (by decide) λp6 P6 H6 n6 s6 h6 t6=>?_;refine⟨_,rfl, ?_⟩;dsimp only[tNil];refine CF h6 (NumK.of ((s35.trans s6) _ _ F3.eb)) (by decide) (s2:=6) (by decide) F3.gb.ov (by decide) λp7 P7 H7 n7 s7 h7 c7=>?_;refine ON (h5.same (s6.trans s7)) h7 48 (by decide) (by decide) (by decide) λp8 P8 H8 n8 s8 h8 c8=>?_;have s38:=s35.trans (s6.trans (s7.trans s8));have F8:=F3.same s38;have ed:∀μ,el μ P8=sqE C μ*x+sqE D μ*y:=fun μ=>by
  have q1:=hc3.dq;have q2:=hd3.dq;rw[wO h5.o h7.o h8.o c8,zX h4.o h5.o c5,zX h6.o h7.o c7,vK F3.sc.o F3.sc.o (by omega) t4,vK F3.sd.o F3.sd.o (by omega) t6]
 have es:Paired (PairV K L H8) [.ref r1,.ref r2] [(x,C),(y,D)]:=.cons ⟨r1,qa,pc,rfl,s38 _ _ e1,F8.ea,F8.hc⟩ (.cons ⟨r2,qb,pd,rfl,s38 _ _ e2,F8.eb,F8.hd⟩ .nil);have el:=s38 _ _ e3;clear s38 F3 hc3 hd3 s35 h4 h5 h6 h7 t4 t6 c5 c7 c8 s4 s5 s6 s7 s8 e3 n4 n5 n6 n7 n8;dsimp only[jS];refine⟨_,rfl,uK,λle H9 n9 s9 e9=>⟨_,rfl,pl,_,rfl,.inl (SqL.of (s9 _ _ el)),λl10 H10 n10 s10 e10=>?_⟩⟩;have s80:=s9.trans s10;refine⟨l10,L,_,[(x,C),(y,D)],rfl,e10,Paired.to (λ_ _ h=>h.same s80) es,(by show 0<2;decide),(by show 2<=100;decide),λr11 H11 n11 s11 R11=>?_⟩;have s81:=s80.trans s11;refine⟨_,rfl,pl,L,_,[(x,C),(y,D)],rfl,s81 _ _ el,Paired.to (λ_ _ h=>h.same s81) es,(by show 0<2;decide),(by show 2<=100;decide),λr12 H12 n12 s12 R12=>?_⟩;have s82:=s81.trans s12;refine⟨_,rfl,L,le,r11,r12,p8,[],sqR [(x,C),(y,D)],P8,rfl,F8.l1,Nat.le_succ_of_le F8.l3,⟨[],(s10.trans (s11.trans s12)) _ _ e9,.nil⟩,R11.same s12,R12,(by show 7<=900;decide),h8.q.same s82,ZO (Nat.le_succ_of_le F8.l3) F8.sc F8.sd F8.ga F8.gb h8.o ed,λH13 s13=>⟨_,rfl,qJ ?_⟩⟩;exact go _ _ (.mk (F8.same (s82.trans s13)))
end
theorem cn1_ok{L:Nat}{x:Rat}(l1:1<=L)(l4:L<=4)(h:SmG x):PlOk L [(List.replicate L 0,x)]:=by
 refine⟨λe he=>?_,λe he=>?_,λe he=>?_,.cons (λ_ h=>nomatch h) .nil,λe he=>?_,(by show 1<=60;decide),l1,l4⟩;all_goals rw[gH.mp he]
 ·exact uU
 ·intro n hn;rw[List.eq_of_mem_replicate hn];exact mZ _
 ·show(List.replicate L (0:Int)).sum<=16;simp
 ·exact h.nz
theorem ZV{K:nI}{H:Hp}{p:Addr}{L:Nat}{x:Rat}(l1:1<=L)(l4:L<=4)(h:SmG x)(q:SumQ K H p L [(List.replicate L 0,x)]):SmB K H p L [(List.replicate L 0,x)] 1 6 10 1:=by
 refine⟨q,cn1_ok l1 l4 h,⟨60,by decide,by decide,λe he=>?_⟩,λe he=>?_,mW 1⟩;all_goals rw[gH.mp he]
 ·exact h.ov
 ·show(List.replicate L (0:Int)).sum<=((1:Nat):Int);simp
section
variable{P:Program}{w:World}{K:nI}{mg:Str->Option Value}{base:Heap}{f:Addr}{cdv:Value}{A:Around}{outer:List Env}{s:Shared}{H0:Hp}{E:XK}{rest:List Stmt}{u:TS}
theorem law_3{fL fC fW fA:Addr}{fdL fdC fdW fdA:FuncData}(DL:Df K mg "plus" wK ["one","other"] fL fdL)(GL:FnOk P w K mg base CX0 5 fL fdL ["one","other"] (zO K))(DC:Df K mg "scaled" xV ["one","number"] fC fdC)(GC:FnOk P w K mg base CX0 3 fC fdC ["one","number"] (yW K))(DW:Df K mg "rows_of_weights" SU ["number","rims","weights"] fW fdW)(GW:FnOk P w K mg base CX0 3 fW fdW ["number","rims","weights"] (SC K))(DA:Df K mg "_law_alike" wL ["letters","edges","first","second","due"] fA fdA)(GA:FnOk P w K mg base CX0 11 fA fdA ["letters","edges","first","second","due"] (wW K))(hr:Room 11 (A.deeper (envOfC "law" (jJ AM) s.heap.objs.size f cdv)))(hu:Bx (PSs (AD P w K mg base f cdv A outer s H0 E) rest u)):Bx (PSs (AD P w K mg base f cdv A outer s H0 E) (lpB3++rest) (OY (CM (Md K) (Md K)) u)):=by
 have hr3:Room 3 _:=hr.mono (by decide);have hr5:Room 5 _:=hr.mono (by decide);have KW:KBs K fdW ["number","rims","weights"]:=Fun.kbs DW.F (by decide) λkV doc pm an cdv ct ws hl=>by match ws,hl with | [a,b,c],_=>rfl
 refine .mk (PSs.imp (jC (jO (i:=9) scLaw.nd rfl (Or.inl rfl) (jD GL hr5 rfl DL.m DL.F.kp DL.b .nil jK (jA (jQ (jA (pv 3) (jA (jQ (jA (jQ (jA (jT LwD.NL (jQ (jA jF jB)) (pv 3)) (jA (pv 6) jB))) jB)) jB))) (jA (jD GL hr5 rfl DL.m DL.F.kp DL.b .nil jK (jA (jD GC hr3 rfl DC.m DC.F.kp DC.b .nil jK (jA (pv 4) (jA (pv 7) jB))) (jA (jD GC hr3 rfl DC.m DC.F.kp DC.b .nil jK (jA (pv 5) (jA (pv 6) jB))) jB))) jB)))) (jC (jO (i:=10) scLaw.nd rfl (Or.inl rfl) (zS GW hr3 rfl DW.m DW.F.kp KW jK (qY (pv 6) (qY (kH (jA (pv 4) (jA (pv 5) jB))) (qY (kH (jA (pv 7) (jA (pv 6) jB))) DX))))) (jC (kT (kZ (kU (jD GA hr rfl DA.m DA.F.kp DA.b .nil jK (jA (pv 3) (jA (kH (jA (pv 4) (jA (pv 5) jB))) (jA (pv 10) (jA (jD GW hr3 rfl DW.m DW.F.kp DW.b .nil jK (jA (pv 6) (jA (kH (jA (pv 4) (jA (pv 5) jB))) (jA (kH (jA (pv 7) (jA (pv 6) jB))) jB)))) (jA (pv 9) jB)))))))) (jE (jM xQ)) kC) (hu.h)))) λEn σ H h=>?_);try dsimp only[cxK]
 obtain⟨⟨F0⟩,go⟩:=h;rename_i a tp pc pd qa qb L C D x y u2 u8 u9 u10 u11 u12 u13;have l1:=F0.l1;have l4:=Nat.le_succ_of_le F0.l3;refine⟨_,rfl,uL,λz1 H1 n1 s1 e1=>⟨_,rfl,z1,L,.int 0,rfl,rfl,e1,l1,l4,λzb H2 s2 e2=>⟨_,rfl,uM,λr3 H3 n3 s3 e3=>⟨uL,λq4 H4 n4 s4 e4=>⟨uM,λp5 H5 n5 s5 e5=>?_⟩⟩⟩⟩⟩;have s45:=s4.trans s5;have s35:=s3.trans s45;have e2:H2 zb=some (.tup ((List.replicate L (0:Int)).map V.int)):=by rw[e2,List.map_replicate]
 have F5:=F0.same (s1.trans (s2.trans s35));have q5:SumQ K H5 p5 L [(List.replicate L 0,x)]:=⟨q4,_,e5,s5 _ _ e4,.cons ⟨r3,zb,qa,rfl,s45 _ _ e3,s35 _ _ e2,.of F5.ea⟩ .nil⟩;have h5:=ZV l1 l4 F5.ga q5;clear F0 s1 s2 s35 s45 s4 s5 q5 e1 e2 e3 e4 e5 n1 n3 n4 n5 s3;refine⟨_,rfl,_,rfl, ?_⟩;dsimp only[tNil];refine CF (F5.sc.smb F5.hc) (NumK.of F5.eb) (by decide) (s2:=6) (by decide) F5.gb.ov (by decide) λp6 P6 H6 n6 s6 h6 c6=>?_;refine⟨_,rfl,_,rfl, ?_⟩;dsimp only[tNil];refine CF ((F5.sd.smb F5.hd).same s6) (NumK.of (s6 _ _ F5.ea)) (by decide) (s2:=6) (by decide) F5.ga.ov (by decide) λp7 P7 H7 n7 s7 h7 c7=>?_;refine ON (h6.same s7) h7 31 (by decide) (by decide) (by decide) λp8 P8 H8 n8 s8 h8 c8=>?_;refine ON (h5.same (s6.trans (s7.trans s8))) h8 38 (by decide) (by decide) (by decide) λp9 P9 H9 n9 s9 h9 c9=>?_;have F9:=F5.same (s6.trans (s7.trans (s8.trans s9)));have ed:∀μ,el μ P9=x*μ (List.replicate L 0)+(el μ C*y+el μ D*x):=fun μ=>by
  rw[wO h5.o h8.o h9.o c9,wO h6.o h7.o h8.o c8,zX F9.sc.o h6.o c6,zX F9.sd.o h7.o c7];show x*μ (List.replicate L 0)+0+_=_;rw[mR]
 clear F5 h5 h6 h7 h8 c6 c7 c8 c9 s6 s7 s8 s9 n6 n7 n8 n9;dsimp only[jS];refine⟨_,rfl,_,rfl,_,rfl,uM,λla HA na sa ea=>⟨_,rfl,_,rfl,uM,λlb HB nb sb eb=>?_⟩⟩;have FB:=F9.same (sa.trans sb);refine⟨_,la,lb,L,x,_,_,[y,x],rfl,NumK.of FB.ea,sb _ _ ea,eb,.cons (NumK.of FB.eb) (.cons (NumK.of FB.ea) .nil),rfl,(by show 2<=100;decide),λr1 HC nc sc R1=>?_⟩;have FC:=FB.same sc;have hC:=h9.q.same (sa.trans (sb.trans sc));clear F9 FB sa sb sc ea eb na nb nc;dsimp only[jS];refine⟨_,rfl,_,rfl,_,rfl,uM,λle HD nd sd ed'=>⟨_,rfl,_,rfl,_,rfl,_,rfl,uM,λlc HE ne se ee=>⟨_,rfl,_,rfl,uM,λlf HF nf sf ef=>?_⟩⟩⟩;have sDF:=se.trans sf;have FF:=FC.same (sd.trans sDF);refine⟨_,lc,lf,L,x,_,_,[y,x],rfl,NumK.of FF.ea,sf _ _ ee,ef,.cons (NumK.of FF.eb) (.cons (NumK.of FF.ea) .nil),rfl,(by show 2<=100;decide),λr2 HG ng sg R2=>?_⟩;have FG:=FF.same sg;refine⟨_,rfl,L,le,r1,r2,p9,[fdS C,fdS D],wtR x [y,x],P9,rfl,l1,l4,⟨_,(sDF.trans sg) _ _ ed',.cons ⟨pc,rfl,FG.sc.smb FG.hc⟩ (.cons ⟨pd,rfl,FG.sd.smb FG.hd⟩ .nil)⟩,R1.same (sd.trans (sDF.trans sg)),R2,(by show 9<=900;decide),hC.same (sd.trans (sDF.trans sg)),ZN l4 FG.sc FG.sd FG.ga FG.gb h9.o ed,λHH sh=>⟨_,rfl,qJ ?_⟩⟩;exact go _ _ (.mk (FG.same sh))
end
section
variable{P:Program}{w:World}{K:nI}{mg:Str->Option Value}{base:Heap}{f:Addr}{cdv:Value}{A:Around}{outer:List Env}{s:Shared}{H0:Hp}{E:XK}{rest:List Stmt}{u:TS}
theorem law_4(hu:Bx (PSs (AD P w K mg base f cdv A outer s H0 E) rest u)):Bx (PSs (AD P w K mg base f cdv A outer s H0 E) (lpB4++rest) (OY (CM (Md K) (Mp K)) u)):=by
 refine Bx.imp (AG (ZW (i:=11) scLaw.nd rfl (Or.inl rfl) (bx_lst (jZ (qD (jZ vF (jZ (qD (jZ (qD (jZ (qD (jZ vF kW rfl)) (jZ (qD (jZ vF (jZ vF kW rfl) rfl)) kW rfl) rfl)) kW rfl)) kW rfl) rfl)) (jZ (qD (jZ vF (jZ (qD (jZ (qD (jZ (qD (jZ vF kW rfl)) (jZ (qD (jZ vF (jZ vF kW rfl) rfl)) kW rfl) rfl)) (jZ (qD (jZ (qD (jZ vF kW rfl)) (jZ (qD (jZ bx_neg (jZ vF kW rfl) rfl)) kW rfl) rfl)) kW rfl) rfl)) kW rfl) rfl)) kW rfl) rfl)) rfl) (AG (OQ (i:=12) scLaw.nd rfl (Or.inl rfl) (qD (jZ vF (jZ (qD (jZ (qD (jZ (qD (jZ vF kW rfl)) (jZ (MA 7 rfl (Or.inl rfl) rfl rfl) kW rfl) rfl)) (jZ (qD (jZ (qD (jZ vF kW rfl)) (jZ (MA 6 rfl (Or.inl rfl) rfl rfl) kW rfl) rfl)) kW rfl) rfl)) kW rfl) rfl)) rfl) (AG (OQ (i:=13) scLaw.nd rfl (Or.inl rfl) (qD (jZ vF (jZ (qD (jZ (qD (jZ (qD (jZ vF kW rfl)) (jZ (MA 7 rfl (Or.inl rfl) rfl rfl) kW rfl) rfl)) kW rfl)) kW rfl) rfl)) rfl) hu))) λEn σ H h=>?_;try dsimp only[cxK]
 obtain⟨⟨F0⟩,go⟩:=h;rename_i a tp pc pd qa qb L C D x y u2 u8 u9 u10 u11 u12 u13;refine⟨uL,λa1 H1 n1 s1 e1=>⟨uM,λa2 H2 n2 s2 e2=>⟨uM,λa3 H3 n3 s3 e3=>⟨uL,λa4 H4 n4 s4 e4=>⟨uM,λa5 H5 n5 s5 e5=>⟨uL,λa6 H6 n6 s6 e6=>⟨uM,λa7 H7 n7 s7 e7=>⟨uM,λa8 H8 n8 s8 e8=>⟨uL,λa9 H9 n9 s9 e9=>⟨_,rfl,uM,λa10 H10 n10 s10 e10=>⟨uM,λa11 H11 n11 s11 e11=>⟨uM,λa12 H12 n12 s12 e12=>⟨uM,λa13 H13 n13 s13 e13=>⟨uM,λa14 H14 n14 s14 e14=>?_⟩⟩⟩⟩⟩⟩⟩⟩⟩⟩⟩⟩⟩⟩;dsimp only[jS];refine⟨uL,λa15 H15 n15 s15 e15=>⟨_,rfl,uM,λa16 H16 n16 s16 e16=>⟨uL,λa17 H17 n17 s17 e17=>⟨_,rfl,uM,λa18 H18 n18 s18 e18=>⟨uM,λa19 H19 n19 s19 e19=>⟨uM,λa20 H20 n20 s20 e20=>?_⟩⟩⟩⟩⟩⟩;dsimp only[jS];refine⟨uL,λa21 H21 n21 s21 e21=>⟨_,rfl,uM,λa22 H22 n22 s22 e22=>⟨uL,λa23 H23 n23 s23 e23=>⟨uM,λa24 H24 n24 s24 e24=>?_⟩⟩⟩⟩;dsimp only[jS];have k23:Same H23 H24:=s24;have k22:Same H22 H24:=s23.trans k23
 have k21:Same H21 H24:=s22.trans k22;have k20:Same H20 H24:=s21.trans k21;have k19:Same H19 H24:=s20.trans k20;have k18:Same H18 H24:=s19.trans k19;have k17:Same H17 H24:=s18.trans k18;have k16:Same H16 H24:=s17.trans k17;have k15:Same H15 H24:=s16.trans k16;have k14:Same H14 H24:=s15.trans k15;have k13:Same H13 H24:=s14.trans k14;have k12:Same H12 H24:=s13.trans k13;have k11:Same H11 H24:=s12.trans k12;have k10:Same H10 H24:=s11.trans k11;have k9:Same H9 H24:=s10.trans k10;have k8:Same H8 H24:=s9.trans k9;have k7:Same H7 H24:=s8.trans k8;have k6:Same H6 H24:=s7.trans k7;have k5:Same H5 H24:=s6.trans k6;have k4:Same H4 H24:=s5.trans k5;have k3:Same H3 H24:=s4.trans k4;have k2:Same H2 H24:=s3.trans k3;have k1:Same H1 H24:=s2.trans k2;have k0:Same H H24:=s1.trans k1;have F:=F0.same k0;refine go _ _ (.mk F.t F.ga F.gb (k14 _ _ e14) ⟨a4,_,k5 _ _ e5,k4 _ _ e4,.cons ⟨a3,a1,a2,rfl,k3 _ _ e3,k1 _ _ e1,.of (k2 _ _ e2)⟩ .nil⟩ ⟨a12,_,k13 _ _ e13,k12 _ _ e12,.cons ⟨a8,a6,a7,rfl,k8 _ _ e8,k6 _ _ e6,.of (k7 _ _ e7)⟩ (.cons ⟨a11,a9,a10,rfl,k11 _ _ e11,k9 _ _ e9,.of (k10 _ _ e10)⟩ .nil)⟩
  ⟨a19,_,k20 _ _ e20,k19 _ _ e19,.cons ⟨a16,a15,qb,rfl,k16 _ _ e16,k15 _ _ e15,.of F.eb⟩ (.cons ⟨a18,a17,qa,rfl,k18 _ _ e18,k17 _ _ e17,.of F.ea⟩ .nil)⟩ ⟨a23,_,e24,k23 _ _ e23,.cons ⟨a22,a21,qb,rfl,k22 _ _ e22,k21 _ _ e21,.of F.eb⟩ .nil⟩)
theorem law_5{fM fR fA:Addr}{fdM fdR fdA:FuncData}(DM:Df K mg "times" yX ["one","other"] fM fdM)(GM:FnOk P w K mg base CX0 7 fM fdM ["one","other"] (yH K))(DR:Df K mg "rows_of_piece" SW ["root","rest","low","high"] fR fdR)(GR:FnOk P w K mg base CX0 8 fR fdR ["root","rest","low","high"] (SE K))(DA:Df K mg "_law_alike" wL ["letters","edges","first","second","due"] fA fdA)(GA:FnOk P w K mg base CX0 11 fA fdA ["letters","edges","first","second","due"] (wW K))(hr:Room 11 (A.deeper (envOfC "law" (jJ AM) s.heap.objs.size f cdv))):Bx (PSs (AD P w K mg base f cdv A outer s H0 E) lpR4 (CM (Mp K) LwI)):=by
 have hr7:Room 7 _:=hr.mono (by decide);have hr8:Room 8 _:=hr.mono (by decide);have KR:KBs K fdR ["root","rest","low","high"]:=Fun.kbs DR.F (by decide) λkV doc pm an cdv ct ws hl=>by match ws,hl with | [a,b,c,d],_=>rfl
 refine .mk (PSs.imp (jC (jO (i:=10) scLaw.nd rfl (Or.inl rfl) (zS GR hr8 rfl DR.m DR.F.kp KR jK (qY (pv 13) (qY (pv 12) (qY (jQ (jA jF (jA jF jB))) (qY (jQ (jA jF (jA jF jB))) DX)))))) (jC (jO (i:=9) scLaw.nd rfl (Or.inl rfl) (jD GM hr7 rfl DM.m DM.F.kp DM.b .nil jK (jA (jD GM hr7 rfl DM.m DM.F.kp DM.b .nil jK (jA (pv 13) (jA (pv 13) jB))) (jA (pv 12) jB)))) (jE (kT (kZ (kU (jD GA hr rfl DA.m DA.F.kp DA.b .nil jK (jA jF (jA (pv 11) (jA (pv 10) (jA (jD GR hr8 rfl DR.m DR.F.kp DR.b .nil jK (jA (pv 13) (jA (pv 12) (jA (jQ (jA jF (jA jF jB))) (jA (jQ (jA jF (jA jF jB))) jB))))) (jA (pv 9) jB)))))))) (jE (jM xQ)) kC)))) λEn σ H h=>?_);try dsimp only[cxK]
 obtain⟨⟨t0,ga,gb,ee,e1,e2,et,eb⟩,go⟩:=h;rename_i a tp pe p1 p2 pt pb x y u2 u3 u4 u5 u6 u7 u8 u9 u10;have bs:=WP gb;refine⟨_,rfl,_,rfl,uM,λlo H1 n1 s1 el1=>⟨uM,λhi H2 n2 s2 eh=>?_⟩⟩;have s02:=s1.trans s2;refine⟨pb,pt,lo,hi,y,x,[([1],y)],rfl,eb.same s02,et.same s02,gb,ga,s2 _ _ el1,eh,λr1 H3 n3 s3 R1=>?_⟩;have s03:=s02.trans s3;dsimp only[jS];refine⟨_,rfl,_,rfl, ?_⟩;dsimp only[tNil];have hb:SmB K H3 pb 1 [([1],y)] 1 6 9 1:=⟨eb.same s03,bs.o,bs.b,bs.d,mW 1⟩;refine AY hb hb (by decide) 0 (by decide) (by decide) (by decide) λp4 P4 H4 n4 s4 h4 t4=>?_;refine⟨_,rfl, ?_⟩;dsimp only[tNil];refine AY h4 (smL gb ga (et.same (s03.trans s4))) (by decide) 1 (by decide) (by decide) (by decide) λp5 P5 H5 n5 s5 h5 t5=>?_;have s05:=s03.trans (s4.trans s5);have ed:∀μ,el μ P5=sqE [([1],y)] (λn=>el (λm=>μ (qC n m)) (xJ y x)):=fun μ=>by
  have q1:=hb.dq;have q2:=h4.dq;have q3:=(smL gb ga et).dq;rw[vK h4.o (BY gb ga) (by omega) t5,vK bs.o bs.o (by omega) t4]
 dsimp only[jS];refine⟨_,rfl,_,rfl,_,rfl,_,rfl,uM,λlo6 H6 n6 s6 e6=>⟨uM,λhi7 H7 n7 s7 e7=>?_⟩⟩;have s07:=s05.trans (s6.trans s7);refine⟨pb,pt,lo6,hi7,y,x,[([1],y)],rfl,eb.same s07,et.same s07,gb,ga,s7 _ _ e6,e7,λr2 H8 n8 s8 R2=>?_⟩;have s58:=s6.trans (s7.trans s8);have s08:=s05.trans s58;refine⟨_,rfl,1,pe,r1,r2,p5,[Lw.fdR xP,Lw.fdR yP],pcR y x [([1],y)],P5,rfl,by decide,by decide,⟨_,s08 _ _ ee,.cons ⟨p1,rfl,smX (e1.same s08)⟩ (.cons ⟨p2,rfl,smY (e2.same s08)⟩ .nil)⟩,R1.same ((s4.trans s5).trans s58),R2,(by show 19<=900;decide),h5.q.same s58,ZP bs (mW 1) gb ga okX okY h5.o ed,λH9 s9=>⟨_,rfl,qJ ?_⟩⟩;exact go _ _ (.mk (t0.same (s08.trans s9)))
end
def GJ(K:nI):Sp:=λvs H Q _=>∃(a:Addr) (ns:List Int),vs=[.ref a]/\SqL K H a (ns.map V.int)/\ns.length<=63/\∀H',Q (.bl true) H'
theorem ok_law(F:Fun K "law" "law" AM f fd)(T:Txt mg){fT fP fS fE fL fC fM fQ fW fR fA:Addr}{fdT fdP fdS fdE fdL fdC fdM fdQ fdW fdR fdA:FuncData}(DT:Df K mg "_law_tape" MT ["script"] fT fdT)(GT:FnOk P w K mg base CX0 1 fT fdT ["script"] (RZ K))(DP:Df K mg "_law_pick" FK ["tape","share"] fP fdP)(GP:FnOk P w K mg base CX0 1 fP fdP ["tape","share"] spPick)(DS:Df K mg "_law_straight" SR ["tape","letters"] fS fdS)(GS:FnOk P w K mg base CX0 3 fS fdS ["tape","letters"] spStr)(DE:Df K mg "_law_least" AL ["x","y"] fE fdE)(GE:FnOk P w K mg base CX0 1 fE fdE ["x","y"] spLeast)(DL:Df K mg "plus" wK ["one","other"] fL fdL)(GL:FnOk P w K mg base CX0 5 fL fdL ["one","other"] (zO K))(DC:Df K mg "scaled" xV ["one","number"] fC fdC)(GC:FnOk P w K mg base CX0 3 fC fdC ["one","number"] (yW K))(DM:Df K mg "times" yX ["one","other"] fM fdM)(GM:FnOk P w K mg base CX0 7 fM fdM ["one","other"] (yH K))(DQ:Df K mg "rows_of_squares" SV ["some"] fQ fdQ)(GQ:FnOk P w K mg base CX0 3 fQ fdQ ["some"] (SD K))(DW:Df K mg "rows_of_weights" SU ["number","rims","weights"] fW fdW)(GW:FnOk P w K mg base CX0 3 fW fdW ["number","rims","weights"] (SC K))(DR:Df K mg "rows_of_piece" SW ["root","rest","low","high"] fR fdR)(GR:FnOk P w K mg base CX0 8 fR fdR ["root","rest","low","high"] (SE K))(DA:Df K mg "_law_alike" wL ["letters","edges","first","second","due"] fA fdA)(GA:FnOk P w K mg base CX0 11 fA fdA ["letters","edges","first","second","due"] (wW K)):FnOk P w K mg base CX0 12 f fd ["script"] (GJ K):=by
 refine F.ok scLaw (λvs H Q E h=>?_) (λcdv A outer s H vs Q E hr h=>?_)
 ·obtain⟨a,ns,rfl,_⟩:=h
  rfl
 ·obtain⟨a,ns,rfl,ha,l63,go⟩:=h;have hr1:Room 1 _:=hr.mono (by decide);have hb:=law_1 (E:=E) (H0:=H) (outer:=outer) DP GP DS GS DE GE hr (law_2 T DL GL DC GC DM GM DQ GQ DA GA hr (law_3 DL GL DC GC DW GW DA GA hr (law_4 (law_5 DM GM DR GR DA GA hr))));rw[lp_eq]at hb;refine bx_ex ⟨_,AG ⟨jO (i:=1) scLaw.nd rfl (Or.inl rfl) (jD GT hr1 rfl DT.m DT.F.kp DT.b .nil jK (jA (pv 0) jB))⟩ (AG (bx_for PassesOwn.never rfl (qR (by rfl) T.rng (jA jF jB)) (jH (i:=2) scLaw.nd rfl (Or.inl rfl)) hb (by intro _;rfl)) (bx_one ⟨jM xQ⟩)), ?_⟩;try dsimp only[cxK]
  refine⟨_,rfl,a,ns,rfl,ha,l63,λtp H1 n1 s1 t1=>?_⟩;dsimp only[jS];refine⟨3,rfl,by decide,by decide,vH (n:=3) (λ_=>LwI) (.mk t1) (λi σ H2 hi h=>?_) (fun σ H2 h=>?_)⟩
  ·obtain⟨t2⟩:=h;refine⟨.mk t2,fun σ3 H3 h3=>⟨h3,fun σ4 H4 h4=>⟨h4,fun σ5 H5 h5=>⟨h5,fun σ6 H6 h6=>⟨h6,fun σ7 H7 h7=>h7⟩⟩⟩⟩⟩
  ·exact go H2
theorem len1{us:List Value}(h:us.length=1):∃a,us=[a]:=by cases us with | nil=>cases h | cons a r=>have e:r=[]:=List.length_eq_zero_iff.mp (by simpa using h);subst e;exact⟨a,rfl⟩
theorem len2{us:List Value}(h:us.length=2):∃a b,us=[a,b]:=by cases us with | nil=>cases h | cons a r=>obtain⟨b,rfl⟩:=len1 (us:=r) (by simpa using h);exact⟨a,b,rfl⟩
theorem len3{us:List Value}(h:us.length=3):∃a b c,us=[a,b,c]:=by cases us with | nil=>cases h | cons a r=>obtain⟨b,c,rfl⟩:=len2 (us:=r) (by simpa using h);exact⟨a,b,c,rfl⟩
theorem len4{us:List Value}(h:us.length=4):∃a b c d,us=[a,b,c,d]:=by cases us with | nil=>cases h | cons a r=>obtain⟨b,c,d,rfl⟩:=len3 (us:=r) (by simpa using h);exact⟨a,b,c,d,rfl⟩
theorem len5{us:List Value}(h:us.length=5):∃a b c d e,us=[a,b,c,d,e]:=by cases us with | nil=>cases h | cons a r=>obtain⟨b,c,d,e,rfl⟩:=len4 (us:=r) (by simpa using h);exact⟨a,b,c,d,e,rfl⟩
abbrev fo(x:Str)(st:Stmt)(kV dc pm:Value)(an:Option Addr)(cd ct:Value):FuncData:=PySem.W.fnOf x x (xX st) (vU st) (jJ st) .none kV dc pm an cd ct
abbrev BdA(x:Str)(st:Stmt)(ps:List Str)(us:List Value):Prop:=∀(kV dc pm:Value) (an:Option Addr) (cd ct:Value),bindArgs (fo x st kV dc pm an cd ct) ⟨us,[]⟩=pure (ps.zip us)
theorem bd1{x:Str}{st:Stmt}{ps:List Str}(hp:ps.length=1)(h:∀a,BdA x st ps [a]):∀us:List Value,us.length=ps.length->BdA x st ps us:=λus e=>by obtain⟨_,rfl⟩:=len1 (e.trans hp);exact λ_ _ _ _ _ _=>h ..
theorem bd2{x:Str}{st:Stmt}{ps:List Str}(hp:ps.length=2)(h:∀a b,BdA x st ps [a,b]):∀us:List Value,us.length=ps.length->BdA x st ps us:=λus e=>by obtain⟨_,_,rfl⟩:=len2 (e.trans hp);exact λ_ _ _ _ _ _=>h ..
theorem bd3{x:Str}{st:Stmt}{ps:List Str}(hp:ps.length=3)(h:∀a b c,BdA x st ps [a,b,c]):∀us:List Value,us.length=ps.length->BdA x st ps us:=λus e=>by obtain⟨_,_,_,rfl⟩:=len3 (e.trans hp);exact λ_ _ _ _ _ _=>h ..
theorem bd4{x:Str}{st:Stmt}{ps:List Str}(hp:ps.length=4)(h:∀a b c d,BdA x st ps [a,b,c,d]):∀us:List Value,us.length=ps.length->BdA x st ps us:=λus e=>by obtain⟨_,_,_,_,rfl⟩:=len4 (e.trans hp);exact λ_ _ _ _ _ _=>h ..
theorem bd5{x:Str}{st:Stmt}{ps:List Str}(hp:ps.length=5)(h:∀a b c d e,BdA x st ps [a,b,c,d,e]):∀us:List Value,us.length=ps.length->BdA x st ps us:=λus e=>by obtain⟨_,_,_,_,_,rfl⟩:=len5 (e.trans hp);exact λ_ _ _ _ _ _=>h ..
theorem df{K:nI}{h:Heap}{mg:Str->Option Value}{x:Str}{st:Stmt}(X:K.In h)(G:h.Ns mainGlobals mg)(A:FnAt K x st)(ps:List Str)(b:∀us:List Value,us.length=ps.length->BdA x st ps us):∃f fd,Df K mg x st ps f fd:=by
 obtain⟨a,l,c,k⟩:=A;exact⟨_,_,LR l c k,(LR l c k).binds λkV dc pm an cd ct us h=>b us h kV dc pm an cd ct,mK X G a⟩
theorem cst{K:nI}{h:Heap}{mg:Str->Option Value}{x:Str}{i j:Int}(X:K.In h)(G:h.Ns mainGlobals mg)(A:PrAt K x i j):Cst K mg x i j:=by
 obtain⟨a,l⟩:=A;exact⟨_,mK X G a,λH=>.inr ⟨_,_,_,l,rfl,rfl,by show 2<=sizeLine;decide,.cons ⟨_,rfl⟩ (.cons ⟨_,rfl⟩ .nil)⟩⟩
theorem bgp{K:nI}{h:Heap}{mg:Str->Option Value}(X:K.In h)(G:h.Ns mainGlobals mg)(A:BgAt K "TOO_LONG"):BgP mg:=by
 obtain⟨a,b⟩:=A;rename_i i t;refine⟨i,t,mK X G a, ?_⟩;have l:9000<=i.toNat.log2:=Nat.le_of_ble_eq_true b;have z:i.toNat≠0:=λz=>by rw[z]at l;exact absurd l (by decide)
 have g:2^7900<=i.toNat:=mN (uY (by decide) (mN (by decide) l)) (Nat.log2_self_le z);omega
theorem kdict{P:Program}{w:World}{K:nI}{h:Heap}{mg:Str->Option Value}(X:K.In h)(G:h.Ns mainGlobals mg)(A:KdAt w.params K):∃d f0 f1 f2 f3 f4:Addr,mg "KINDS" = some (.ref d)/\KDict P w K d (kdV f0 f1 f2 f3 f4)/\mg "rim_sum" = some (.ref f0)/\mg "number_sum" = some (.ref f1)/\mg "square_sum" = some (.ref f2)/\mg "plus_sum" = some (.ref f3)/\mg "times_sum" = some (.ref f4):=by
 obtain⟨a,l,m0,m1,m2,m3,m4,e0,e1,e2,e3,e4,s⟩:=A;rename_i d f0 f1 f2 f3 f4 _ _ _ _ _ _ _ _ _ _ _;refine⟨d,f0,f1,f2,f3,f4,mK X G a,⟨s,λh' X'=>⟨[(.inr "rim",.ref f0),(.inr "number",.ref f1),(.inr "square",.ref f2),(.inr "plus",.ref f3),(.inr "times",.ref f4)],.cons ⟨rfl,rfl⟩ (.cons ⟨rfl,rfl⟩ (.cons ⟨rfl,rfl⟩ (.cons ⟨rfl,rfl⟩ (.cons ⟨rfl,rfl⟩ .nil)))),_,_,_,X' _ _ l,⟨rfl,rfl,rfl⟩,rfl,λe he=>?_,.cons rfl rfl (.cons rfl rfl (.cons rfl rfl (.cons rfl rfl (.cons rfl rfl .nil)))),(show([.inr "rim",.inr "number",.inr "square",.inr "plus",.inr "times"]:List Key).Nodup by decide +kernel)⟩⟩,mK X G m0,mK X G m1,mK X G m2,mK X G m3,mK X G m4⟩;simp only[List.mem_toArray,mI,gU,or_false]at he;rcases he with rfl | rfl | rfl | rfl | rfl
 ·exact⟨.inr "rim",rfl,e0⟩
 ·exact⟨.inr "number",rfl,e1⟩
 ·exact⟨.inr "square",rfl,e2⟩
 ·exact⟨.inr "plus",rfl,e3⟩
 ·exact⟨.inr "times",rfl,e4⟩
theorem all_mk{l:PySem.W.OpenLaw}{w:World}{K:nI}{h:Heap}{mg:Str->Option Value}{fa:Addr}(X:K.In h)(G:h.Ns mainGlobals mg)(hfa:mg "law" = some (.ref fa))(A:Facts w.params K) :
  ∃fd:FuncData,(∀(s:Shared) (v:Value),BindsTo s fd ⟨[v],[]⟩ [("script",v)])/\∀base:Heap,K.In base->base.Ns mainGlobals mg->FnOk l.prog w K mg base CX0 12 fa fd ["script"] (GJ K):=by
 obtain @⟨f56,oc56,kV56,dc56,pm56,cd56,ct56,od56,an56,sl56,a56,l56,c56,k56⟩:=A.f56;obtain⟨v1⟩:=A.v1;obtain⟨v2⟩:=A.v2;obtain⟨v3⟩:=A.v3;obtain⟨v4⟩:=A.v4;obtain⟨v5⟩:=A.v5;obtain⟨v6⟩:=A.v6;have e:=hfa.symm.trans (mK X G a56);cases e;have T:Txt mg:={ isi:=gL X G A.z1,len:=gL X G A.z2,int:=gL X G A.z3,bool:=gL X G A.z4,tup:=gL X G A.z5,lst:=gL X G A.z6,str:=gL X G A.z18,abs:=gL X G A.z7,rng:=gL X G A.z8,lbits:=⟨_,mK X G v1⟩,all:=gL X G A.z16,sum:=gL X G A.z9,zip:=gL X G A.z10,sorted:=gL X G A.z11,letters:=⟨_,mK X G v2⟩,degree:=⟨_,mK X G v3⟩,terms:=⟨_,mK X G v4⟩,pack:=⟨_,mK X G v5⟩,short:=⟨_,mK X G v6⟩,enum:=gL X G A.z13,dct:=gL X G A.z15,max:=gL X G A.z12,rev:=gL X G A.z14,any:=gL X G A.z17 };have cA:=cst X G A.n1;have cB:=cst X G A.n4;have cC:=cst X G A.n2;have cD:=cst X G A.n5;have cE:=cst X G A.n3;have cF:=cst X G A.n6;have bg:=bgp X G A.bg;obtain⟨kA,g0,g1,g2,g3,g4,hk,kd,m0,m1,m2,m3,m4⟩:=kdict (P:=l.prog) X G A.kd;obtain⟨oa,hoa,_⟩:=cE;have F56:=LR (st:=AM) l56 c56 k56;obtain⟨f1,d1,D1⟩:=df X G A.f1 ["thing"] (bd1 rfl λ_ _ _ _ _ _ _=>rfl);obtain⟨f2,d2,D2⟩:=df X G A.f2 ["one","other"] (bd2 rfl λ_ _ _ _ _ _ _ _=>rfl)
 obtain⟨f3,d3,D3⟩:=df X G A.f3 ["thing"] (bd1 rfl λ_ _ _ _ _ _ _=>rfl);obtain⟨f4,d4,D4⟩:=df X G A.f4 ["one","other"] (bd2 rfl λ_ _ _ _ _ _ _ _=>rfl);obtain⟨f5,d5,D5⟩:=df X G A.f5 ["one","other"] (bd2 rfl λ_ _ _ _ _ _ _ _=>rfl);obtain⟨f6,d6,D6⟩:=df X G A.f6 ["one","other"] (bd2 rfl λ_ _ _ _ _ _ _ _=>rfl);obtain⟨f7,d7,D7⟩:=df X G A.f7 ["one","other"] (bd2 rfl λ_ _ _ _ _ _ _ _=>rfl);obtain⟨f8,d8,D8⟩:=df X G A.f8 ["thing","low"] (bd2 rfl λ_ _ _ _ _ _ _ _=>rfl);obtain⟨f9,d9,D9⟩:=df X G A.f9 ["thing","many"] (bd2 rfl λ_ _ _ _ _ _ _ _=>rfl);obtain⟨f10,d10,D10⟩:=df X G A.f10 ["thing","many"] (bd2 rfl λ_ _ _ _ _ _ _ _=>rfl);obtain⟨f11,d11,D11⟩:=df X G A.f11 ["thing"] (bd1 rfl λ_ _ _ _ _ _ _=>rfl);obtain⟨f12,d12,D12⟩:=df X G A.f12 ["one"] (bd1 rfl λ_ _ _ _ _ _ _=>rfl);obtain⟨f13,d13,D13⟩:=df X G A.f13 ["powers"] (bd1 rfl λ_ _ _ _ _ _ _=>rfl);obtain⟨f14,d14,D14⟩:=df X G A.f14 ["key","many"] (bd2 rfl λ_ _ _ _ _ _ _ _=>rfl);obtain⟨f15,d15,D15⟩:=df X G A.f15 ["one"] (bd1 rfl λ_ _ _ _ _ _ _=>rfl);obtain⟨f16,d16,D16⟩:=df X G A.f16 ["many","table"] (bd2 rfl λ_ _ _ _ _ _ _ _=>rfl);obtain⟨f17,d17,D17⟩:=df X G A.f17 ["one","other"] (bd2 rfl λ_ _ _ _ _ _ _ _=>rfl);obtain⟨f18,d18,D18⟩:=df X G A.f18 ["table"] (bd1 rfl λ_ _ _ _ _ _ _=>rfl);obtain⟨f19,d19,D19⟩:=df X G A.f19 ["heap"] (bd1 rfl λ_ _ _ _ _ _ _=>rfl);obtain⟨f20,d20,D20⟩:=df X G A.f20 ["one","other"] (bd2 rfl λ_ _ _ _ _ _ _ _=>rfl);obtain⟨f21,d21,D21⟩:=df X G A.f21 ["one","other"] (bd2 rfl λ_ _ _ _ _ _ _ _=>rfl)
 obtain⟨f22,d22,D22⟩:=df X G A.f22 ["one","other"] (bd2 rfl λ_ _ _ _ _ _ _ _=>rfl);obtain⟨f23,d23,D23⟩:=df X G A.f23 ["one","number"] (bd2 rfl λ_ _ _ _ _ _ _ _=>rfl);obtain⟨f24,d24,D24⟩:=df X G A.f24 ["some"] (bd1 rfl λ_ _ _ _ _ _ _=>rfl);obtain⟨f25,d25,D25⟩:=df X G A.f25 ["one"] (bd1 rfl λ_ _ _ _ _ _ _=>rfl);obtain⟨f26,d26,D26⟩:=df X G A.f26 ["one","start","pace"] (bd3 rfl λ_ _ _ _ _ _ _ _ _=>rfl);obtain⟨f27,d27,D27⟩:=df X G A.f27 ["many"] (bd1 rfl λ_ _ _ _ _ _ _=>rfl);obtain⟨f28,d28,D28⟩:=df X G A.f28 ["tops"] (bd1 rfl λ_ _ _ _ _ _ _=>rfl);obtain⟨f29,d29,D29⟩:=df X G A.f29 ["one","low","high"] (bd3 rfl λ_ _ _ _ _ _ _ _ _=>rfl);obtain⟨f30,d30,D30⟩:=df X G A.f30 ["one","low","high"] (bd3 rfl λ_ _ _ _ _ _ _ _ _=>rfl);obtain⟨f31,d31,D31⟩:=df X G A.f31 ["rows","row"] (bd2 rfl λ_ _ _ _ _ _ _ _=>rfl);obtain⟨f32,d32,D32⟩:=df X G A.f32 ["rows","place","weight"] (bd3 rfl λ_ _ _ _ _ _ _ _ _=>rfl);obtain⟨f33,d33,D33⟩:=df X G A.f33 ["rows","places"] (bd2 rfl λ_ _ _ _ _ _ _ _=>rfl);obtain⟨f34,d34,D34⟩:=df X G A.f34 ["some"] (bd1 rfl λ_ _ _ _ _ _ _=>rfl);obtain⟨f35,d35,D35⟩:=df X G A.f35 ["number","rims","weights"] (bd3 rfl λ_ _ _ _ _ _ _ _ _=>rfl);obtain⟨f36,d36,D36⟩:=df X G A.f36 ["rows","rim","most"] (bd3 rfl λ_ _ _ _ _ _ _ _ _=>rfl);obtain⟨f37,d37,D37⟩:=df X G A.f37 ["most","chosen"] (bd2 rfl λ_ _ _ _ _ _ _ _=>rfl);obtain⟨f38,d38,D38⟩:=df X G A.f38 ["rows","most"] (bd2 rfl λ_ _ _ _ _ _ _ _=>rfl);obtain⟨f39,d39,D39⟩:=df X G A.f39 ["root","rest","low","high"] (bd4 rfl λ_ _ _ _ _ _ _ _ _ _=>rfl)
 obtain⟨f40,d40,D40⟩:=df X G A.f40 ["thing","length"] (bd2 rfl λ_ _ _ _ _ _ _ _=>rfl);obtain⟨f41,d41,D41⟩:=df X G A.f41 ["one"] (bd1 rfl λ_ _ _ _ _ _ _=>rfl);obtain⟨f42,d42,D42⟩:=df X G A.f42 ["many","rims","found","rest"] (bd4 rfl λ_ _ _ _ _ _ _ _ _ _=>rfl);obtain⟨f43,d43,D43⟩:=df X G A.f43 ["many","rims","found","rest"] (bd4 rfl λ_ _ _ _ _ _ _ _ _ _=>rfl);obtain⟨f44,d44,D44⟩:=df X G A.f44 ["many","rims","found","rest"] (bd4 rfl λ_ _ _ _ _ _ _ _ _ _=>rfl);obtain⟨f45,d45,D45⟩:=df X G A.f45 ["found","rest"] (bd2 rfl λ_ _ _ _ _ _ _ _=>rfl);obtain⟨f46,d46,D46⟩:=df X G A.f46 ["many","rims","found","rest"] (bd4 rfl λ_ _ _ _ _ _ _ _ _ _=>rfl);obtain⟨f47,d47,D47⟩:=df X G A.f47 ["many","rims","found","rest"] (bd4 rfl λ_ _ _ _ _ _ _ _ _ _=>rfl);obtain⟨f48,d48,D48⟩:=df X G A.f48 ["many","rims","found","row"] (bd4 rfl λ_ _ _ _ _ _ _ _ _ _=>rfl);obtain⟨f49,d49,D49⟩:=df X G A.f49 ["many","rims","rows"] (bd3 rfl λ_ _ _ _ _ _ _ _ _=>rfl);obtain⟨f50,d50,D50⟩:=df X G A.f50 ["script"] (bd1 rfl λ_ _ _ _ _ _ _=>rfl);obtain⟨f51,d51,D51⟩:=df X G A.f51 ["tape","share"] (bd2 rfl λ_ _ _ _ _ _ _ _=>rfl);obtain⟨f52,d52,D52⟩:=df X G A.f52 ["x","y"] (bd2 rfl λ_ _ _ _ _ _ _ _=>rfl);obtain⟨f53,d53,D53⟩:=df X G A.f53 ["tape"] (bd1 rfl λ_ _ _ _ _ _ _=>rfl);obtain⟨f54,d54,D54⟩:=df X G A.f54 ["tape","letters"] (bd2 rfl λ_ _ _ _ _ _ _ _=>rfl);obtain⟨f55,d55,D55⟩:=df X G A.f55 ["letters","edges","first","second","due"] (bd5 rfl λ_ _ _ _ _ _ _ _ _ _ _=>rfl);have q0:=D42.m.symm.trans m0
 cases q0;have q1:=D43.m.symm.trans m1;cases q1;have q2:=D44.m.symm.trans m2;cases q2;have q3:=D46.m.symm.trans m3;cases q3;have q4:=D47.m.symm.trans m4;cases q4;refine⟨PySem.W.fnOf "law" "law" (xX AM) (vU AM) (jJ AM) .none kV56 dc56 pm56 an56 cd56 ct56,λs v=>.of_eq rfl,λbase _ _=>?_⟩;have G_whole:=EG (P:=l.prog) (w:=w) (base:=base) (mg:=mg) D1.F T;have G_gcd:=EH (P:=l.prog) (w:=w) (base:=base) (mg:=mg) D2.F T;have G_isf:=UM (P:=l.prog) (w:=w) (base:=base) (mg:=mg) D3.F T D1 D2;have G_mul:=UI (P:=l.prog) (w:=w) (base:=base) (mg:=mg) D6.F T D2;have G_divN:=NO (P:=l.prog) (w:=w) (base:=base) (mg:=mg) D7.F T D6 D2;have G_addF:=YW (P:=l.prog) (w:=w) (base:=base) (mg:=mg) D4.F T D2;have G_wf:=UC (P:=l.prog) (w:=w) (base:=base) (mg:=mg) D8.F T;have G_pw:=ok_pw (P:=l.prog) (w:=w) (base:=base) (mg:=mg) D9.F T D8;have G_term:=NN (P:=l.prog) (w:=w) (base:=base) (mg:=mg) D10.F T cA D8 D9 D3 D1 D2;have G_sum:=ok_sum (P:=l.prog) (w:=w) (base:=base) (mg:=mg) D11.F T cA D8 D9 D3 D1 D2 D10;have G_packed:=PY (P:=l.prog) (w:=w) (base:=base) (mg:=mg) D13.F T;have G_unpk:=YD (P:=l.prog) (w:=w) (base:=base) (mg:=mg) D14.F T;have G_tabOf:=UE (P:=l.prog) (w:=w) (base:=base) (mg:=mg) D15.F D13 G_packed;have G_tabAdd:=PV (P:=l.prog) (w:=w) (base:=base) (mg:=mg) D17.F T cA D4 G_addF;have G_degree:=QA (P:=l.prog) (w:=w) (base:=base) (mg:=mg) D12.F T;have G_sumOf:=UF (P:=l.prog) (w:=w) (base:=base) (mg:=mg) D16.F T cA D14 G_unpk D12 G_degree
 have G_plusS:=UG (P:=l.prog) (w:=w) (base:=base) (mg:=mg) D21.F D15 G_tabOf D17 G_tabAdd D16 G_sumOf;have G_scaled:=PX (P:=l.prog) (w:=w) (base:=base) (mg:=mg) D23.F D15 G_tabOf D6 G_mul D16 G_sumOf;have G_lev:=ok_lev (P:=l.prog) (w:=w) (base:=base) (mg:=mg) D18.F T D7 G_divN;have G_heap:=YR (P:=l.prog) (w:=w) (base:=base) (mg:=mg) D19.F cA D4 G_addF D7 G_divN;have G_tabMul:=PU (P:=l.prog) (w:=w) (base:=base) (mg:=mg) D20.F D18 G_lev D19 G_heap;have G_times:=UD (P:=l.prog) (w:=w) (base:=base) (mg:=mg) D22.F T D12 G_degree D15 G_tabOf D20 G_tabMul D16 G_sumOf;have G_tape:=YE (P:=l.prog) (w:=w) (base:=base) (mg:=mg) D50.F;have G_pick:=YM (P:=l.prog) (w:=w) (base:=base) (mg:=mg) D51.F;have G_least:=UL (P:=l.prog) (w:=w) (base:=base) (mg:=mg) D52.F T;have G_frac:=YS (P:=l.prog) (w:=w) (base:=base) (mg:=mg) D53.F D51 G_pick D52 G_least;have G_str:=ok_str (P:=l.prog) (w:=w) (base:=base) (mg:=mg) D54.F T D53 G_frac;have G_putR:=YK (P:=l.prog) (w:=w) (base:=base) (mg:=mg) D31.F T;have G_putW:=YI (P:=l.prog) (w:=w) (base:=base) (mg:=mg) D32.F D31 G_putR;have G_putT:=YJ (P:=l.prog) (w:=w) (base:=base) (mg:=mg) D33.F D31 G_putR;have G_rsq:=ok_rsq (P:=l.prog) (w:=w) (base:=base) (mg:=mg) D34.F cB D31 G_putR D32 G_putW D33 G_putT;have G_rwt:=ok_rwt (P:=l.prog) (w:=w) (base:=base) (mg:=mg) D35.F T D31 G_putR D32 G_putW D33 G_putT;have G_putP:=YL (P:=l.prog) (w:=w) (base:=base) (mg:=mg) D36.F T cD D31 G_putR;have G_ways:=YC (P:=l.prog) (w:=w) (base:=base) (mg:=mg) D37.F T
 have G_pairs:=UH (P:=l.prog) (w:=w) (base:=base) (mg:=mg) D38.F T D31 G_putR D32 G_putW D36 G_putP D37 G_ways;have G_level:=UJ (P:=l.prog) (w:=w) (base:=base) (mg:=mg) D24.F T D7 D6 D2;have G_allP:=YV (P:=l.prog) (w:=w) (base:=base) (mg:=mg) D25.F T cC D12 G_degree;have G_lessQ:=UK (P:=l.prog) (w:=w) (base:=base) (mg:=mg) D5.F D4 G_addF;have G_fac1:=YT (P:=l.prog) (w:=w) (base:=base) (mg:=mg) D27.F T;have G_mov:=ok_mov (P:=l.prog) (w:=w) (base:=base) (mg:=mg) D26.F T D24 G_level D25 G_allP;have G_spr:=ok_spr (P:=l.prog) (w:=w) (base:=base) (mg:=mg) D28.F T D27 G_fac1;have G_raw:=ok_raw (P:=l.prog) (w:=w) (base:=base) (mg:=mg) D29.F T hoa D26 G_mov D5 G_lessQ D28 G_spr D27 G_fac1;have G_numS:=YN (P:=l.prog) (w:=w) (base:=base) (mg:=mg) D30.F T D29 G_raw D7 G_divN;have G_isfN:=YQ (P:=l.prog) (w:=w) (base:=base) (mg:=mg) D3.F T D1 D2;have G_tabC:=YF (P:=l.prog) (w:=w) (base:=base) (mg:=mg) D15.F D13 G_packed;have G_scC:=ok_scC (P:=l.prog) (w:=w) (base:=base) (mg:=mg) D23.F D15 G_tabC D6 G_mul D16 G_sumOf;have G_plc:=ok_plc (P:=l.prog) (w:=w) (base:=base) (mg:=mg) D40.F T;have G_earl:=YU (P:=l.prog) (w:=w) (base:=base) (mg:=mg) D45.F T D40 G_plc;have G_long:=YO (P:=l.prog) (w:=w) (base:=base) (mg:=mg) D41.F T bg;have CK:∀r,∃fd',FnOk l.prog w K mg base CX0 8 (kdF g0 g1 g2 g3 g4 r) fd' ["many","rims","found","rest"] (IP K r)/\PySem.W.keepIn K (.ref (kdF g0 g1 g2 g3 g4 r))=true/\Binds K fd' ["many","rims","found","rest"] []:=λr=>match r with
  | .rim i=>⟨_,(YH D42.F T D40 G_plc).mono (by decide),D42.F.kp,D42.b⟩
  | .num x=>⟨_,(PZ D43.F T cF D3 G_isfN D23 G_scC).mono (by decide),D43.F.kp,D43.b⟩
  | .sq PP=>⟨_,ok_sqS D44.F T D11 G_sum D22 (G_times.mono (by decide)),D44.F.kp,D44.b⟩
  | .plus i j=>⟨_,(ok_plS D46.F T D45 G_earl D21 (G_plusS.mono (by decide))).mono (by decide),D46.F.kp,D46.b⟩
  | .times i j=>⟨_,ok_tiS D47.F T D45 G_earl D22 (G_times.mono (by decide)),D47.F.kp,D47.b⟩
 have G_one:=ok_one (P:=l.prog) (w:=w) (base:=base) (mg:=mg) D48.F T hk kd CK;have G_rows:=YG (P:=l.prog) (w:=w) (base:=base) (mg:=mg) D49.F T D48 G_one D41 G_long;have G_alike:=UN (P:=l.prog) (w:=w) (base:=base) (mg:=mg) D55.F D49 G_rows;have G_rpc:=ok_rpc (P:=l.prog) (w:=w) (base:=base) (mg:=mg) D39.F T D31 G_putR D32 G_putW D33 G_putT D36 G_putP D38 G_pairs D30 G_numS D12 G_degree;exact ok_law F56 T D50 G_tape D51 G_pick D54 G_str D52 G_least D21 (G_plusS.mono (by decide)) D23 G_scaled D22 (G_times.mono (by decide)) D34 G_rsq D35 G_rwt D39 G_rpc D55 G_alike
theorem walk{l:PySem.W.OpenLaw}{q:Program}{loose:List Str}{XP:(Str->Option Value)->Heap->Prop}{YP:World->Heap->Prop}{d:DefRec}{K:Params->nI}(hn:l.most=some 63)(hdf:d.params.defaults=[])
  (hY:∀(w:World) (h:Heap),YP w h->(K w.params).In h)
  (F:∀(w:World) (mg:Str->Option Value) (fa:Addr) (h:Heap),(K w.params).In h->h.Ns mainGlobals mg->mg d.name=some (.ref fa)->
   ∃fd:FuncData,(∀(s:Shared) (u:Value),BindsTo s fd ⟨[u],[]⟩ [("script",u)])/\∀base:Heap,(K w.params).In base->base.Ns mainGlobals mg->FnOk l.prog w (K w.params) mg base CX0 12 fa fd ["script"] (GJ (K w.params))) :
  PySem.W.WalkO q loose XP YP l.row.toRowW d [] (λf vs=>PySem.call f vs):=
 L2.WS (n:=63) (k:=12) (x:="script") (CX:=λ_=>CX0) (sp:=λw=>GJ (K w.params)) hn (by decide) hdf ⟨rfl,by decide,by decide⟩ hY F (λ_ _ a ns hl _ hS=>⟨a,ns,rfl,hS,hl,λ_=>rfl⟩) λ_ _ _ _ _ z=>z
end Lw
open PySem PySem.W PyProof.Rows
set_option maxRecDepth 100000 in
theorem PySem.Challenge.cw_lowwater_k87_rows_handed_by_names_holds : PySem.Challenge.rw_lowwater_k87_rows_handed_by_names.Holds := by
 refine Lw.head λK YP d A hY hd hn=>Lw.walk (l:=PySem.Challenge.rw_lowwater_k87_rows_handed_by_names) rfl hd hY λw mg fa h KX G hmg=>?_;rw[hn]at hmg;exact Lw.all_mk KX G hmg (A w.params)
end
